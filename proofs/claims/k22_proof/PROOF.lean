import PyProof.Rows.All
import Wide.All
import OpenK.AllK
import Wide.FinOn
import Lean
import PyProof.EqAt
import PyProof.EqKinds
import PyProof.TupleCall
import PyProof.EqLayable
import KE.KIntText
import PyProof.EnumMake
import PyProof.EnumStmt
import PyProof.EnumFor
import PyProof.Rows.EnumRows
import PyProof.ExcInit
import PyProof.ExcClass2
import PyProof.InstStoreFacts
import KE.KRevIter
import PySem.Challenge.RW_chancehall_k22_worths
def aj := @List.getElem?_eq_getElem
def ak := @List.length_map
def ao := @List.getElem?_eq_some_iff
def aq := @List.getElem?_map
def au := @List.getD_eq_getElem?_getD
def aA := @List.length_append
def aC := @List.mem_of_getElem?
def aD := @List.getElem?_append_right
def aF := @List.getElem?_append_left
def aG := @Nat.le_refl
def aH := @PySem.Heap.get?_push_of_some
def aJ := @List.mem_cons_of_mem
def aK := @PySem.Heap.lt_size
def aL := @Nat.le_trans
def aM := @List.getElem?_eq_none
def aN := @List.length_replicate
def aO := @List.mem_cons_self
def aP := @List.mem_append_right
def aQ := @Nat.ne_of_lt
def aR := @Nat.lt_of_lt_of_le
def aU := @List.getElem_mem
def aV := @List.getElem?_of_mem
def aW := @PySem.Heap.get?_push_size
def aX := @List.size_toArray
def aY := @List.length_take
def aZ := @Nat.zero_le
def bf := @List.map_append
def bh := @Bool.false_ne_true
open PySem.W (Frag instObj methodObj hideAll hideAll_get of_hideAll lookIn plainGet hasDictIn findIn handedIn plainGet_of findObj_own isFn plainOver takerIn set_plain looks_clsIn makesIn typeIn emptyDict looks_findIn keepIn specialIn mroIn kitOne kia_one kitx_list kitx_tuple callWith_K methodCall_KW codeIn nsIn mg_of excIn isNs_of_in clsIn looks_mroIn readsIn findCls method_cls cls_value notCls nsOkIn)
section
open PySem PySem.Spec PyProof.Rows
abbrev Γ:=List (Addr×Obj)
abbrev Δ:=List Value
abbrev Θ:=List Str
abbrev Φ:=List Addr
abbrev Ψ:=Option Value
abbrev Ω:=Option Addr
abbrev Ξ:=Int×Int
abbrev Β:=Value->Shared->Prop
def Zs:=@decide_eq_true
def Zp:=@decide_eq_false
def ZZ:=@if_neg
def ZY:=@if_pos
def ZU:=@wpAny_bind
def ZT:=@wpAny_pure
def ZH:=@congrArg
def Z3:=@Int.emod_nonneg
def YY:=@Int.emod_lt_of_pos
def YV:=@List.mem_map
def YU:=@List.mem_cons
def YR:=@List.mem_singleton
def Y1:=@List.mem_append
def Y2:=@Nat.le_of_lt
def Y3:=@Nat.lt_of_le_of_lt
def Xs:=@Nat.le_succ
def XZ:=@Int.mul_pos
def XY:=@Int.le_of_lt
def XX:=@Nat.lt_of_le_of_ne
def XW:=@Bool.false_eq_true
def XV:=@Rat.intCast_mul
def XU:=@Rat.mul_comm
def XT:=@Nat.pow_le_pow_right
def XG:=@Int.natAbs_natCast
def X0:=@List.getElem?_replicate
def X1:=@Nat.lt_succ_self
def X2:=@Nat.le_add_right
def X9:=@Nat.lt_irrefl
def Wp:=@Int.natCast_nonneg
def WZ:=@List.append_assoc
def WV:=@Nat.not_lt_zero
def WU:=@Nat.lt_add_right
def WS:=@Int.ne_of_gt
def WP:=@List.map_map
def WJ:=@List.length_range
def WG:=@PySem.boot_len
def WH:=@Nat.le_of_eq
def VZ:=@List.length_set
def VY:=@PassesOwn.never
def VX:=@Nat.mul_le_mul
def VW:=@List.getElem?_set_ne
def VU:=@List.not_mem_nil
def VT:=@List.length_zip
def VS:=@Int.natAbs_mul
def VQ:=@Nat.ne_of_gt
def Up:=@Nat.le_of_not_lt
def UZ:=@List.getElem?_range
def UY:=@List.getElem?_set_self
def UX:=@Nat.min_self
def UV:=@List.getElem_map
def UU:=@Nat.le_of_dvd
def UT:=@Nat.pow_add
def US:=@List.of_mem_zip
def UR:=@Rat.le_refl
def UQ:=@List.map_congr_left
def UP:=@List.length_drop
def UK:=@Nat.not_lt_of_le
def UH:=@Nat.le_of_lt_succ
def U1:=@List.mem_append_left
def U2:=@Nat.succ_pos
def Tx:=@Nat.one_pos
def Tu:=@Nat.le_of_ble_eq_true
def Ts:=@Nat.lt_trans
def Tk:=@Nat.add_sub_cancel_left
def Th:=@List.drop_eq_nil_of_le
def TZ:=@List.length_zipWith
def TW:=@Int.natCast_mul
def TU:=@Int.one_mul
def TR:=@Rat.divInt_eq_div
def TK:=@List.ext_getElem
def TH:=@Rat.le_trans
def JY:=@Nat.mul_pos
def JU:=@Int.lt_of_not_ge
def JS:=@Bool.and_eq_true
def JP:=@Int.gcd_dvd_right
def JJ:=@Rat.divInt_eq_divInt_iff
def Qr:=@Rat.divInt_add_divInt
def QY:=@Rat.divInt_mul_divInt
def QU:=@List.getElem_range
def QR:=@Rat.mul_le_mul_of_nonneg_left
def QQ:=@Nat.mul_le_mul_left
def QP:=@List.drop_eq_getElem_cons
def Q1:=@Rat.intCast_zero
def Q2:=@Int.mul_ediv_cancel_left
def Q3:=@Rat.mul_le_mul_of_nonneg_right
def Q4:=@Rat.divInt_nonneg
def Zzz:=@List.take_of_length_le
def Zzy:=@Int.fdiv_eq_ediv_of_nonneg
def Zzx:=@List.set_eq_of_length_le
def Zzw:=@Int.gcd_pos_of_ne_zero_right
def Zzv:=@Int.ediv_pos_of_pos_of_dvd
def Zzu:=@Nat.le_mul_of_pos_left
def Zzt:=@Int.eq_ofNat_of_zero_le
end
set_option Elab.async false
set_option linter.all false
set_option maxRecDepth 100000
set_option maxHeartbeats 4000000
namespace L2.Once
open PySem PySem.W
def z:Pos:=⟨0,0,0,0⟩
noncomputable def tE:Obj:=⟨.type "tuple",none,.seq ⟨[]⟩ 0,⟨[]⟩⟩
noncomputable def fE:Obj:=⟨.none,none,.fields ⟨[]⟩,⟨[]⟩⟩
noncomputable def tN(t:Nat)(l:Θ):Obj:=⟨.type "tuple",none,.seq ⟨(l.zipIdx t).map λx=>.str x.1 x.2⟩ 0,⟨[]⟩⟩
noncomputable def cO(n q:Str)(t:Nat)(l a f:Int)(r u:Nat):Obj:=⟨.type "code",none,.fields ⟨[.str n t,.str q (t+1),.str "/claim/cut.py" (t+2),.int l 0,.int a 0,.int 0 0,.int 0 0,.int f 0,.ref r,.bool true,.int 181 0,.ref (r+1),.none,.ref (r+2),.ref (r+3),.ref (r+4),.int u 0,.int l 0,.str "/claim/cut.py" (u+1)]⟩,⟨[]⟩⟩
def o11:Obj:={ cls:=.type "tuple",data:=.seq #[] }
def o12:Obj:={ cls:=.none,data:=.fields #[] }
def o13:Obj:={ cls:=.type "code",data:=.fields #[.str "<module>" 182,.str "<module>" 183,.str "/claim/cut.py" 184,.int 1 0,.int 0 0,.int 0 0,.int 0 0,.int 0 0,.ref 11,.bool false,.int 181 0,.ref 12,.none,.none,.none,.none,.int 185 0,.int 1 0,.str "/claim/cut.py" 186] }
def o14:Obj:={ cls:=.type "frame",slots:=#[some (.ref 13),some (.ref 3),some (.ref 3),none,some (.str "__main__" 164),none,some (.ref 0)] }
noncomputable def cP(n q:Str)(t:Nat)(l a f:Int)(r u:Nat):Obj:=⟨.type "code",none,.fields ⟨[.str n t,.str q (t+1),.str "/claim/cut.py" (t+2),.int l 0,.int a 0,.int 0 0,.int 0 0,.int f 0,.ref r,.bool true,.int 181 0,.ref (r+1),.none,.none,.none,.ref (r+2),.int u 0,.int l 0,.str "/claim/cut.py" (u+1)]⟩,⟨[]⟩⟩
noncomputable def dE(P:Params)(x:Str)(t:Nat)(v:Value):DictEntry:=⟨PyData.keyHash P x,.str x t,v⟩
abbrev lf(o:Obj):BT:=.node o .nil .nil
noncomputable def tr(P:Params):BT:=.node (boot_o_0 P)
 (.node (boot_o_1 P) (.node (boot_o_3 P) (lf (boot_o_7 P)) (lf o11)) (.node (boot_o_5 P) (lf (boot_o_9 P)) (lf o13)))
 (.node (boot_o_2 P) (.node (boot_o_4 P) (lf (boot_o_8 P)) (lf o12)) (.node (boot_o_6 P) (lf (boot_o_10 P)) (lf o14)))
noncomputable def S0(w:World)(os:OsState):Shared:=⟨boot_heap w.params,Array.mk [],boot_drawn,boot_toks,os⟩
noncomputable def Sa(w:World)(os:OsState):Shared:=⟨⟨Array.mk [boot_o_0 w.params,boot_o_1 w.params,boot_o_2 w.params,boot_o_3 w.params,boot_o_4 w.params,boot_o_5 w.params,boot_o_6 w.params,boot_o_7 w.params,boot_o_8 w.params,boot_o_9 w.params,boot_o_10 w.params,o11,o12,o13,o14],{}⟩,Array.mk [],{},187,os⟩
noncomputable def Sb(w:World)(os:OsState):SharedT:=⟨tr w.params,15,{},⟨[]⟩,{},187,os⟩
def env(p:Program):Env:={ scope:=p.main.scope,locals:=mainNs,globals:=mainNs,cells:=[],code:=.ref 13,frame:=some 14 }
def cE(p:Program):Code:=.body (behindTheImports p) (env p)
abbrev ann:Ψ:=some (.ref 6)
abbrev B:List Frame:=[topFrame z]
theorem size(w:World):((boot_heap w.params).isNs mainGlobals&&(Array.mk [] : Array GenState).size==0,(boot_heap w.params).objs.size,(boot_heap w.params).nsMap mainGlobals "__annotations__")=(true,11,ann):=by
 rw[Fast.te8920871248978507458];kernel_rfl
def mW(p:Program)(w:World)(M:Nat)(S:SharedT)(l:List Stmt)(q:Pos)(G:Shared->Prop):Prop:=∃s,topRun treeTable p w 11 ann M S.abs (restOf l (env p) (cE p) q B)=some s/\G s
theorem mW.cut{p:Program}{w:World}{n M:Nat}{S S':SharedT}{l1 l2:List Stmt}{q q':Pos}{G:Shared->Prop}(h:segRunT treeTable p w 11 ann 1 n S (piecesOf l1 (env p) (cE p) q B)=some (.next,S',cE p,q'))(k:mW p w M S' l2 q' G):mW p w (n+M) S (l1++l2) q G :=
 let⟨s,a,b⟩:=k
 ⟨s,piece_app (segRun_of h) a,b⟩
theorem mW.cutAt{p:Program}{w:World}{n m M:Nat}{S S':SharedT}{l:List Stmt}{q q':Pos}{G:Shared->Prop}(h:segRunT treeTable p w 11 ann 1 n S (piecesOf (l.take m) (env p) (cE p) q B)=some (.next,S',cE p,q'))(k:mW p w M S' (l.drop m) q' G):mW p w (n+M) S l q G:=by
 have:=mW.cut h k;rwa[List.take_append_drop]at this
def Good{α:Type}(p q:Program)(loose:Θ)(Xt:Shared->Bool)(Yf:Shared->α)(Ya:World->α)(g0:Bool)(w:World)(s:Shared):Prop :=
 (staticsOk (importedModules p.main.body) (boot_heap w.params) s.heap&&namesBound p s.heap&&gensDone s&&laidKept (boot_heap w.params) s.heap,openSeen q loose (importedModules p.main.body) Xt g0 s,Yf s)=(true,openGood q loose,Ya w)
theorem mW.last{p q:Program}{loose:Θ}{Xt:Shared->Bool}{α:Type}{Yf:Shared->α}{Ya:World->α}{g0:Bool}{w:World}{n k:Nat}{S:SharedT}{l:List Stmt}{q0 e:Pos}
 (big:(segRunT treeTable p w 11 ann 1 n S (piecesOf l (env p) (cE p) q0 B)).map (λr =>
    (r.1,r.2.2.1,r.2.2.2,(topRun treeTable p w 11 ann k r.2.1.abs ⟨doneF .next,cE p,e,B⟩).map λs =>
     (staticsOk (importedModules p.main.body) (boot_heap w.params) s.heap&&namesBound p s.heap&&gensDone s&&laidKept (boot_heap w.params) s.heap,openSeen q loose (importedModules p.main.body) Xt g0 s,Yf s))) =
   some (.next,cE p,e,some (true,openGood q loose,Ya w))):mW p w (n+k) S l q0 (Good p q loose Xt Yf Ya g0 w):=by
 obtain⟨⟨f,sT,c,ps⟩,r1,r2⟩:=Option.map_eq_some_iff.mp big;obtain⟨rfl,rfl,rfl,r3⟩ : f=.next/\c=cE p/\ps=e/\_:=by simpa only[Prod.mk.injEq]using r2
 obtain⟨s,t1,t2⟩:=Option.map_eq_some_iff.mp r3;have q1:=piece_app (rest:=[]) (segRun_of r1) (piece_nil t1);rw[List.append_nil]at q1;exact⟨s,q1,t2⟩
theorem V2{p q:Program}{loose:Θ}{Xt:Shared->Bool}{α:Type}{Yf:Shared->α}{Ya:World->α}{N:Nat}{g0:Bool}{a b M:Nat}
 (iN:∀w:World,(fencedOpening treeTable p w N).map (λs=>(s.heap,s.gens,s.drawn,s.toks))=some (boot_heap w.params,Array.mk [],boot_drawn,boot_toks))
 (pre:∀w:World,(λos=>topGo treeTable p w 11 ann a (S0 w os) (topStub p))=λos=>some (Sa w os,⟨denote treeTable (cE p),cE p,z,B⟩))
 (block:∀w:World,(λos=>segRun treeTable p w 11 ann 1 b (Sa w os) (blockOf (behindTheImports p) (env p) (cE p) z B))=λos=>some (.next,(Sb w os).abs,cE p,z))
 (ia:∀(w:World)(os:OsState),mW p w M (Sb w os) (behindTheImports p) z (Good p q loose Xt Yf Ya g0 w))
 (le:Nat.ble (a+(b+M)) N=true):LeftO p q loose Xt Yf Ya N g0:=λw=>by
 obtain⟨⟨h,gs,d,ks,os⟩,e1,e2⟩:=Option.map_eq_some_iff.mp (iN w);obtain⟨rfl,rfl,rfl,rfl⟩ : h=boot_heap w.params/\gs=Array.mk []/\d=boot_drawn/\ks=boot_toks:=by simpa using e2
 obtain⟨z1,z2,z3⟩ : _/\_/\_:=by simpa only[Prod.mk.injEq]using size w
 obtain⟨s,q1,t2⟩:=ia w os;obtain⟨l1,l2,l3⟩ : _/\_/\_:=by simpa only[Good,Prod.mk.injEq]using t2
 have q2:=go_top (congrFun (pre w) os) (piece_block (congrFun (block w) os) q1);have q3:=topRun_mono (N-(a+(b+M))) _ _ _ _ q2;rw[show a+(b+M)+(N-(a+(b+M)))=N by have:=Tu le;omega]at q3;have t:topFrom treeTable p w N ⟨boot_heap w.params,Array.mk [],boot_drawn,boot_toks,os⟩=some s:=by
  unfold topFrom;dsimp only;rw[z1,z2,z3,show topRun treeTable p w 11 ann N ⟨boot_heap w.params,Array.mk [],boot_drawn,boot_toks,os⟩ (topStub p)=some s from q3];show(match staticsOk (importedModules p.main.body) (boot_heap w.params) s.heap&&namesBound p s.heap&&gensDone s&&laidKept (boot_heap w.params) s.heap with|true=>_|false=>_)=_;rw[l1]
 unfold openEnds;rw[e1];show(topFrom treeTable p w N _).map _=_;rw[t];exact ZH some (Prod.ext l2 l3)
end L2.Once
namespace L2
open PySem
def iC(s:Stmt):Arguments:=match s with
 |.FunctionDef _ a _ _ _ _ _ _ _ _=>a
 |_=>{ posonlyargs:=[],args:=[],vararg:=none,kwonlyargs:=[],kw_defaults:=[],kwarg:=none,defaults:=[] }
def dH(s:Stmt):List Stmt:=match s with
 |.FunctionDef _ _ b _ _ _ _ _ _ _=>b
 |_=>[]
def bF(s:Stmt):Scope:=match s with
 |.FunctionDef _ _ _ _ _ _ sc _ _ _=>sc
 |_=>{ kind:=.function,names:=[],isGenerator:=false,isCoroutine:=false }
end L2
namespace K22
open PySem L2
def top(i:Nat):Stmt:=PySem.Challenge.pw_chancehall_k22_worths.main.body.getD i (.Pass ⟨0,0,0,0⟩)
def eX(i j:Nat):Stmt:=match top i with|.ClassDef _ _ _ b _ _ _ _ _ _ _=>b.getD j (.Pass ⟨0,0,0,0⟩)|_=>.Pass ⟨0,0,0,0⟩
end K22
namespace H22
open PySem PySem.W L2 L2.Once K22
noncomputable section
noncomputable abbrev p:Program:=PySem.Challenge.pw_chancehall_k22_worths
noncomputable section
def dR(P:Params)(x:Str)(t m:Nat):DictEntry:=dE P x t (.ref m)
noncomputable def wD(l:List DictEntry)(n:Nat):Obj:=⟨.type "dict",none,.dict ⟨l⟩ n,⟨[]⟩⟩
noncomputable def i3(a b:Nat)(c:Nat)(l:Δ):Δ:=.int a 0::.int b 0::.ref c::l
noncomputable def nd(o:Obj)(l r:BT):BT:=.node o l r
noncomputable def n1(o x:Obj):BT:=.node o (lf x) .nil
noncomputable def wA:Obj:=⟨.type "builtin_function_or_method",none,.fields ⟨[.builtin "type.__prepare__",.type "type"]⟩,⟨[]⟩⟩
noncomputable def wB(n:Nat):Obj:=⟨.type "builtin_function_or_method",none,.fields ⟨[.builtin "object.__init_subclass__",.ref n]⟩,⟨[]⟩⟩
noncomputable def wC(n:Str)(t l r u:Nat):Obj:=⟨.type "code",none,.fields ⟨[.str n t,.str n (t+1),.str "/claim/cut.py" (t+2),.int l 0,.int 0 0,.int 0 0,.int 0 0,.int 0 0,.ref r,.bool false,.int 181 0,.ref (r+1),.none,.none,.none,.none,.int u 0,.int l 0,.str "/claim/cut.py" (u+1)]⟩,⟨[]⟩⟩
noncomputable def wF(c d:Nat)(n:Str)(t:Nat):Obj:=⟨.type "frame",none,.plain,⟨[some (.ref c),some (.ref 3),some (.ref d),none,some (.str n t),none,some (.ref 0)]⟩⟩
noncomputable def wG(t n:Nat):Obj:=⟨.type "getset_descriptor",none,.fields ⟨[.str "__weakref__" t,.ref n,.builtin "ExceptionGroup.__weakref__",.none]⟩,⟨[]⟩⟩
noncomputable def wK(n:Str)(b m:Δ)(d:Nat)(s:Δ)(o:Ψ)(t u:Nat)(x:String):Obj:=⟨.type "type",none,.cls ⟨n,b,m,d,n,true,[],s,false,none,false⟩,⟨[o,none,some (.str n t),some (.str n u),some (.builtin x),some (.bool true)]⟩⟩
noncomputable def wS(n:Nat):Obj:=⟨.type "super",none,.fields ⟨[.ref n,.ref n,.ref n]⟩,⟨[]⟩⟩
noncomputable def wT(n:Nat):Obj:=⟨.type "tuple",none,.seq ⟨[.ref n]⟩ 0,⟨[]⟩⟩
noncomputable def fO(n q:Str)(s:Stmt)(m:Value)(c:Nat):Obj:=⟨.type "function",none,.func (fnOf n q (iC s) (dH s) (bF s) .none .none .none m none (.ref c) .none),⟨[]⟩⟩
noncomputable def fT(n q:Str)(s:Stmt):Obj:=⟨.none,none,.func { fnOf n q (iC s) (dH s) (bF s) .none .none .none .none none .none .none with globals:=0,builtins:=0 },⟨[]⟩⟩
def amJ(P:Params):Obj:=wD (dE P "__name__" 165 (.str "law_chancehall_k22_worths" 941)::dE P "__doc__" 166 .none::dE P "__package__" 167 .none::dE P "__loader__" 168 (.builtin "__main__.__loader__#opaque")::dE P "__spec__" 169 .none::dR P "__annotations__" 170 6::dR P "__builtins__" 171 4::dE P "__file__" 173 (.str "/claim/cut.py" 172)::dE P "__cached__" 174 .none::dR P "_wall" 193 21::dR P "HallError" 213 31::dR P "NoNumber" 229 44::dR P "NoName" 245 56::dR P "NoChance" 261 68::dR P "NoShare" 277 80::dR P "NoRoom" 302 99::dR P "NoPlan" 327 118::dR P "is_whole" 336 127::dR P "divisor" 347 134::dR P "NOUGHT" 352 135::dR P "ONE" 355 136::dR P "ratio" 364 143::dR P "is_ratio" 373 150::dR P "plus" 381 157::dR P "minus" 389 164::dR P "times" 397 171::dR P "over" 405 178::dR P "under" 413 185::dR P "level" 421 190::dR P "total" 429 197::dR P "fits" 439 204::dR P "check_plan" 449 211::dR P "lowest" 457 216::dR P "row_times" 463 221::dR P "row_plus" 469 226::dR P "take_step" 478 233::dR P "number_at" 486 240::dR P "fractions_of" 492 245::dR P "first_from" 502 252::dR P "go_on" 511 259::dR P "begin_row" 523 266::dR P "clear_column" 535 273::dR P "reduced" 541 278::dR P "width_of" 550 285::dR P "with_rights" 556 290::dR P "begins_of" 562 295::dR P "odd_row" 572 302::dR P "answer_of" 584 309::dR P "single_rows" 590 314::dR P "only_answer" 601 321::dR P "chosen_doors" 609 326::dR P "left_rows" 622 333::dR P "worths_of" 628 338::dE P "LONGEST_WORD" 632 (.int 8 631)::dR P "is_word" 638 343::dR P "check_head" 648 350::dR P "check_room_name" 655 357::dR P "check_chance" 662 364::dR P "check_pairs" 668 369::dR P "joined_ways" 674 374::dR P "Door" 721 405::dR P "Sure" 748 426::dR P "Mixed" 775 445::dR P "Toss" 803 464::dR P "Even" 825 481::dR P "check_share" 834 490::dR P "numbers_of" 844 497::dR P "numbered_ways" 855 504::dR P "offers_of" 866 511::dR P "Hall" 940 566::dR P "_law_cell" 950 577::dR P "_law_stream" 962 584::dR P "_law_gcd" 972 591::dR P "_law_ratio" 981 598::dR P "_law_is_ratio" 989 605::dR P "_law_are_ratios" 995 610::dR P "_law_same" 1003 617::dR P "_law_names" 1009 622::dR P "_law_share" 1018 629::dR P "_law_pay" 1027 636::dR P "_law_door" 1033 641::dR P "_law_doors" 1039 646::dR P "_law_built" 1045 651::dR P "_law_hall" 1051 656::dR P "_law_chosen" 1062 663::dR P "_law_look" 1076 670::dR P "_law_size" 1084 677::dR P "_law_right" 1096 684::dR P "_law_odd" 1104 691::dR P "_law_spoilt" 1118 698::dR P "_law_refused" 1127 705::[]) 91
def aiP:Obj:=⟨.none,none,.fields ⟨i3 1 0 20 <|i3 5 0 27 <|i3 7 0 40 <|i3 9 0 52 <|i3 11 0 64 <|i3 13 0 76 <|i3 15 0 88 <|i3 20 0 107 <|i3 26 0 126 <|i3 28 0 133 <|i3 39 0 142 <|i3 48 0 149 <|i3 56 0 156 <|i3 58 0 163 <|i3 60 0 170 <|i3 62 0 177 <|i3 64 0 184 <|i3 67 0 189 <|i3 72 0 196 <|i3 76 0 203 <|i3 80 0 210 <|i3 88 0 215 <|i3 93 0 220 <|i3 95 0 225 <|i3 102 0 232 <|i3 111 0 239 <|i3 113 0 244 <|i3 115 0 251 <|i3 120 0 258 <|i3 123 0 265 <|i3 129 0 272 <|i3 134 0 277 <|i3 146 0 284 <|i3 150 0 289 <|i3 152 0 294 <|i3 159 0 301 <|i3 164 0 308 <|i3 169 0 313 <|i3 171 0 320 <|i3 179 0 325 <|i3 181 0 332 <|i3 188 0 337 <|i3 195 0 342 <|i3 200 0 349 <|i3 205 0 356 <|i3 208 0 363 <|i3 211 0 368 <|i3 217 0 373 <|i3 222 0 380 <|i3 235 0 415 <|i3 241 0 434 <|i3 247 0 453 <|i3 253 0 472 <|i3 258 0 489 <|i3 261 0 496 <|i3 269 0 503 <|i3 276 0 510 <|i3 285 0 517 <|i3 315 0 576 <|i3 317 0 583 <|i3 328 0 590 <|i3 333 0 597 <|i3 336 0 604 <|i3 343 0 609 <|i3 347 0 616 <|i3 349 0 621 <|i3 358 0 628 <|i3 362 0 635 <|i3 370 0 640 <|i3 387 0 645 <|i3 397 0 650 <|i3 407 0 655 <|i3 414 0 662 <|i3 423 0 669 <|i3 433 0 676 <|i3 440 0 683 <|i3 450 0 690 <|i3 454 0 697 <|i3 468 0 704 <|[]⟩,⟨[]⟩⟩
def q21:Obj:=fO "_wall" "_wall" (top 0) (.str "__main__" 164) 20
noncomputable def q22:Obj:=⟨.type "tuple",none,.seq ⟨.type "ValueError"::[]⟩ 0,⟨[]⟩⟩
def q23:Obj:=wA
def q24(P:Params):Obj:=wD (dE P "__module__" 203 (.str "chancehall.errors" 194)::dE P "__qualname__" 205 (.str "HallError" 204)::dE P "__firstlineno__" 207 (.int 5 206)::dR P "__static_attributes__" 208 29::[]) 4
def q27:Obj:=wC "HallError" 198 5 25 201
def q28:Obj:=wF 27 24 "chancehall.errors" 194
def q30(P:Params):Obj:=wD (dE P "__module__" 203 (.str "chancehall.errors" 194)::dE P "__firstlineno__" 207 (.int 5 206)::dR P "__static_attributes__" 208 29::dR P "__weakref__" 210 32::dE P "__doc__" 211 .none::[]) 3
def q31:Obj:=wK "HallError" [.type "ValueError"] [.ref 31,.type "ValueError",.type "Exception",.type "BaseException",.type "object"] 30 [.ref 44,.ref 56,.ref 68,.ref 80,.ref 99,.ref 118] (some (.ref 22)) 196 204 "ValueError.__new__"
def q32:Obj:=wG 209 31
def q33:Obj:=wS 31
def q34:Obj:=wB 31
def q35:Obj:=wT 31
def q36:Obj:=wA
def q37(P:Params):Obj:=wD (dE P "__module__" 221 (.str "chancehall.errors" 194)::dE P "__qualname__" 223 (.str "NoNumber" 222)::dE P "__firstlineno__" 225 (.int 7 224)::dR P "__static_attributes__" 226 42::[]) 4
def q40:Obj:=wC "NoNumber" 216 7 38 219
def q41:Obj:=wF 40 37 "chancehall.errors" 194
def q43(P:Params):Obj:=wD (dE P "__module__" 221 (.str "chancehall.errors" 194)::dE P "__firstlineno__" 225 (.int 7 224)::dR P "__static_attributes__" 226 42::dE P "__doc__" 227 .none::[]) 2
def q44:Obj:=wK "NoNumber" [.ref 31] [.ref 44,.ref 31,.type "ValueError",.type "Exception",.type "BaseException",.type "object"] 43 [] (some (.ref 35)) 214 222 "ValueError.__new__"
def q45:Obj:=wS 44
def q46:Obj:=wB 44
def q47:Obj:=wT 31
def q48:Obj:=wA
def q49(P:Params):Obj:=wD (dE P "__module__" 237 (.str "chancehall.errors" 194)::dE P "__qualname__" 239 (.str "NoName" 238)::dE P "__firstlineno__" 241 (.int 9 240)::dR P "__static_attributes__" 242 54::[]) 4
def q52:Obj:=wC "NoName" 232 9 50 235
def q53:Obj:=wF 52 49 "chancehall.errors" 194
def q55(P:Params):Obj:=wD (dE P "__module__" 237 (.str "chancehall.errors" 194)::dE P "__firstlineno__" 241 (.int 9 240)::dR P "__static_attributes__" 242 54::dE P "__doc__" 243 .none::[]) 2
def q56:Obj:=wK "NoName" [.ref 31] [.ref 56,.ref 31,.type "ValueError",.type "Exception",.type "BaseException",.type "object"] 55 [] (some (.ref 47)) 230 238 "ValueError.__new__"
def q57:Obj:=wS 56
def q58:Obj:=wB 56
def q59:Obj:=wT 31
def q60:Obj:=wA
def q61(P:Params):Obj:=wD (dE P "__module__" 253 (.str "chancehall.errors" 194)::dE P "__qualname__" 255 (.str "NoChance" 254)::dE P "__firstlineno__" 257 (.int 11 256)::dR P "__static_attributes__" 258 66::[]) 4
def q64:Obj:=wC "NoChance" 248 11 62 251
def q65:Obj:=wF 64 61 "chancehall.errors" 194
def q67(P:Params):Obj:=wD (dE P "__module__" 253 (.str "chancehall.errors" 194)::dE P "__firstlineno__" 257 (.int 11 256)::dR P "__static_attributes__" 258 66::dE P "__doc__" 259 .none::[]) 2
def q68:Obj:=wK "NoChance" [.ref 31] [.ref 68,.ref 31,.type "ValueError",.type "Exception",.type "BaseException",.type "object"] 67 [] (some (.ref 59)) 246 254 "ValueError.__new__"
def q69:Obj:=wS 68
def q70:Obj:=wB 68
def q71:Obj:=wT 31
def q72:Obj:=wA
def q73(P:Params):Obj:=wD (dE P "__module__" 269 (.str "chancehall.errors" 194)::dE P "__qualname__" 271 (.str "NoShare" 270)::dE P "__firstlineno__" 273 (.int 13 272)::dR P "__static_attributes__" 274 78::[]) 4
def q76:Obj:=wC "NoShare" 264 13 74 267
def q77:Obj:=wF 76 73 "chancehall.errors" 194
def q79(P:Params):Obj:=wD (dE P "__module__" 269 (.str "chancehall.errors" 194)::dE P "__firstlineno__" 273 (.int 13 272)::dR P "__static_attributes__" 274 78::dE P "__doc__" 275 .none::[]) 2
def q80:Obj:=wK "NoShare" [.ref 31] [.ref 80,.ref 31,.type "ValueError",.type "Exception",.type "BaseException",.type "object"] 79 [] (some (.ref 71)) 262 270 "ValueError.__new__"
def q81:Obj:=wS 80
def q82:Obj:=wB 80
def q83:Obj:=wT 31
def q84:Obj:=wA
def q85(P:Params):Obj:=wD (dE P "__module__" 285 (.str "chancehall.errors" 194)::dE P "__qualname__" 287 (.str "NoRoom" 286)::dE P "__firstlineno__" 289 (.int 15 288)::dR P "__init__" 297 96::dR P "__static_attributes__" 299 97::[]) 5
def q87:Obj:=⟨.none,none,.fields ⟨i3 17 4 95 <|[]⟩,⟨[]⟩⟩
def q88:Obj:=wC "NoRoom" 280 15 86 283
def q89:Obj:=wF 88 85 "chancehall.errors" 194
def q95:Obj:=cO "__init__" "NoRoom.__init__" 290 17 2 3 90 295
def q96:Obj:=fO "__init__" "NoRoom.__init__" (eX 7 0) (.str "chancehall.errors" 194) 95
def q98(P:Params):Obj:=wD (dE P "__module__" 285 (.str "chancehall.errors" 194)::dE P "__firstlineno__" 289 (.int 15 288)::dR P "__init__" 297 96::dR P "__static_attributes__" 299 97::dE P "__doc__" 300 .none::[]) 2
def q99:Obj:=wK "NoRoom" [.ref 31] [.ref 99,.ref 31,.type "ValueError",.type "Exception",.type "BaseException",.type "object"] 98 [] (some (.ref 83)) 278 286 "ValueError.__new__"
def akY:Obj:=wS 99
def akJ:Obj:=wB 99
def aiH:Obj:=wT 31
def alZ:Obj:=wA
def amI(P:Params):Obj:=wD (dE P "__module__" 310 (.str "chancehall.errors" 194)::dE P "__qualname__" 312 (.str "NoPlan" 311)::dE P "__firstlineno__" 314 (.int 20 313)::dR P "__init__" 322 115::dR P "__static_attributes__" 324 116::[]) 5
def amb:Obj:=⟨.none,none,.fields ⟨i3 22 4 114 <|[]⟩,⟨[]⟩⟩
def ams:Obj:=wC "NoPlan" 305 20 105 308
def amn:Obj:=wF 107 104 "chancehall.errors" 194
def ajU:Obj:=cO "__init__" "NoPlan.__init__" 315 22 2 3 109 320
def ait:Obj:=fO "__init__" "NoPlan.__init__" (eX 8 0) (.str "chancehall.errors" 194) 114
def aiR(P:Params):Obj:=wD (dE P "__module__" 310 (.str "chancehall.errors" 194)::dE P "__firstlineno__" 314 (.int 20 313)::dR P "__init__" 322 115::dR P "__static_attributes__" 324 116::dE P "__doc__" 325 .none::[]) 2
def ag8:Obj:=wK "NoPlan" [.ref 31] [.ref 118,.ref 31,.type "ValueError",.type "Exception",.type "BaseException",.type "object"] 117 [] (some (.ref 102)) 303 311 "ValueError.__new__"
def al2:Obj:=wS 118
def ak6:Obj:=wB 118
def ajO:Obj:=fO "is_whole" "is_whole" (top 10) (.str "chancehall.wholes" 328) 126
def ai2:Obj:=tN 340 ["one","other","left","right","rest"]
def aj5:Obj:=fO "divisor" "divisor" (top 11) (.str "chancehall.wholes" 328) 133
noncomputable def aki:Obj:=⟨.type "tuple",none,.seq ⟨.int 0 350::.int 1 351::[]⟩ 0,⟨[]⟩⟩
noncomputable def ajZ:Obj:=⟨.type "tuple",none,.seq ⟨.int 1 353::.int 1 354::[]⟩ 0,⟨[]⟩⟩
def ajL:Obj:=fO "ratio" "ratio" (top 15) (.str "chancehall.ratios" 348) 142
def aku:Obj:=fO "is_ratio" "is_ratio" (top 16) (.str "chancehall.ratios" 348) 149
def agT:Obj:=fO "plus" "plus" (top 17) (.str "chancehall.ratios" 348) 156
def ajG:Obj:=fO "minus" "minus" (top 18) (.str "chancehall.ratios" 348) 163
def aiu:Obj:=fO "times" "times" (top 19) (.str "chancehall.ratios" 348) 170
def ajy:Obj:=fO "over" "over" (top 20) (.str "chancehall.ratios" 348) 177
def agF:Obj:=fO "under" "under" (top 21) (.str "chancehall.ratios" 348) 184
def agd:Obj:=fO "level" "level" (top 23) (.str "chancehall.levels" 414) 189
def ajY:Obj:=fO "total" "total" (top 24) (.str "chancehall.levels" 414) 196
def aiw:Obj:=fO "fits" "fits" (top 26) (.str "chancehall.plans" 430) 203
def ahu:Obj:=cO "check_plan" "check_plan" 440 80 2 3 205 447
def ahD:Obj:=fO "check_plan" "check_plan" (top 27) (.str "chancehall.plans" 430) 210
def ahh:Obj:=fO "lowest" "lowest" (top 29) (.str "chancehall.papers" 450) 215
def aiJ:Obj:=cP "row_times" "row_times" 458 93 2 3 217 461
def aga:Obj:=fO "row_times" "row_times" (top 30) (.str "chancehall.papers" 450) 220
def aiZ:Obj:=fO "row_plus" "row_plus" (top 31) (.str "chancehall.papers" 450) 225
def ail:Obj:=cO "take_step" "take_step" 470 102 2 3 227 476
def aif:Obj:=fO "take_step" "take_step" (top 32) (.str "chancehall.papers" 450) 232
def ah0:Obj:=cO "number_at" "number_at" 479 111 2 3 234 484
def akg:Obj:=fO "number_at" "number_at" (top 33) (.str "chancehall.papers" 450) 239
def aiq:Obj:=cP "fractions_of" "fractions_of" 487 113 1 3 241 490
def agc:Obj:=fO "fractions_of" "fractions_of" (top 34) (.str "chancehall.papers" 450) 244
def aj6:Obj:=tN 496 ["leveled","place","column","row"]
def agW:Obj:=cO "first_from" "first_from" 493 115 3 3 246 500
def ajV:Obj:=fO "first_from" "first_from" (top 35) (.str "chancehall.papers" 450) 251
def af6:Obj:=fO "go_on" "go_on" (top 36) (.str "chancehall.papers" 450) 258
def aj4:Obj:=tN 515 ["leveled","steps","place","found","column","first"]
def ahg:Obj:=cO "begin_row" "begin_row" 512 123 5 3 260 521
def akb:Obj:=fO "begin_row" "begin_row" (top 37) (.str "chancehall.papers" 450) 265
def ahn:Obj:=tN 527 ["leveled","steps","place","column","row","often"]
def aj1:Obj:=cO "clear_column" "clear_column" 524 129 4 3 267 533
def ain:Obj:=fO "clear_column" "clear_column" (top 38) (.str "chancehall.papers" 450) 272
def ajq:Obj:=fO "reduced" "reduced" (top 39) (.str "chancehall.papers" 450) 277
def aiA:Obj:=cO "width_of" "width_of" 544 146 1 3 279 548
def aj7:Obj:=fO "width_of" "width_of" (top 41) (.str "chancehall.solving" 542) 284
def ai8:Obj:=cP "with_rights" "with_rights" 551 150 2 3 286 554
def af9:Obj:=fO "with_rights" "with_rights" (top 42) (.str "chancehall.solving" 542) 289
def ahc:Obj:=cP "begins_of" "begins_of" 557 152 2 3 291 560
def aib:Obj:=fO "begins_of" "begins_of" (top 43) (.str "chancehall.solving" 542) 294
def aiy:Obj:=fO "odd_row" "odd_row" (top 44) (.str "chancehall.solving" 542) 301
def ahM:Obj:=tN 576 ["end","begins","wide","answer","row","column"]
def aiF:Obj:=cO "answer_of" "answer_of" 573 164 3 3 303 582
def ahF:Obj:=fO "answer_of" "answer_of" (top 45) (.str "chancehall.solving" 542) 308
def ahG:Obj:=cP "single_rows" "single_rows" 585 169 1 3 310 588
def ajp:Obj:=fO "single_rows" "single_rows" (top 46) (.str "chancehall.solving" 542) 313
def ahU:Obj:=tN 594 ["rows","rights","wide","end","begins"]
def ajc:Obj:=cO "only_answer" "only_answer" 591 171 2 3 315 599
def agX:Obj:=fO "only_answer" "only_answer" (top 47) (.str "chancehall.solving" 542) 320
def ahe:Obj:=cP "chosen_doors" "chosen_doors" 604 179 2 3 322 607
def af8:Obj:=fO "chosen_doors" "chosen_doors" (top 49) (.str "chancehall.worths" 602) 325
def ai7:Obj:=tN 613 ["share","chosen","rows","room","offer","behind","chance"]
def aiB:Obj:=cO "left_rows" "left_rows" 610 181 2 3 327 620
def aht:Obj:=fO "left_rows" "left_rows" (top 50) (.str "chancehall.worths" 602) 332
def aiS:Obj:=cP "worths_of" "worths_of" 623 188 2 3 334 626
def agP:Obj:=fO "worths_of" "worths_of" (top 51) (.str "chancehall.worths" 602) 337
def ahi:Obj:=fO "is_word" "is_word" (top 54) (.str "chancehall.words" 629) 342
def ajW:Obj:=cO "check_head" "check_head" 641 200 2 3 344 646
def ajF:Obj:=fO "check_head" "check_head" (top 56) (.str "chancehall.doors" 639) 349
def ak7:Obj:=fT "check_room_name" "check_room_name" (top 57)
def aie:Obj:=cO "check_room_name" "check_room_name" 649 205 1 3 351 653
def ahw:Obj:=fO "check_room_name" "check_room_name" (top 57) (.str "chancehall.doors" 639) 356
def akc:Obj:=cO "check_chance" "check_chance" 656 208 1 3 358 660
def ah4:Obj:=fO "check_chance" "check_chance" (top 58) (.str "chancehall.doors" 639) 363
def ahx:Obj:=cP "check_pairs" "check_pairs" 663 211 1 3 365 666
def agh:Obj:=fO "check_pairs" "check_pairs" (top 59) (.str "chancehall.doors" 639) 368
def ag5:Obj:=cP "joined_ways" "joined_ways" 669 217 1 3 370 672
def ahV:Obj:=fO "joined_ways" "joined_ways" (top 60) (.str "chancehall.doors" 639) 373
def alU:Obj:=wA
def ami(P:Params):Obj:=wD (dE P "__module__" 682 (.str "chancehall.doors" 639)::dE P "__qualname__" 684 (.str "Door" 683)::dE P "__firstlineno__" 686 (.int 222 685)::dR P "__init__" 695 388::dR P "ways" 702 395::dR P "chance_to" 710 402::dR P "__static_attributes__" 714 403::[]) 7
def amC:Obj:=⟨.none,none,.fields ⟨i3 224 4 387 <|i3 230 4 394 <|i3 233 4 401 <|[]⟩,⟨[]⟩⟩
def akB:Obj:=wC "Door" 677 222 378 680
def akP:Obj:=wF 380 377 "chancehall.doors" 639
def aho:Obj:=cO "__init__" "Door.__init__" 687 224 3 3 382 693
def ajd:Obj:=fO "__init__" "Door.__init__" (eX 61 0) (.str "chancehall.doors" 639) 387
def af4:Obj:=fO "ways" "Door.ways" (eX 61 1) (.str "chancehall.doors" 639) 394
def ahB:Obj:=cO "chance_to" "Door.chance_to" 703 233 2 3 396 708
def agH:Obj:=fO "chance_to" "Door.chance_to" (eX 61 2) (.str "chancehall.doors" 639) 401
def ag6(P:Params):Obj:=wD (dE P "__module__" 682 (.str "chancehall.doors" 639)::dE P "__firstlineno__" 686 (.int 222 685)::dR P "__init__" 695 388::dR P "ways" 702 395::dR P "chance_to" 710 402::dR P "__static_attributes__" 714 403::dR P "__dict__" 716 406::dR P "__weakref__" 718 407::dE P "__doc__" 719 .none::[]) 4
def agt:Obj:=wK "Door" [.type "object"] [.ref 405,.type "object"] 404 [.ref 426,.ref 445] none 675 683 "object.__new__"
noncomputable def ahY:Obj:=⟨.type "getset_descriptor",none,.fields ⟨.str "__dict__" 715::.ref 405::.builtin "function.__dict__"::.builtin "function.__dict__#set"::[]⟩,⟨[]⟩⟩
def af7:Obj:=wG 717 405
def akN:Obj:=wS 405
def alV:Obj:=wB 405
def ahq:Obj:=wT 405
def ak2:Obj:=wA
def amH(P:Params):Obj:=wD (dE P "__module__" 729 (.str "chancehall.doors" 639)::dE P "__qualname__" 731 (.str "Sure" 730)::dE P "__firstlineno__" 733 (.int 235 732)::dR P "__init__" 743 423::dR P "__static_attributes__" 745 424::[]) 5
def ak8:Obj:=⟨.none,none,.fields ⟨i3 237 4 422 <|[]⟩,⟨[]⟩⟩
def ale:Obj:=wC "Sure" 724 235 413 727
def amx:Obj:=wF 415 412 "chancehall.doors" 639
def ahb:Obj:=cO "__init__" "Sure.__init__" 734 237 4 3 417 741
def ahL:Obj:=fO "__init__" "Sure.__init__" (eX 62 0) (.str "chancehall.doors" 639) 422
def aiz(P:Params):Obj:=wD (dE P "__module__" 729 (.str "chancehall.doors" 639)::dE P "__firstlineno__" 733 (.int 235 732)::dR P "__init__" 743 423::dR P "__static_attributes__" 745 424::dE P "__doc__" 746 .none::[]) 2
def aij:Obj:=wK "Sure" [.ref 405] [.ref 426,.ref 405,.type "object"] 425 [] (some (.ref 410)) 722 730 "object.__new__"
def akW:Obj:=wS 426
def alK:Obj:=wB 426
def ahs:Obj:=wT 405
def amf:Obj:=wA
def alM(P:Params):Obj:=wD (dE P "__module__" 756 (.str "chancehall.doors" 639)::dE P "__qualname__" 758 (.str "Mixed" 757)::dE P "__firstlineno__" 760 (.int 241 759)::dR P "__init__" 770 442::dR P "__static_attributes__" 772 443::[]) 5
def alv:Obj:=⟨.none,none,.fields ⟨i3 243 4 441 <|[]⟩,⟨[]⟩⟩
def al7:Obj:=wC "Mixed" 751 241 432 754
def amZ:Obj:=wF 434 431 "chancehall.doors" 639
def ajD:Obj:=cO "__init__" "Mixed.__init__" 761 243 4 3 436 768
def agj:Obj:=fO "__init__" "Mixed.__init__" (eX 63 0) (.str "chancehall.doors" 639) 441
def ai1(P:Params):Obj:=wD (dE P "__module__" 756 (.str "chancehall.doors" 639)::dE P "__firstlineno__" 760 (.int 241 759)::dR P "__init__" 770 442::dR P "__static_attributes__" 772 443::dE P "__doc__" 773 .none::[]) 2
def ah6:Obj:=wK "Mixed" [.ref 405] [.ref 445,.ref 405,.type "object"] 444 [.ref 464,.ref 481] (some (.ref 429)) 749 757 "object.__new__"
def akR:Obj:=wS 445
def akI:Obj:=wB 445
def ajA:Obj:=wT 445
def akM:Obj:=wA
def al1(P:Params):Obj:=wD (dE P "__module__" 783 (.str "chancehall.doors" 639)::dE P "__qualname__" 785 (.str "Toss" 784)::dE P "__firstlineno__" 787 (.int 247 786)::dR P "__init__" 799 461::dR P "__static_attributes__" 800 462::[]) 5
def amR:Obj:=⟨.none,none,.fields ⟨i3 249 4 460 <|[]⟩,⟨[]⟩⟩
def amu:Obj:=wC "Toss" 778 247 451 781
def akK:Obj:=wF 453 450 "chancehall.doors" 639
def agy:Obj:=tN 791 ["self","name","pay","chance","room","other"]
def aju:Obj:=cO "__init__" "Toss.__init__" 788 249 6 3 455 797
def ajr:Obj:=fO "__init__" "Toss.__init__" (eX 64 0) (.str "chancehall.doors" 639) 460
def ajl(P:Params):Obj:=wD (dE P "__module__" 783 (.str "chancehall.doors" 639)::dE P "__firstlineno__" 787 (.int 247 786)::dR P "__init__" 799 461::dR P "__static_attributes__" 800 462::dE P "__doc__" 801 .none::[]) 2
def ahk:Obj:=wK "Toss" [.ref 445] [.ref 464,.ref 445,.ref 405,.type "object"] 463 [] (some (.ref 448)) 776 784 "object.__new__"
def alr:Obj:=wS 464
def amc:Obj:=wB 464
def agQ:Obj:=wT 445
def amU:Obj:=wA
def amh(P:Params):Obj:=wD (dE P "__module__" 811 (.str "chancehall.doors" 639)::dE P "__qualname__" 813 (.str "Even" 812)::dE P "__firstlineno__" 815 (.int 253 814)::dR P "__init__" 821 478::dR P "__static_attributes__" 822 479::[]) 5
def amt:Obj:=⟨.none,none,.fields ⟨i3 255 4 477 <|[]⟩,⟨[]⟩⟩
def amr:Obj:=wC "Even" 806 253 470 809
def ald:Obj:=wF 472 469 "chancehall.doors" 639
def aje:Obj:=cP "__init__" "Even.__init__" 816 255 4 3 474 819
def ag4:Obj:=fO "__init__" "Even.__init__" (eX 65 0) (.str "chancehall.doors" 639) 477
def agv(P:Params):Obj:=wD (dE P "__module__" 811 (.str "chancehall.doors" 639)::dE P "__firstlineno__" 815 (.int 253 814)::dR P "__init__" 821 478::dR P "__static_attributes__" 822 479::dE P "__doc__" 823 .none::[]) 2
def aiT:Obj:=wK "Even" [.ref 445] [.ref 481,.ref 445,.ref 405,.type "object"] 480 [] (some (.ref 467)) 804 812 "object.__new__"
def akH:Obj:=wS 481
def amM:Obj:=wB 481
def agE:Obj:=cO "check_share" "check_share" 828 258 1 3 484 832
def akd:Obj:=fO "check_share" "check_share" (top 67) (.str "chancehall.halls" 826) 489
def aha:Obj:=cO "numbers_of" "numbers_of" 835 261 1 3 491 842
def af5:Obj:=fO "numbers_of" "numbers_of" (top 68) (.str "chancehall.halls" 826) 496
def agS:Obj:=tN 848 ["door","numbers","numbered","name","chance"]
def ajm:Obj:=cO "numbered_ways" "numbered_ways" 845 269 2 3 498 853
def af0:Obj:=fO "numbered_ways" "numbered_ways" (top 69) (.str "chancehall.halls" 826) 503
def akm:Obj:=tN 859 ["doors","numbers","taken","told","door"]
def ahQ:Obj:=cO "offers_of" "offers_of" 856 276 2 3 505 864
def ah7:Obj:=fO "offers_of" "offers_of" (top 70) (.str "chancehall.halls" 826) 510
def amw:Obj:=wA
def amX(P:Params):Obj:=wD (dE P "__module__" 874 (.str "chancehall.halls" 826)::dE P "__qualname__" 876 (.str "Hall" 875)::dE P "__firstlineno__" 878 (.int 285 877)::dR P "__init__" 884 523::dR P "size" 891 530::dR P "names" 898 537::dR P "place" 906 544::dR P "check_room" 914 551::dR P "door_at" 923 558::dR P "offers" 929 563::dR P "__static_attributes__" 933 564::[]) 11
def am0:Obj:=⟨.none,none,.fields ⟨i3 287 4 522 <|i3 293 4 529 <|i3 296 4 536 <|i3 299 4 543 <|i3 304 4 550 <|i3 308 4 557 <|i3 311 4 562 <|[]⟩,⟨[]⟩⟩
def akV:Obj:=wC "Hall" 869 285 515 872
def amj:Obj:=wF 517 514 "chancehall.halls" 826
def agJ:Obj:=cP "__init__" "Hall.__init__" 879 287 3 3 519 882
def agk:Obj:=fO "__init__" "Hall.__init__" (eX 71 0) (.str "chancehall.halls" 826) 522
def ahK:Obj:=fO "size" "Hall.size" (eX 71 1) (.str "chancehall.halls" 826) 529
def ahT:Obj:=fO "names" "Hall.names" (eX 71 2) (.str "chancehall.halls" 826) 536
def aiV:Obj:=fO "place" "Hall.place" (eX 71 3) (.str "chancehall.halls" 826) 543
def al6:Obj:=fT "check_room" "Hall.check_room" (eX 71 4)
def ajN:Obj:=cO "check_room" "Hall.check_room" 907 304 2 3 545 912
def ah8:Obj:=fO "check_room" "Hall.check_room" (eX 71 4) (.str "chancehall.halls" 826) 550
def ahr:Obj:=cO "door_at" "Hall.door_at" 915 308 3 3 552 921
def ahC:Obj:=fO "door_at" "Hall.door_at" (eX 71 5) (.str "chancehall.halls" 826) 557
def aiQ:Obj:=cP "offers" "Hall.offers" 924 311 2 3 559 927
def ag0:Obj:=fO "offers" "Hall.offers" (eX 71 6) (.str "chancehall.halls" 826) 562
def agl(P:Params):Obj:=wD (dE P "__module__" 874 (.str "chancehall.halls" 826)::dE P "__firstlineno__" 878 (.int 285 877)::dR P "__init__" 884 523::dR P "size" 891 530::dR P "names" 898 537::dR P "place" 906 544::dR P "check_room" 914 551::dR P "door_at" 923 558::dR P "offers" 929 563::dR P "__static_attributes__" 933 564::dR P "__dict__" 935 567::dR P "__weakref__" 937 568::dE P "__doc__" 938 .none::[]) 4
def ai3:Obj:=wK "Hall" [.type "object"] [.ref 566,.type "object"] 565 [] none 867 875 "object.__new__"
noncomputable def ajT:Obj:=⟨.type "getset_descriptor",none,.fields ⟨.str "__dict__" 934::.ref 566::.builtin "function.__dict__"::.builtin "function.__dict__#set"::[]⟩,⟨[]⟩⟩
def ah5:Obj:=wG 936 566
def amF:Obj:=wS 566
def amq:Obj:=wB 566
def ah1:Obj:=cO "_law_cell" "_law_cell" 943 315 2 3 571 948
def aj8:Obj:=fO "_law_cell" "_law_cell" (top 73) (.str "law_chancehall_k22_worths" 941) 576
def agU:Obj:=tN 954 ["_law_cell_here","_law_many","_law_found","_law_number","_law_digits","_law_k"]
def agb:Obj:=cO "_law_stream" "_law_stream" 951 317 2 3 578 960
def agn:Obj:=fO "_law_stream" "_law_stream" (top 74) (.str "law_chancehall_k22_worths" 941) 583
def ahR:Obj:=tN 966 ["_law_one","_law_other","_law_low","_law_high"]
def akl:Obj:=cO "_law_gcd" "_law_gcd" 963 328 2 3 585 970
def ajn:Obj:=fO "_law_gcd" "_law_gcd" (top 75) (.str "law_chancehall_k22_worths" 941) 590
def aix:Obj:=tN 976 ["_law_top","_law_bottom","_law_common"]
def akp:Obj:=cO "_law_ratio" "_law_ratio" 973 333 2 3 592 979
def agu:Obj:=fO "_law_ratio" "_law_ratio" (top 76) (.str "law_chancehall_k22_worths" 941) 597
def ajo:Obj:=cO "_law_is_ratio" "_law_is_ratio" 982 336 1 3 599 987
def ake:Obj:=fO "_law_is_ratio" "_law_is_ratio" (top 77) (.str "law_chancehall_k22_worths" 941) 604
def alf:Obj:=fT "_law_are_ratios" "_law_are_ratios" (top 78)
def akn:Obj:=cP "_law_are_ratios" "_law_are_ratios" 990 343 2 3 606 993
def agz:Obj:=fO "_law_are_ratios" "_law_are_ratios" (top 78) (.str "law_chancehall_k22_worths" 941) 609
def ai9:Obj:=cO "_law_same" "_law_same" 996 347 2 3 611 1001
def aiO:Obj:=fO "_law_same" "_law_same" (top 79) (.str "law_chancehall_k22_worths" 941) 616
def ajv:Obj:=cP "_law_names" "_law_names" 1004 349 2 3 618 1007
def aiD:Obj:=fO "_law_names" "_law_names" (top 80) (.str "law_chancehall_k22_worths" 941) 621
def aik:Obj:=tN 1013 ["_law_cell_here","_law_xs","_law_bottom"]
def ahA:Obj:=cO "_law_share" "_law_share" 1010 358 1 3 623 1016
def agC:Obj:=fO "_law_share" "_law_share" (top 81) (.str "law_chancehall_k22_worths" 941) 628
def ahf:Obj:=tN 1022 ["_law_cell_here","_law_x","_law_y"]
def ajk:Obj:=cO "_law_pay" "_law_pay" 1019 362 3 3 630 1025
def aii:Obj:=fO "_law_pay" "_law_pay" (top 82) (.str "law_chancehall_k22_worths" 941) 635
def ahd:Obj:=cP "_law_door" "_law_door" 1028 370 2 3 637 1031
def afZ:Obj:=fO "_law_door" "_law_door" (top 83) (.str "law_chancehall_k22_worths" 941) 640
def aiM:Obj:=cP "_law_doors" "_law_doors" 1034 387 4 3 642 1037
def aiC:Obj:=fO "_law_doors" "_law_doors" (top 84) (.str "law_chancehall_k22_worths" 941) 645
def ajx:Obj:=cP "_law_built" "_law_built" 1040 397 3 3 647 1043
def aja:Obj:=fO "_law_built" "_law_built" (top 85) (.str "law_chancehall_k22_worths" 941) 650
def agB:Obj:=cP "_law_hall" "_law_hall" 1046 407 3 3 652 1049
def agD:Obj:=fO "_law_hall" "_law_hall" (top 86) (.str "law_chancehall_k22_worths" 941) 655
def akk:Obj:=tN 1055 ["_law_cell_here","_law_rooms","_law_xs","_law_found","_law_k"]
def aj0:Obj:=cO "_law_chosen" "_law_chosen" 1052 414 2 3 657 1060
def aj3:Obj:=fO "_law_chosen" "_law_chosen" (top 87) (.str "law_chancehall_k22_worths" 941) 662
def ajh:Obj:=tN 1066 ["_law_share_here","_law_door_here","_law_worths","_law_top","_law_bottom","_law_room","_law_chance","_law_part"]
def ajR:Obj:=cO "_law_look" "_law_look" 1063 423 3 3 664 1074
def agR:Obj:=fO "_law_look" "_law_look" (top 88) (.str "law_chancehall_k22_worths" 941) 669
def ai0:Obj:=cO "_law_size" "_law_size" 1077 433 1 3 671 1082
def ajj:Obj:=fO "_law_size" "_law_size" (top 89) (.str "law_chancehall_k22_worths" 941) 676
def ajt:Obj:=tN 1088 ["_law_found","_law_share_here","_law_rooms","_law_plan","_law_k","_law_due"]
def ago:Obj:=cO "_law_right" "_law_right" 1085 440 4 3 678 1094
def aic:Obj:=fO "_law_right" "_law_right" (top 90) (.str "law_chancehall_k22_worths" 941) 683
def agm:Obj:=cO "_law_odd" "_law_odd" 1097 450 2 3 685 1102
def agM:Obj:=fO "_law_odd" "_law_odd" (top 91) (.str "law_chancehall_k22_worths" 941) 690
def agg:Obj:=tN 1108 ["_law_cell_here","_law_plan","_law_rooms","_law_xs","_law_some","_law_at","_law_later","_law_found"]
def aiL:Obj:=cO "_law_spoilt" "_law_spoilt" 1105 454 3 3 692 1116
def aiY:Obj:=fO "_law_spoilt" "_law_spoilt" (top 92) (.str "law_chancehall_k22_worths" 941) 697
def ahS:Obj:=tN 1122 ["_law_hall_here","_law_plan","e"]
def ahX:Obj:=cO "_law_refused" "_law_refused" 1119 468 2 3 699 1125
def akr:Obj:=fO "_law_refused" "_law_refused" (top 93) (.str "law_chancehall_k22_worths" 941) 704
def tr1(P:Params):BT:=nd (boot_o_0 P) (nd (boot_o_1 P) (nd (amJ P) (nd (boot_o_7 P) (nd tE (nd q31 (nd fE (nd ajO (n1 (tN 506 ["leveled","steps","step"]) ah7) (n1 fE (fT "_law_door" "_law_door" (top 83)))) (nd tE (n1 (fT "only_answer" "only_answer" (top 47)) (fT "_law_cell" "_law_cell" (top 73))) (n1 akI (fT "_law_refused" "_law_refused" (top 93))))) (nd q95 (nd fE (n1 fE (cO "place" "Hall.place" 899 299 2 3 538 904)) (n1 ale tE)) (nd fE (n1 tE fE) (lf tE)))) (nd q47 (nd (q79 P) (nd ajL (n1 (fT "clear_column" "clear_column" (top 38)) tE) (n1 tE agB)) (nd (tN 443 ["hall","plan","room","thing"]) (n1 fE ajn) (lf (ajl P)))) (nd (tN 318 ["self","room"]) (nd tE (n1 tE tE) (n1 (alM P) (tN 1100 ["_law_cell_here","_law_many"]))) (nd ah0 (n1 (fT "check_pairs" "check_pairs" (top 59)) tE) (lf (fT "numbers_of" "numbers_of" (top 68))))))) (nd q23 (nd fE (nd q71 (nd aki (n1 tE tE) (n1 (tN 699 ["self"]) tE)) (nd fE (n1 tE agb) (lf tE))) (nd alZ (nd (tN 393 ["one","other"]) (n1 aib ah8) (n1 ahL fE)) (nd (fT "take_step" "take_step" (top 32)) (n1 fE (fT "_law_same" "_law_same" (top 79))) (lf tE)))) (nd (q55 P) (nd q87 (nd tE (n1 tE (fT "names" "Hall.names" (eX 71 2))) (n1 af7 aj3)) (nd (cP "lowest" "lowest" 452 88 2 3 212 455) (n1 ahi tE) (lf amt))) (nd al2 (nd (fT "under" "under" (top 21)) (n1 fE ajT) (n1 tE tE)) (nd fE (n1 tE fE) (lf ajm)))))) (nd o11 (nd (fT "_wall" "_wall" (top 0)) (nd q35 (nd (q67 P) (nd tE (n1 af6 tE) (n1 aho fE)) (nd (fT "total" "total" (top 24)) (n1 fE fE) (lf tE))) (nd q99 (nd (cO "minus" "minus" 382 58 2 3 158 387) (n1 tE (tN 910 ["self","room"])) (n1 (tN 737 ["self","name","pay","room"]) (fT "_law_size" "_law_size" (top 89)))) (nd tE (n1 ak7 tE) (lf amM)))) (nd fE (nd q83 (nd tE (n1 fE tE) (n1 (tN 711 ["leads","name","pay"]) akk)) (nd ahD (n1 tE tE) (lf agQ))) (nd ait (nd tE (n1 (fT "answer_of" "answer_of" (top 45)) ag0) (n1 amZ agM)) (nd (fT "fractions_of" "fractions_of" (top 34)) (n1 fE (fT "_law_share" "_law_share" (top 81))) (lf fE))))) (nd q27 (nd (q43 P) (nd fE (nd (tN 359 ["top","bottom","common"]) (n1 tE agk) (n1 af4 aja)) (nd (cO "fits" "fits" 432 76 2 3 198 437) (n1 (fT "left_rows" "left_rows" (top 50)) ahR) (lf (fT "__init__" "Toss.__init__" (eX 64 0))))) (nd ams (nd aiu (n1 tE tE) (n1 akW ago)) (nd fE (n1 akc fE) (lf tE)))) (nd q59 (nd fE (nd (fT "plus" "plus" (top 17)) (n1 (fT "width_of" "width_of" (top 41)) fE) (n1 ak2 tE)) (nd (fT "row_times" "row_times" (top 30)) (n1 tE (fT "_law_is_ratio" "_law_is_ratio" (top 77))) (lf fE))) (nd (tN 333 ["thing"]) (nd fE (n1 tE tE) (n1 (tN 771 ["leads"]) tE)) (nd agW (n1 amC ajk) (lf akm))))))) (nd (boot_o_5 P) (nd (boot_o_9 P) (nd (tN 190 ["k"]) (nd q33 (nd q65 (nd fE (n1 (fT "go_on" "go_on" (top 36)) amw) (n1 tE afZ)) (nd (tN 425 ["fractions","leveled"]) (n1 agX aj8) (n1 akM akr))) (nd (tN 298 ["room"]) (nd tE (n1 ai8 tE) (n1 tE (tN 1080 ["_law_cell_here","_law_xs"]))) (nd (cP "row_plus" "row_plus" 464 95 3 3 222 467) (n1 (tN 652 ["room"]) akn) (lf aiT)))) (nd (q49 P) (nd q81 (nd fE (n1 ain (cO "size" "Hall.size" 885 293 1 3 524 889)) (n1 ahB tE)) (nd (fT "check_plan" "check_plan" (top 27)) (n1 aiS fE) (lf alr))) (nd (fT "__init__" "NoPlan.__init__" (eX 8 0)) (nd (cO "over" "over" 398 62 2 3 172 403) (n1 ahM (fT "offers" "Hall.offers" (eX 71 6))) (n1 alv (fT "_law_odd" "_law_odd" (top 91)))) (nd tE (n1 agh aik) (lf af5))))) (nd tE (nd q41 (nd (q73 P) (nd tE (n1 ahg (fT "__init__" "Hall.__init__" (eX 71 0))) (n1 (fT "ways" "Door.ways" (eX 61 1)) (fT "_law_built" "_law_built" (top 85)))) (nd tE (n1 ai7 tE) (lf agy))) (nd tE (nd (fT "times" "times" (top 19)) (n1 fE fE) (n1 (aiz P) tE)) (nd aif (n1 tE aiO) (lf agE)))) (nd q57 (nd q89 (nd (tN 377 ["one","other"]) (n1 (tN 547 ["rows"]) ahT) (n1 alV fE)) (nd tE (n1 fE (tN 985 ["_law_found","_law_number"])) (lf ald))) (nd tE (nd agF (n1 ahG amF) (n1 ajD aiL)) (nd tE (n1 (ami P) tE) (lf tE)))))) (nd o13 (nd q21 (nd (q37 P) (nd q69 (nd (cO "divisor" "divisor" 337 28 2 3 128 345) (n1 fE akV) (n1 tE aiM)) (nd ajY (n1 ahe tE) (lf amu))) (nd akJ (nd tE (n1 (fT "begins_of" "begins_of" (top 43)) al6) (n1 (fT "__init__" "Sure.__init__" (eX 62 0)) ajj)) (nd (tN 473 ["leveled","step","row"]) (n1 ahw (tN 999 ["_law_one","_law_other"])) (lf fE)))) (nd q53 (nd (q85 P) (nd (cO "is_ratio" "is_ratio" 365 48 1 3 144 371) (n1 (cP "reduced" "reduced" 536 134 2 3 274 539) (tN 895 ["self"])) (n1 agt (fT "_law_chosen" "_law_chosen" (top 87)))) (nd fE (n1 (fT "is_word" "is_word" (top 54)) akp) (lf (amh P)))) (nd (aiR P) (nd (tN 409 ["one","other"]) (n1 ahF (agl P)) (n1 fE fE)) (nd agc (n1 ag5 agC) (lf tE))))) (nd tE (nd q45 (nd q77 (nd (fT "ratio" "ratio" (top 15)) (n1 ahn fE) (n1 fE fE)) (nd tE (n1 aht (fT "_law_gcd" "_law_gcd" (top 75))) (lf ajr))) (nd tE (nd fE (n1 (cO "odd_row" "odd_row" 563 159 3 3 296 570) ahr) (n1 ahs tE)) (nd tE (n1 tE ajv) (lf (tN 838 ["rooms","numbers","room","name"]))))) (nd (q61 P) (nd tE (nd agT (n1 aj7 tE) (n1 tE ajR)) (nd aga (n1 ajW ake) (lf aje))) (nd (fT "is_whole" "is_whole" (top 10)) (nd (cP "level" "level" 416 67 1 3 186 419) (n1 ahU (tN 946 ["_law_script","_law_k"])) (n1 ah6 ahS)) (nd tE (n1 akP tE) (lf (fT "offers_of" "offers_of" (top 70)))))))))) (nd (boot_o_2 P) (nd (boot_o_4 P) (nd (boot_o_8 P) (nd fE (nd q32 (nd q64 (nd tE (n1 tE tE) (n1 (tN 690 ["self","name","pay"]) ahd)) (nd fE (n1 ajc ah1) (n1 ajA ahX))) (nd q96 (nd (tN 385 ["one","other"]) (n1 (fT "with_rights" "with_rights" (top 42)) aiV) (n1 amx fE)) (nd (fT "row_plus" "row_plus" (top 31)) (n1 fE alf) (lf (agv P))))) (nd q48 (nd q80 (nd tE (n1 aj1 (fT "size" "Hall.size" (eX 71 1))) (n1 (fT "chance_to" "Door.chance_to" (eX 61 2)) agD)) (nd tE (n1 (fT "worths_of" "worths_of" (top 51)) tE) (lf ahk))) (nd tE (nd (fT "over" "over" (top 20)) (n1 fE fE) (n1 tE tE)) (nd akg (n1 ahx fE) (lf aha))))) (nd (q24 P) (nd q40 (nd q72 (nd ajZ (n1 (fT "begin_row" "begin_row" (top 37)) fE) (n1 tE fE)) (nd (tN 435 ["thing","many"]) (n1 fE agn) (lf fE))) (nd (amI P) (nd tE (n1 tE tE) (n1 (tN 744 ["leads"]) ajt)) (nd ail (n1 (tN 659 ["chance"]) ai9) (lf (fT "check_share" "check_share" (top 67)))))) (nd q56 (nd q88 (nd fE (n1 fE (cO "names" "Hall.names" 892 296 1 3 531 896)) (n1 akN tE)) (nd ahh (n1 tE fE) (lf amr))) (nd ak6 (nd (cO "under" "under" 406 64 2 3 179 411) (n1 (fT "single_rows" "single_rows" (top 46)) ah5) (n1 (fT "__init__" "Mixed.__init__" (eX 63 0)) (fT "_law_spoilt" "_law_spoilt" (top 92)))) (nd aj6 (n1 alU ahf) (lf af0)))))) (nd aiP (nd (cO "_wall" "_wall" 187 1 1 3 15 191) (nd q36 (nd q68 (nd (fT "divisor" "divisor" (top 11)) (n1 tE am0) (n1 ajd (fT "_law_doors" "_law_doors" (top 84)))) (nd (cO "total" "total" 422 72 1 3 191 427) (n1 (fT "chosen_doors" "chosen_doors" (top 49)) agU) (lf amR))) (nd akY (nd ajG (n1 fE tE) (n1 tE ai0)) (nd fE (n1 aie fE) (lf tE)))) (nd q52 (nd q84 (nd (fT "is_ratio" "is_ratio" (top 16)) (n1 (fT "reduced" "reduced" (top 39)) fE) (n1 (ag6 P) tE)) (nd tE (n1 fE (fT "_law_ratio" "_law_ratio" (top 76))) (lf amU))) (nd (tN 323 ["room"]) (nd fE (n1 aiF (tN 930 ["numbers","offered","share"])) (n1 tE tE)) (nd aiq (n1 (fT "joined_ways" "joined_ways" (top 60)) ahA) (lf agS))))) (nd q28 (nd q44 (nd q76 (nd tE (n1 fE tE) (n1 tE tE)) (nd aiw (n1 aiB tE) (lf aju))) (nd amn (nd tE (n1 (fT "odd_row" "odd_row" (top 44)) (fT "door_at" "Hall.door_at" (eX 71 5))) (n1 alK aic)) (nd (tN 482 ["row","column"]) (n1 ah4 (fT "_law_names" "_law_names" (top 80))) (lf fE)))) (nd q60 (nd (tN 293 ["self","room"]) (nd (cO "plus" "plus" 374 56 2 3 151 379) (n1 aiA (tN 902 ["self","name"])) (n1 (amH P) (fT "_law_look" "_law_look" (top 88)))) (nd aiJ (n1 (fT "check_head" "check_head" (top 56)) ajo) (lf (fT "__init__" "Even.__init__" (eX 65 0))))) (nd tE (nd (fT "level" "level" (top 23)) (n1 fE fE) (n1 (ai1 P) fE)) (nd ajV (n1 akB aii) (lf tE))))))) (nd (boot_o_6 P) (nd (boot_o_10 P) (nd tE (nd q34 (nd tE (nd ai2 (n1 (cO "go_on" "go_on" 503 120 3 3 253 509) (amX P)) (n1 (fT "__init__" "Door.__init__" (eX 61 0)) tE)) (nd tE (n1 tE tE) (lf (al1 P)))) (nd (q98 P) (nd (fT "minus" "minus" (top 18)) (n1 af9 fE) (n1 fE tE)) (nd aiZ (n1 tE agz) (lf akH)))) (nd tE (nd q82 (nd (tN 368 ["thing","top","bottom"]) (n1 tE ahK) (n1 agH fE)) (nd ahu (n1 agP aix) (lf amc))) (nd ajU (nd ajy (n1 tE aiQ) (n1 al7 agm)) (nd fE (n1 tE tE) (lf tE))))) (nd fE (nd tE (nd tE (nd fE (n1 akb agJ) (n1 (cO "ways" "Door.ways" 696 230 1 3 389 700) ajx)) (nd (fT "fits" "fits" (top 26)) (n1 tE fE) (lf tE))) (nd amb (nd (cO "times" "times" 390 60 2 3 165 395) (n1 (tN 566 ["end","begins","wide","row"]) (tN 918 ["self","room","name"])) (n1 aij (fT "_law_right" "_law_right" (top 90)))) (nd tE (n1 (fT "check_chance" "check_chance" (top 58)) tE) (lf akd)))) (nd q58 (nd tE (nd tE (n1 tE tE) (n1 ahq ajh)) (nd fE (n1 (tN 644 ["name","pay"]) tE) (lf tE))) (nd fE (nd tE (n1 ajp amq) (n1 agj aiY)) (nd (fT "first_from" "first_from" (top 35)) (n1 tE (fT "_law_pay" "_law_pay" (top 82))) (lf fE)))))) (nd o14 (nd q22 (nd tE (nd q70 (nd aj5 (n1 aj4 amj) (n1 fE aiC)) (nd tE (n1 af8 (fT "_law_stream" "_law_stream" (top 74))) (lf akK))) (nd aiH (nd fE (n1 ahc ajN) (n1 ahb tE)) (nd tE (n1 tE tE) (lf (tN 831 ["share"]))))) (nd tE (nd tE (nd aku (n1 ajq tE) (n1 ahY aj0)) (nd (fT "lowest" "lowest" (top 29)) (n1 (cP "is_word" "is_word" 633 195 1 3 339 636) agu) (lf tE))) (nd ag8 (nd tE (n1 tE ai3) (n1 (tN 764 ["self","name","pay","pairs"]) agg)) (nd tE (n1 ahV tE) (lf (fT "numbered_ways" "numbered_ways" (top 69))))))) (nd (q30 P) (nd q46 (nd tE (nd (cO "ratio" "ratio" 356 39 2 3 137 362) (n1 tE (tN 888 ["self"])) (n1 (tN 706 ["self","room"]) (fT "_law_hall" "_law_hall" (top 86)))) (nd fE (n1 tE akl) (lf tE))) (nd fE (nd (tN 401 ["one","other"]) (n1 aiy ahC) (n1 amf fE)) (nd (fT "number_at" "number_at" (top 33)) (n1 fE aiD) (lf tE)))) (nd tE (nd (fT "__init__" "NoRoom.__init__" (eX 7 0)) (nd tE (n1 tE (fT "place" "Hall.place" (eX 71 3))) (n1 ak8 agR)) (nd tE (n1 ajF tE) (lf ag4))) (nd (cO "is_whole" "is_whole" 330 26 1 3 121 334) (nd agd (n1 tE tE) (n1 akR tE)) (nd fE (n1 tE fE) (lf ahQ))))))))
def S1(w:World)(os:OsState):SharedT:=⟨tr1 w.params,706,{},⟨[]⟩,{},1128,os⟩
noncomputable def e1:Pos:=⟨468,0,473,25⟩
def KH:Params->Frag:=λP=>(
 (nat_lit 2,boot_o_2 P)::(nat_lit 3,wD (dE P "__name__" 165 (.str "law_chancehall_k22_worths" 941)::dE P "__doc__" 166 .none::dE P "__package__" 167 .none::dE P "__loader__" 168 (.builtin "__main__.__loader__#opaque")::dE P "__spec__" 169 .none::dR P "__annotations__" 170 6::dR P "__builtins__" 171 4::dE P "__file__" 173 (.str "/claim/cut.py" 172)::dE P "__cached__" 174 .none::dR P "_wall" 193 21::dR P "HallError" 213 31::dR P "NoNumber" 229 44::dR P "NoName" 245 56::dR P "NoChance" 261 68::dR P "NoShare" 277 80::dR P "NoRoom" 302 99::dR P "NoPlan" 327 118::dR P "is_whole" 336 127::dR P "divisor" 347 134::dR P "NOUGHT" 352 135::dR P "ONE" 355 136::dR P "ratio" 364 143::dR P "is_ratio" 373 150::dR P "plus" 381 157::dR P "minus" 389 164::dR P "times" 397 171::dR P "over" 405 178::dR P "under" 413 185::dR P "level" 421 190::dR P "total" 429 197::dR P "fits" 439 204::dR P "check_plan" 449 211::dR P "lowest" 457 216::dR P "row_times" 463 221::dR P "row_plus" 469 226::dR P "take_step" 478 233::dR P "number_at" 486 240::dR P "fractions_of" 492 245::dR P "first_from" 502 252::dR P "go_on" 511 259::dR P "begin_row" 523 266::dR P "clear_column" 535 273::dR P "reduced" 541 278::dR P "width_of" 550 285::dR P "with_rights" 556 290::dR P "begins_of" 562 295::dR P "odd_row" 572 302::dR P "answer_of" 584 309::dR P "single_rows" 590 314::dR P "only_answer" 601 321::dR P "chosen_doors" 609 326::dR P "left_rows" 622 333::dR P "worths_of" 628 338::dE P "LONGEST_WORD" 632 (.int 8 631)::dR P "is_word" 638 343::dR P "check_head" 648 350::dR P "check_room_name" 655 357::dR P "check_chance" 662 364::dR P "check_pairs" 668 369::dR P "joined_ways" 674 374::dR P "Door" 721 405::dR P "Sure" 748 426::dR P "Mixed" 775 445::dR P "Toss" 803 464::dR P "Even" 825 481::dR P "check_share" 834 490::dR P "numbers_of" 844 497::dR P "numbered_ways" 855 504::dR P "offers_of" 866 511::dR P "Hall" 940 566::dR P "_law_cell" 950 577::dR P "_law_stream" 962 584::dR P "_law_gcd" 972 591::dR P "_law_ratio" 981 598::dR P "_law_is_ratio" 989 605::dR P "_law_are_ratios" 995 610::dR P "_law_same" 1003 617::dR P "_law_names" 1009 622::dR P "_law_share" 1018 629::dR P "_law_pay" 1027 636::dR P "_law_door" 1033 641::dR P "_law_doors" 1039 646::dR P "_law_built" 1045 651::dR P "_law_hall" 1051 656::dR P "_law_chosen" 1062 663::dR P "_law_look" 1076 670::dR P "_law_size" 1084 677::dR P "_law_right" 1096 684::dR P "_law_odd" 1104 691::dR P "_law_spoilt" 1118 698::dR P "_law_refused" 1127 705::dR P "_law_plan_told" 1141 712::dR P "law" 1147 717::[]) 93)::(nat_lit 15,tE)::(nat_lit 17,tN 190 ["k"])::(nat_lit 18,tE)::(nat_lit 20,cO "_wall" "_wall" 187 1 1 3 15 191)::(nat_lit 21,q21)::(nat_lit 22,q22)::(nat_lit 29,tE)::(nat_lit 30,q30 P)::(nat_lit 31,q31)::(nat_lit 32,q32)::(nat_lit 35,q35)::(nat_lit 42,tE)::(nat_lit 43,q43 P)::(nat_lit 44,q44)::(nat_lit 47,q47)::(nat_lit 54,tE)::(nat_lit 55,q55 P)::(nat_lit 56,q56)::(nat_lit 59,q59)::(nat_lit 66,tE)::(nat_lit 67,q67 P)::(nat_lit 68,q68)::(nat_lit 71,q71)::(nat_lit 78,tE)::(nat_lit 79,q79 P)::(nat_lit 80,q80)::(nat_lit 83,q83)::(nat_lit 90,tE)::(nat_lit 92,tN 293 ["self","room"])::(nat_lit 93,tE)::(nat_lit 95,q95)::(nat_lit 96,q96)::(nat_lit 97,tN 298 ["room"])::(nat_lit 98,q98 P)::(nat_lit 99,q99)::(nat_lit 102,aiH)::(nat_lit 109,tE)::(nat_lit 111,tN 318 ["self","room"])::(nat_lit 112,tE)::(nat_lit 114,ajU)::(nat_lit 115,ait)::(nat_lit 116,tN 323 ["room"])::(nat_lit 117,aiR P)::(nat_lit 118,ag8)::(nat_lit 121,tE)::(nat_lit 123,tN 333 ["thing"])::(nat_lit 124,tE)::(nat_lit 126,cO "is_whole" "is_whole" 330 26 1 3 121 334)::(nat_lit 127,ajO)::(nat_lit 128,tE)::(nat_lit 130,ai2)::(nat_lit 131,tE)::(nat_lit 133,cO "divisor" "divisor" 337 28 2 3 128 345)::(nat_lit 134,aj5)::(nat_lit 135,aki)::(nat_lit 136,ajZ)::(nat_lit 137,tE)::(nat_lit 139,tN 359 ["top","bottom","common"])::(nat_lit 140,tE)::(nat_lit 142,cO "ratio" "ratio" 356 39 2 3 137 362)::(nat_lit 143,ajL)::(nat_lit 144,tE)::(nat_lit 146,tN 368 ["thing","top","bottom"])::(nat_lit 147,tE)::(nat_lit 149,cO "is_ratio" "is_ratio" 365 48 1 3 144 371)::(nat_lit 150,aku)::(nat_lit 151,tE)::(nat_lit 153,tN 377 ["one","other"])::(nat_lit 154,tE)::(nat_lit 156,cO "plus" "plus" 374 56 2 3 151 379)::(nat_lit 157,agT)::(nat_lit 158,tE)::(nat_lit 160,tN 385 ["one","other"])::(nat_lit 161,tE)::(nat_lit 163,cO "minus" "minus" 382 58 2 3 158 387)::(nat_lit 164,ajG)::(nat_lit 165,tE)::(nat_lit 167,tN 393 ["one","other"])::(nat_lit 168,tE)::(nat_lit 170,cO "times" "times" 390 60 2 3 165 395)::(nat_lit 171,aiu)::(nat_lit 172,tE)::(nat_lit 174,tN 401 ["one","other"])::(nat_lit 175,tE)::(nat_lit 177,cO "over" "over" 398 62 2 3 172 403)::(nat_lit 178,ajy)::(nat_lit 179,tE)::(nat_lit 181,tN 409 ["one","other"])::(nat_lit 182,tE)::(nat_lit 184,cO "under" "under" 406 64 2 3 179 411)::(nat_lit 185,agF)::(nat_lit 186,tE)::(nat_lit 189,cP "level" "level" 416 67 1 3 186 419)::(nat_lit 190,agd)::(nat_lit 191,tE)::(nat_lit 193,tN 425 ["fractions","leveled"])::(nat_lit 194,tE)::(nat_lit 196,cO "total" "total" 422 72 1 3 191 427)::(nat_lit 197,ajY)::(nat_lit 198,tE)::(nat_lit 200,tN 435 ["thing","many"])::(nat_lit 201,tE)::(nat_lit 203,cO "fits" "fits" 432 76 2 3 198 437)::(nat_lit 204,aiw)::(nat_lit 205,tE)::(nat_lit 207,tN 443 ["hall","plan","room","thing"])::(nat_lit 208,tE)::(nat_lit 210,ahu)::(nat_lit 211,ahD)::(nat_lit 212,tE)::(nat_lit 215,cP "lowest" "lowest" 452 88 2 3 212 455)::(nat_lit 216,ahh)::(nat_lit 217,tE)::(nat_lit 220,aiJ)::(nat_lit 221,aga)::(nat_lit 222,tE)::(nat_lit 225,cP "row_plus" "row_plus" 464 95 3 3 222 467)::(nat_lit 226,aiZ)::(nat_lit 227,tE)::(nat_lit 229,tN 473 ["leveled","step","row"])::(nat_lit 230,tE)::(nat_lit 232,ail)::(nat_lit 233,aif)::(nat_lit 234,tE)::(nat_lit 236,tN 482 ["row","column"])::(nat_lit 237,tE)::(nat_lit 239,ah0)::(nat_lit 240,akg)::(nat_lit 241,tE)::(nat_lit 244,aiq)::(nat_lit 245,agc)::(nat_lit 246,tE)::(nat_lit 248,aj6)::(nat_lit 249,tE)::(nat_lit 251,agW)::(nat_lit 252,ajV)::(nat_lit 253,tE)::(nat_lit 255,tN 506 ["leveled","steps","step"])::(nat_lit 256,tE)::(nat_lit 258,cO "go_on" "go_on" 503 120 3 3 253 509)::(nat_lit 259,af6)::(nat_lit 260,tE)::(nat_lit 262,aj4)::(nat_lit 263,tE)::(nat_lit 265,ahg)::(nat_lit 266,akb)::(nat_lit 267,tE)::(nat_lit 269,ahn)::(nat_lit 270,tE)::(nat_lit 272,aj1)::(nat_lit 273,ain)::(nat_lit 274,tE)::(nat_lit 277,cP "reduced" "reduced" 536 134 2 3 274 539)::(nat_lit 278,ajq)::(nat_lit 279,tE)::(nat_lit 281,tN 547 ["rows"])::(nat_lit 282,tE)::(nat_lit 284,aiA)::(nat_lit 285,aj7)::(nat_lit 286,tE)::(nat_lit 289,ai8)::(nat_lit 290,af9)::(nat_lit 291,tE)::(nat_lit 294,ahc)::(nat_lit 295,aib)::(nat_lit 296,tE)::(nat_lit 298,tN 566 ["end","begins","wide","row"])::(nat_lit 299,tE)::(nat_lit 301,cO "odd_row" "odd_row" 563 159 3 3 296 570)::(nat_lit 302,aiy)::(nat_lit 303,tE)::(nat_lit 305,ahM)::(nat_lit 306,tE)::(nat_lit 308,aiF)::(nat_lit 309,ahF)::(nat_lit 310,tE)::(nat_lit 313,ahG)::(nat_lit 314,ajp)::(nat_lit 315,tE)::(nat_lit 317,ahU)::(nat_lit 318,tE)::(nat_lit 320,ajc)::(nat_lit 321,agX)::(nat_lit 322,tE)::(nat_lit 325,ahe)::(nat_lit 326,af8)::(nat_lit 327,tE)::(nat_lit 329,ai7)::(nat_lit 330,tE)::(nat_lit 332,aiB)::(nat_lit 333,aht)::(nat_lit 334,tE)::(nat_lit 337,aiS)::(nat_lit 338,agP)::(nat_lit 339,tE)::(nat_lit 342,cP "is_word" "is_word" 633 195 1 3 339 636)::(nat_lit 343,ahi)::(nat_lit 344,tE)::(nat_lit 346,tN 644 ["name","pay"])::(nat_lit 347,tE)::(nat_lit 349,ajW)::(nat_lit 350,ajF)::(nat_lit 351,tE)::(nat_lit 353,tN 652 ["room"])::(nat_lit 354,tE)::(nat_lit 356,aie)::(nat_lit 357,ahw)::(nat_lit 358,tE)::(nat_lit 360,tN 659 ["chance"])::(nat_lit 361,tE)::(nat_lit 363,akc)::(nat_lit 364,ah4)::(nat_lit 365,tE)::(nat_lit 368,ahx)::(nat_lit 369,agh)::(nat_lit 370,tE)::(nat_lit 373,ag5)::(nat_lit 374,ahV)::(nat_lit 382,tE)::(nat_lit 384,tN 690 ["self","name","pay"])::(nat_lit 385,tE)::(nat_lit 387,aho)::(nat_lit 388,ajd)::(nat_lit 389,tE)::(nat_lit 391,tN 699 ["self"])::(nat_lit 392,tE)::(nat_lit 394,cO "ways" "Door.ways" 696 230 1 3 389 700)::(nat_lit 395,af4)::(nat_lit 396,tE)::(nat_lit 398,tN 706 ["self","room"])::(nat_lit 399,tE)::(nat_lit 401,ahB)::(nat_lit 402,agH)::(nat_lit 403,tN 711 ["leads","name","pay"])::(nat_lit 404,ag6 P)::(nat_lit 405,agt)::(nat_lit 406,ahY)::(nat_lit 407,af7)::(nat_lit 410,ahq)::(nat_lit 417,tE)::(nat_lit 419,tN 737 ["self","name","pay","room"])::(nat_lit 420,tE)::(nat_lit 422,ahb)::(nat_lit 423,ahL)::(nat_lit 424,tN 744 ["leads"])::(nat_lit 425,aiz P)::(nat_lit 426,aij)::(nat_lit 429,ahs)::(nat_lit 436,tE)::(nat_lit 438,tN 764 ["self","name","pay","pairs"])::(nat_lit 439,tE)::(nat_lit 441,ajD)::(nat_lit 442,agj)::(nat_lit 443,tN 771 ["leads"])::(nat_lit 444,ai1 P)::(nat_lit 445,ah6)::(nat_lit 448,ajA)::(nat_lit 455,tE)::(nat_lit 457,agy)::(nat_lit 458,tE)::(nat_lit 460,aju)::(nat_lit 461,ajr)::(nat_lit 462,tE)::(nat_lit 463,ajl P)::(nat_lit 464,ahk)::(nat_lit 467,agQ)::(nat_lit 474,tE)::(nat_lit 477,aje)::(nat_lit 478,ag4)::(nat_lit 479,tE)::(nat_lit 480,agv P)::(nat_lit 481,aiT)::(nat_lit 484,tE)::(nat_lit 486,tN 831 ["share"])::(nat_lit 487,tE)::(nat_lit 489,agE)::(nat_lit 490,akd)::(nat_lit 491,tE)::(nat_lit 493,tN 838 ["rooms","numbers","room","name"])::(nat_lit 494,tE)::(nat_lit 496,aha)::(nat_lit 497,af5)::(nat_lit 498,tE)::(nat_lit 500,agS)::(nat_lit 501,tE)::(nat_lit 503,ajm)::(nat_lit 504,af0)::(nat_lit 505,tE)::(nat_lit 507,akm)::(nat_lit 508,tE)::(nat_lit 510,ahQ)::(nat_lit 511,ah7)::(nat_lit 519,tE)::(nat_lit 522,agJ)::(nat_lit 523,agk)::(nat_lit 524,tE)::(nat_lit 526,tN 888 ["self"])::(nat_lit 527,tE)::(nat_lit 529,cO "size" "Hall.size" 885 293 1 3 524 889)::(nat_lit 530,ahK)::(nat_lit 531,tE)::(nat_lit 533,tN 895 ["self"])::(nat_lit 534,tE)::(nat_lit 536,cO "names" "Hall.names" 892 296 1 3 531 896)::(nat_lit 537,ahT)::(nat_lit 538,tE)::(nat_lit 540,tN 902 ["self","name"])::(nat_lit 541,tE)::(nat_lit 543,cO "place" "Hall.place" 899 299 2 3 538 904)::(nat_lit 544,aiV)::(nat_lit 545,tE)::(nat_lit 547,tN 910 ["self","room"])::(nat_lit 548,tE)::(nat_lit 550,ajN)::(nat_lit 551,ah8)::(nat_lit 552,tE)::(nat_lit 554,tN 918 ["self","room","name"])::(nat_lit 555,tE)::(nat_lit 557,ahr)::(nat_lit 558,ahC)::(nat_lit 559,tE)::(nat_lit 562,aiQ)::(nat_lit 563,ag0)::(nat_lit 564,tN 930 ["numbers","offered","share"])::(nat_lit 565,agl P)::(nat_lit 566,ai3)::(nat_lit 567,ajT)::(nat_lit 568,ah5)::(nat_lit 571,tE)::(nat_lit 573,tN 946 ["_law_script","_law_k"])::(nat_lit 574,tE)::(nat_lit 576,ah1)::(nat_lit 577,aj8)::(nat_lit 578,tE)::(nat_lit 580,agU)::(nat_lit 581,tE)::(nat_lit 583,agb)::(nat_lit 584,agn)::(nat_lit 585,tE)::(nat_lit 587,ahR)::(nat_lit 588,tE)::(nat_lit 590,akl)::(nat_lit 591,ajn)::(nat_lit 592,tE)::(nat_lit 594,aix)::(nat_lit 595,tE)::(nat_lit 597,akp)::(nat_lit 598,agu)::(nat_lit 599,tE)::(nat_lit 601,tN 985 ["_law_found","_law_number"])::(nat_lit 602,tE)::(nat_lit 604,ajo)::(nat_lit 605,ake)::(nat_lit 606,tE)::(nat_lit 609,akn)::(nat_lit 610,agz)::(nat_lit 611,tE)::(nat_lit 613,tN 999 ["_law_one","_law_other"])::(nat_lit 614,tE)::(nat_lit 616,ai9)::(nat_lit 617,aiO)::(nat_lit 618,tE)::(nat_lit 621,ajv)::(nat_lit 622,aiD)::(nat_lit 623,tE)::(nat_lit 625,aik)::(nat_lit 626,tE)::(nat_lit 628,ahA)::(nat_lit 629,agC)::(nat_lit 630,tE)::(nat_lit 632,ahf)::(nat_lit 633,tE)::(nat_lit 635,ajk)::(nat_lit 636,aii)::(nat_lit 637,tE)::(nat_lit 640,ahd)::(nat_lit 641,afZ)::(nat_lit 642,tE)::(nat_lit 645,aiM)::(nat_lit 646,aiC)::(nat_lit 647,tE)::(nat_lit 650,ajx)::(nat_lit 651,aja)::(nat_lit 652,tE)::(nat_lit 655,agB)::(nat_lit 656,agD)::(nat_lit 657,tE)::(nat_lit 659,akk)::(nat_lit 660,tE)::(nat_lit 662,aj0)::(nat_lit 663,aj3)::(nat_lit 664,tE)::(nat_lit 666,ajh)::(nat_lit 667,tE)::(nat_lit 669,ajR)::(nat_lit 670,agR)::(nat_lit 671,tE)::(nat_lit 673,tN 1080 ["_law_cell_here","_law_xs"])::(nat_lit 674,tE)::(nat_lit 676,ai0)::(nat_lit 677,ajj)::(nat_lit 678,tE)::(nat_lit 680,ajt)::(nat_lit 681,tE)::(nat_lit 683,ago)::(nat_lit 684,aic)::(nat_lit 685,tE)::(nat_lit 687,tN 1100 ["_law_cell_here","_law_many"])::(nat_lit 688,tE)::(nat_lit 690,agm)::(nat_lit 691,agM)::(nat_lit 692,tE)::(nat_lit 694,agg)::(nat_lit 695,tE)::(nat_lit 697,aiL)::(nat_lit 698,aiY)::(nat_lit 699,tE)::(nat_lit 701,ahS)::(nat_lit 702,tE)::(nat_lit 704,ahX)::(nat_lit 705,akr)::(nat_lit 706,tE)::(nat_lit 708,tN 1131 ["_law_hall_here","_law_cell_here","_law_plan","_law_rooms","_law_at","_law_spoilt_here","_law_word","_law_room"])::(nat_lit 709,tE)::(nat_lit 711,cO "_law_plan_told" "_law_plan_told" 1128 474 4 3 706 1139)::(nat_lit 712,fO "_law_plan_told" "_law_plan_told" (top 94) (.str "law_chancehall_k22_worths" 941) 711)::(nat_lit 713,tE)::(nat_lit 716,cP "law" "law" 1142 478 1 3 713 1145)::(nat_lit 717,fO "law" "law" (top 95) (.str "law_chancehall_k22_worths" 941) 716)::([] : List (Nat×Obj)))
noncomputable abbrev asH:List Nat:=[2,3,15,17,18,20,21,22,29,30,31,32,35,42,43,44,47,54,55,56,59,66,67,68,71,78,79,80,83,90,92,93,95,96,97,98,99,102,109,111,112,114,115,116,117,118,121,123,124,126,127,128,130,131,133,134,135,136,137,139,140,142,143,144,146,147,149,150,151,153,154,156,157,158,160,161,163,164,165,167,168,170,171,172,174,175,177,178,179,181,182,184,185,186,189,190,191,193,194,196,197,198,200,201,203,204,205,207,208,210,211,212,215,216,217,220,221,222,225,226,227,229,230,232,233,234,236,237,239,240,241,244,245,246,248,249,251,252,253,255,256,258,259,260,262,263,265,266,267,269,270,272,273,274,277,278,279,281,282,284,285,286,289,290,291,294,295,296,298,299,301,302,303,305,306,308,309,310,313,314,315,317,318,320,321,322,325,326,327,329,330,332,333,334,337,338,339,342,343,344,346,347,349,350,351,353,354,356,357,358,360,361,363,364,365,368,369,370,373,374,382,384,385,387,388,389,391,392,394,395,396,398,399,401,402,403,404,405,406,407,410,417,419,420,422,423,424,425,426,429,436,438,439,441,442,443,444,445,448,455,457,458,460,461,462,463,464,467,474,477,478,479,480,481,484,486,487,489,490,491,493,494,496,497,498,500,501,503,504,505,507,508,510,511,519,522,523,524,526,527,529,530,531,533,534,536,537,538,540,541,543,544,545,547,548,550,551,552,554,555,557,558,559,562,563,564,565,566,567,568,571,573,574,576,577,578,580,581,583,584,585,587,588,590,591,592,594,595,597,598,599,601,602,604,605,606,609,610,611,613,614,616,617,618,621,622,623,625,626,628,629,630,632,633,635,636,637,640,641,642,645,646,647,650,651,652,655,656,657,659,660,662,663,664,666,667,669,670,671,673,674,676,677,678,680,681,683,684,685,687,688,690,691,692,694,695,697,698,699,701,702,704,705,706,708,709,711,712,713,716,717]
end
def qv:Program:=view p [0,2,3,4,5,6,7,8,10,11,13,14,15,16,17,18,19,20,21,23,24,26,27,29,30,31,32,33,34,35,36,37,38,39,41,42,43,44,45,46,47,49,50,51,53,54,56,57,58,59,60,61,62,63,64,65,67,68,69,70,71,73,74,75,76,77,78,79,80,81,82,83,84,85,86,87,88,89,90,91,92,93,94,95]
noncomputable abbrev R:RowW:=PySem.Challenge.rw_chancehall_k22_worths.row.toRowW
def Xt(s:Shared):Bool:=xlAt qv [] s&&recOk R.records s
noncomputable def e:Pos:=⟨478,0,493,138⟩
set_option maxHeartbeats 0
theorem lko:looksOpen PySem.Challenge.rw_chancehall_k22_worths.row.prog=true:=by kernel_rfl
theorem wsd:PySem.Challenge.rw_chancehall_k22_worths.wellSaid=true:=by
 unfold OpenLaw.wellSaid OpenRow.wellSaid OpenRow.partSaid;rw[lko]
 kernel_rfl
theorem asK:∀P,asH=(KH P).map (·.1):=λ_=>by kernel_rfl
theorem pre(w:World):(λos=>topGo treeTable p w 11 ann 12 (S0 w os) (topStub p))=λos=>some (Sa w os,⟨denote treeTable (cE p),cE p,z,B⟩):=by
 rw[Fast.te15667345088766844465,Fast.te14364793385576792824,Fast.te11892475500146522536];kernel_rfl
theorem block(w:World):(λos=>segRun treeTable p w 11 ann 1 1 (Sa w os) (blockOf (behindTheImports p) (env p) (cE p) z B))=λos=>some (.next,(Sb w os).abs,cE p,z):=by
 rw[Fast.te14374325043358763698,Fast.te14364793385576792824];kernel_rfl
theorem aiG(w:World):(λos=>segRunT treeTable p w 11 ann 1 30000 (Sb w os) (piecesOf ((behindTheImports p).take 94) (env p) (cE p) z B))=λos=>some (.next,S1 w os,cE p,e1):=by
 rw[Fast.te10110043849684766642,Fast.te14364793385576792824];kernel_rfl
theorem comb{R S A B C X Y Z:Type _}{o:Option R}{f:R->A}{g:R->B}{k:R->C}{h:R->Option S}{f1:S->X}{f2:S->Y}{f3:S->Z}{a:A}{b:B}{c:C}{x:X}{y:Y}{z:Z}(h1:(o.map λr=>(f r,g r,k r,(h r).map f1))=some (a,b,c,some x))(h2:(o.map λr=>(f r,g r,k r,(h r).map f2))=some (a,b,c,some y))(h3:(o.map λr=>(f r,g r,k r,(h r).map f3))=some (a,b,c,some z)):(o.map λr=>(f r,g r,k r,(h r).map λs=>(f1 s,f2 s,f3 s)))=some (a,b,c,some (x,y,z)):=by
 cases o with
 |none=>cases h1
 |some r =>
  simp only[Option.map_some,Option.some.injEq,Prod.mk.injEq]at h1 h2 h3 ⊢;obtain⟨a1,a2,a3,a4⟩:=h1;obtain⟨_,_,_,b4⟩:=h2;obtain⟨_,_,_,c4⟩:=h3;cases hr:h r with
  |none=>rw[hr]at a4;cases a4
  |some s =>
   rw[hr]at a4 b4 c4;refine⟨a1,a2,a3,?_⟩;simp only[Option.map_some,Option.some.injEq]at a4 b4 c4 ⊢;rw[a4,b4,c4]
theorem alP(w:World):(λos=>(segRunT treeTable p w 11 ann 1 50000 (S1 w os) (piecesOf ((behindTheImports p).drop 94) (env p) (cE p) e1 B)).map λr=>(r.1,r.2.2.1,r.2.2.2,(topRun treeTable p w 11 ann 2 r.2.1.abs ⟨doneF .next,cE p,e,B⟩).map λs=>openSeen qv [] (importedModules p.main.body) Xt true s))=λ_=>some (.next,cE p,e,some (openGood qv [])):=by
 rw[Fast.te10110043849684766642,Fast.te14364793385576792824,Fast.te14082659384304107361,Fast.te4187177175401517315,Fast.te5923862056798008813];kernel_rfl
theorem akx(w:World):(λos=>(segRunT treeTable p w 11 ann 1 50000 (S1 w os) (piecesOf ((behindTheImports p).drop 94) (env p) (cE p) e1 B)).map λr=>(r.1,r.2.2.1,r.2.2.2,(topRun treeTable p w 11 ann 2 r.2.1.abs ⟨doneF .next,cE p,e,B⟩).map λs=>staticsOk (importedModules p.main.body) (boot_heap w.params) s.heap&&namesBound p s.heap&&gensDone s&&laidKept (boot_heap w.params) s.heap))=λ_=>some (.next,cE p,e,some (true)):=by
 rw[Fast.te10110043849684766642,Fast.te14364793385576792824,Fast.te14082659384304107361];kernel_rfl
theorem alz(w:World):(λos=>(segRunT treeTable p w 11 ann 1 50000 (S1 w os) (piecesOf ((behindTheImports p).drop 94) (env p) (cE p) e1 B)).map λr=>(r.1,r.2.2.1,r.2.2.2,(topRun treeTable p w 11 ann 2 r.2.1.abs ⟨doneF .next,cE p,e,B⟩).map λs=>asH.map s.heap.get?))=λ_=>some (.next,cE p,e,some ((KH w.params).map λp=>some p.2)):=by
 rw[Fast.te10110043849684766642,Fast.te14364793385576792824,Fast.te14082659384304107361];kernel_rfl
theorem big(w:World):(λos=>(segRunT treeTable p w 11 ann 1 50000 (S1 w os) (piecesOf ((behindTheImports p).drop 94) (env p) (cE p) e1 B)).map λr=>(r.1,r.2.2.1,r.2.2.2,(topRun treeTable p w 11 ann 2 r.2.1.abs ⟨doneF .next,cE p,e,B⟩).map λs=>(staticsOk (importedModules p.main.body) (boot_heap w.params) s.heap&&namesBound p s.heap&&gensDone s&&laidKept (boot_heap w.params) s.heap,openSeen qv [] (importedModules p.main.body) Xt true s,asH.map s.heap.get?)))=λ_=>some (.next,cE p,e,some (true,openGood qv [],(KH w.params).map λp=>some p.2)):=funext λos=>comb (congrFun (akx w) os) (congrFun (alP w) os) (congrFun (alz w) os)
theorem left:LeftO p qv [] Xt (λs=>asH.map s.heap.get?) (λw=>(KH w.params).map λp=>some p.2) 200000 :=
 V2 (boot_open rfl rfl λ_=>rfl) pre block (λw os=>mW.cutAt (congrFun (aiG w) os) (mW.last (congrFun (big w) os))) rfl
theorem hX(s:Shared)(h:Xt s=true):XL qv [] (s.heap.nsMap mainGlobals) s.heap:=xl_of s (Bool.and_eq_true_iff.mp h).1
theorem hR(s:Shared)(h:Xt s=true):RecFacts R.records s.heap:=recFacts_of (Bool.and_eq_true_iff.mp h).2
end
end H22
noncomputable section
namespace L2
open PySem PySem.Spec PyProof.Rows
noncomputable abbrev Key:=Sum Int Str
noncomputable def zX:Key->Value->Bool
 |.inl k,v=>Value.isInt k v
 |.inr x,v=>Value.isStrOf x v
noncomputable def alA(w:World):Key->Int
 |.inl k=>hashInt k
 |.inr x=>hashStr w x
theorem eG:∀{k:Key}{v:Value},zX k v=true->(∃i t,k=Sum.inl i/\v=Value.int i t)\/(∃x t,k=Sum.inr x/\v=Value.str x t)
 |.inl i,v,h=>by
  obtain⟨t,e⟩:=Value.isInt_shape (k:=i) (v:=v) h;exact .inl ⟨i,t,rfl,e⟩
 |.inr x,v,h=>by
  obtain⟨t,e⟩:=Value.isStrOf_shape (x:=x) (v:=v) h;exact .inr ⟨x,t,rfl,e⟩
theorem W5(i:Int)(t:Tok):zX (.inl i) (.int i t)=true:=by simp[zX,Value.isInt]
theorem Wt(x:Str)(t:Tok):zX (.inr x) (.str x t)=true:=by simp[zX,Value.isStrOf]
theorem afg(a b:Int):decide ((Sum.inl a:Key)=Sum.inl b)=(a==b):=by
 by_cases e:a=b
 .subst e;simp
 .have h:¬(Sum.inl a:Key)=Sum.inl b:=λq=>e (Sum.inl.inj q);rw[Zp h];exact(beq_eq_false_iff_ne.mpr e).symm
theorem aei(a b:Str):decide ((Sum.inr a:Key)=Sum.inr b)=decide (a=b):=by
 by_cases e:a=b
 .subst e;simp
 .have h:¬(Sum.inr a:Key)=Sum.inr b:=λq=>e (Sum.inr.inj q);rw[Zp h,Zp e]
theorem ae8(a:Int)(b:Str):decide ((Sum.inl a:Key)=Sum.inr b)=false:=Zp (λq=>nomatch q)
theorem afY(a:Str)(b:Int):decide ((Sum.inr a:Key)=Sum.inl b)=false:=Zp (λq=>nomatch q)
def iR(prog:Program)(w:World):PySem.KeyKind prog w Key where
 is:=zX
 hash:=alA w
 inj:=λv a b ha hb=>by
  rcases eG ha with⟨i,t,rfl,rfl⟩|⟨x,t,rfl,rfl⟩
  .rcases eG hb with⟨j,u,rfl,e⟩|⟨y,u,rfl,e⟩
   .injection e with e1 _;rw[e1]
   .exact nomatch e
  .rcases eG hb with⟨j,u,rfl,e⟩|⟨y,u,rfl,e⟩
   .exact nomatch e
   .injection e with e1 _;rw[e1]
 byValue:=λk v h=>by
  rcases eG h with⟨i,t,rfl,rfl⟩|⟨x,t,rfl,rfl⟩<;>rfl
 pyHash:=λhv h=>by
  rcases eG hv with⟨i,t,rfl,rfl⟩|⟨x,t,rfl,rfl⟩
  .exact wpAny_pyHash_int h
  .exact wpAny_pyHash_str h
 eqBool:=λhu hv h=>by
  rcases eG hu with⟨i,t,rfl,rfl⟩|⟨x,t,rfl,rfl⟩
  .rcases eG hv with⟨j,u,rfl,rfl⟩|⟨y,u,rfl,rfl⟩
   .rw[afg]at h;exact wpAny_eqBool_int h
   .rw[ae8]at h;exact SeqAt.EqAt.int_str i t y u _ _ _ _ h
  .rcases eG hv with⟨j,u,rfl,rfl⟩|⟨y,u,rfl,rfl⟩
   .rw[afY]at h;exact SeqAt.EqAt.str_int x t j u _ _ _ _ h
   .rw[aei]at h;exact wpAny_eqBool_str h
 «strs»:=λk x t v h=>by
  rcases eG h with⟨i,u,rfl,e⟩|⟨y,u,rfl,e⟩
  .exact nomatch e
  .injection e with e1 _;subst e1;cases v<;>rfl
theorem QL(prog:Program)(w:World)(i:Int)(t:Tok):(iR prog w).is (.inl i) (.int i t)=true:=W5 i t
theorem Om(prog:Program)(w:World)(x:Str)(t:Tok):(iR prog w).is (.inr x) (.str x t)=true:=Wt x t
inductive V where
 |non|bl (b:Bool)|int (i:Int)|str (x:Str)|byt (b:Array UInt8)|flt (b:UInt64)|ref (a:Addr)|ty (n:String)
 deriving DecidableEq
noncomputable abbrev Ε:=List V
def RelV:V->Value->Prop
 |.non,u=>u=Value.none
 |.bl b,u=>u=Value.bool b
 |.int i,u=>∃t,u=Value.int i t
 |.str x,u=>∃t,u=Value.str x t
 |.byt b,u=>∃t,u=Value.bytes b t
 |.flt b,u=>∃t,u=Value.float b t
 |.ref a,u=>u=Value.ref a
 |.ty n,u=>u=Value.type n
abbrev Vals:Ε->Δ->Prop:=Paired RelV
theorem Vals.length{xs:Ε}{us:Δ}(r:Vals xs us):xs.length=us.length:=Paired.length r
theorem Vals.get:∀{xs:Ε}{us:Δ}{i:Nat}{x:V},Vals xs us->xs[i]?=some x->∃u,us[i]?=some u/\RelV x u
 |_,_,_,_,.nil,e=>by simp at e
 |_,_,0,_,.cons r _,e=>by simp at e;subst e;exact⟨_,rfl,r⟩
 |_,_,i+1,x,.cons _ t,e=>by
  obtain⟨u,h1,h2⟩:=Vals.get (i:=i) (x:=x) t (by simpa using e);exact⟨u,by simpa using h1,h2⟩
theorem Vals.set{x:V}{u:Value}(r:RelV x u):∀{xs:Ε}{us:Δ}(i:Nat),Vals xs us->Vals (xs.set i x) (us.set i u)
 |_,_,_,.nil=>.nil
 |_,_,0,.cons _ t=>.cons r t
 |_,_,i+1,.cons q t=>.cons q (Vals.set r i t)
theorem Vals.append:∀{xs ys:Ε}{us ws:Δ},Vals xs us->Vals ys ws->Vals (xs++ys) (us++ws)
 |_,_,_,_,.nil,s=>s
 |_,_,_,_,.cons r t,s=>.cons r (Vals.append t s)
theorem Vals.take:∀{xs:Ε}{us:Δ}(n:Nat),Vals xs us->Vals (xs.take n) (us.take n)
 |_,_,0,_=>.nil
 |_,_,_+1,.nil=>.nil
 |_,_,n+1,.cons r t=>.cons r (Vals.take n t)
theorem Vals.drop:∀{xs:Ε}{us:Δ}(n:Nat),Vals xs us->Vals (xs.drop n) (us.drop n)
 |_,_,0,r=>r
 |_,_,_+1,.nil=>.nil
 |_,_,n+1,.cons _ t=>Vals.drop n t
def um:Option V->Ψ->Prop
 |some v,some u=>RelV v u
 |none,none=>True
 |_,_=>False
def KV{κ:Type} : List (κ×V)->List (κ×Value)->Prop:=Paired λ(p:κ×V)(q:κ×Value)=>p.1=q.1/\RelV p.2 q.2
noncomputable def kV:Key->V
 |.inl i=>.int i
 |.inr x=>.str x
inductive HO where
  |lst (xs:Ε)
  |tup (xs:Ε)
  |dK (kvs:List (Key×V))
  |set (S:Int->Bool) (n:Nat)
  |ins (C dx:Addr) (fs:List (Str×V))
  |own (x:Addr)
  |xd (fs:List (Str×V))
  |met (f x:Addr)
  |rng (lo hi:Int)
  |frz (o:Obj) (u:HO)
  |tbl (ps:Array Value)
  |ext (φ:Heap->Prop)
noncomputable abbrev Hp:=Addr->Option HO
noncomputable def upd(H:Hp)(a:Addr)(o:HO):Hp:=λb=>if b=a then some o else H b
theorem bW{H:Hp}{a:Addr}{o:HO} : upd H a o a=some o:=by unfold upd;rw[ZY rfl]
theorem bR{H:Hp}{a b:Addr}{o:HO}(h:b≠a):upd H a o b=H b:=by unfold upd;rw[ZZ h]
theorem Gb{H:Hp}{a b:Addr}{o u:HO}(h:H a=some o)(h':H b=some u)(d:o≠u):a≠b:=by
 intro e;subst e;rw[h]at h';exact d (Option.some.inj h')
theorem ju{H:Hp}{a b:Addr}{o:HO}(h:H a=some o)(h':H b=none):a≠b:=by
 intro e;subst e;rw[h]at h';cases h'
section
variable(P:Program)(w:World)
def dM(H:Hp)(h:Heap)(a:Addr):HO->Prop
 |.lst xs=>xs.length<=sizeLine/\∃(its:Δ)(n:Nat),Vals xs its/\h.get? a=some { cls:=.type "list",data:=.seq its.toArray n }
 |.tup xs=>xs.length<=sizeLine/\∃its:Δ,Vals xs its/\IsTup h a its.toArray
 |.dK kvs=>kvs.length<=sizeLine/\(a==sysModules)=false/\∃vs,KV kvs vs/\h.DictOf (iR P w) a vs
 |.set S n=>h.SetOf (intKind P w) a S n
 |.ins C dx fs=>H dx=some (.own a)/\fs.length<=1000/\dx≠a/\h.get? a=some (instObj C dx) /\
   ∃mA,h.Ns1 dx mA/\(∀f,um (fs.lookup f) (mA f))/\PySem.Within mA (fs.map (·.1))
 |.own _=>∃o,h.get? a=some o
 |.xd fs=>∃mA,h.Ns1 a mA/\∀f,um (fs.lookup f) (mA f)
 |.rng lo hi=>∃t u v,h.get? a=some { cls:=.type "range",data:=.fields #[.int lo t,.int hi u,.int 1 v] }
 |.frz o u=>h.get? a=some o/\dM H h a u
 |.tbl ps=>h.get? a=some { cls:=.none,data:=.fields ps }
 |.met f x=>h.get? a=some (methodObj (.ref f) (.ref x))
 |.ext φ=>φ h/\(∃o,h.get? a=some o)/\∀h1 h2:Heap,φ h1->(∀o,h1.get? a=some o->h2.get? a=some o)->φ h2
def HOk(H:Hp)(h:Heap):Prop:=∀a o,H a=some o->dM P w H h a o
end
section
variable{P:Program}{w:World}{H H':Hp}{h h':Heap}{a:Addr}{o:HO}
theorem dM.lt(x:dM P w H h a o):a<h.objs.size:=by
 cases o with
 |lst xs=>obtain⟨_,_,_,_,e⟩:=x;exact aK e
 |tup xs=>obtain⟨_,_,_,p⟩:=x;exact p.lt
 |dK kvs=>obtain⟨_,_,_,_,o,_,_,e,_⟩:=x;exact aK e
 |set S n=>obtain⟨o,_,_,_,e,_⟩:=x;exact aK e
 |ins C dx fs=>obtain⟨_,_,_,e,_⟩:=x;exact aK e
 |own y=>obtain⟨_,e⟩:=x;exact aK e
 |xd fs=>obtain⟨_,⟨_,_,_,e,_⟩,_⟩:=x;exact aK e
 |rng lo hi=>obtain⟨_,_,_,e⟩:=x;exact aK e
 |frz ob u=>obtain⟨e,_⟩:=x;exact aK e
 |tbl ps=>exact aK (show h.get? a=some _ from x)
 |met f y=>exact aK (show h.get? a=some _ from x)
 |ext φ=>obtain⟨_,⟨_,e⟩,_⟩:=x;exact aK e
theorem dM.stay(x:dM P w H h a o)(k:∀b u,(b=a\/H b=some (.own a))->h.get? b=some u->h'.get? b=some u)
 (ho:∀b,H b=some (.own a)->H' b=some (.own a))(ht:∀b xs,H b=some (.tup xs)->H' b=some (.tup xs)):dM P w H' h' a o:=by
 induction o with
 |lst xs=>obtain⟨z,its,n,r,e⟩:=x;exact⟨z,its,n,r,k _ _ (.inl rfl) e⟩
 |tup xs=>obtain⟨z,its,r,ob,e,c⟩:=x;exact⟨z,its,r,ob,k _ _ (.inl rfl) e,c⟩
 |dK kvs=>obtain⟨z,y,vs,r,ob,es,ep,e,c⟩:=x;exact⟨z,y,vs,r,ob,es,ep,k _ _ (.inl rfl) e,c⟩
 |set S n=>obtain⟨ob,es,ep,t,e,c⟩:=x;exact⟨ob,es,ep,t,k _ _ (.inl rfl) e,c⟩
 |ins C dx fs =>
  obtain⟨d,z,ne,e,mA,⟨od,es,ep,e2,c⟩,r⟩:=x;exact⟨ho _ d,z,ne,k _ _ (.inl rfl) e,mA,⟨od,es,ep,k _ _ (.inr d) e2,c⟩,r⟩
 |own y=>obtain⟨ob,e⟩:=x;exact⟨ob,k _ _ (.inl rfl) e⟩
 |xd fs=>obtain⟨mA,⟨od,es,ep,e,c⟩,r⟩:=x;exact⟨mA,⟨od,es,ep,k _ _ (.inl rfl) e,c⟩,r⟩
 |rng lo hi=>obtain⟨t,u,v,e⟩:=x;exact⟨t,u,v,k _ _ (.inl rfl) e⟩
 |frz ob u ih=>obtain⟨e,q⟩:=x;exact⟨k _ _ (.inl rfl) e,ih q⟩
 |tbl ps =>
  have e:h.get? a=some { cls:=.none,data:=.fields ps }:=x;show h'.get? a=some { cls:=.none,data:=.fields ps };exact k a _ (.inl rfl) e
 |met f y =>
  have e:h.get? a=some (methodObj (.ref f) (.ref y)):=x;show h'.get? a=some (methodObj (.ref f) (.ref y));exact k a _ (.inl rfl) e
 |ext φ=>obtain⟨p,⟨o,e⟩,st⟩:=x;exact⟨st _ _ p λo q=>k _ _ (.inl rfl) q,⟨o,k _ _ (.inl rfl) e⟩,st⟩
theorem HOk.lt(x:HOk P w H h)(e:H a=some o):a<h.objs.size:=(x a o e).lt
theorem HOk.fresh(x:HOk P w H h)(e:h.objs.size<=a):H a=none:=by
 cases q:H a with
 |none=>rfl
 |some u=>exact absurd (aR (x.lt q) e) (X9 _)
theorem HOk.kept(x:HOk P w H h)(k:∀b u,h.get? b=some u->h'.get? b=some u):HOk P w H h':=λa o e =>
 (x a o e).stay (λb u _ q=>k b u q) (λ_ q=>q) λ_ _ q=>q
theorem HOk.laid(x:HOk P w H h)(k:∀b u,h.get? b=some u->h'.get? b=some u)(hp:h.objs.size<=a)(new:dM P w (upd H a o) h' a o):HOk P w (upd H a o) h':=λb u e=>by
 have hn:=x.fresh hp;by_cases hb:b=a
 .subst hb;rw[bW]at e;cases e;exact new
 .rw[bR hb]at e;exact(x b u e).stay (λc v _ q=>k c v q) (λc q=>by rw[bR (ju q hn)];exact q) λc xs q=>by rw[bR (ju q hn)];exact q
end
def Rd(H:Hp)(a:Addr)(u:HO):Prop:=H a=some u\/∃o,H a=some (.frz o u)
theorem Rd.of{H:Hp}{a:Addr}{u:HO}(h:H a=some u):Rd H a u:=.inl h
theorem Rd.ok{P:Program}{w:World}{H:Hp}{h:Heap}{a:Addr}{u:HO}(r:Rd H a u)(x:HOk P w H h):dM P w H h a u:=by
 rcases r with r|⟨o,r⟩
 .exact x a u r
 .obtain⟨_,q⟩:=x a _ r;exact q
def Mut:Option HO->Prop
 |some (.lst _)=>True
 |some (.dK _)=>True
 |some (.set _ _)=>True
 |some (.ins _ _ _)=>True
 |some (.ext _)=>True
 |_=>False
section
variable{P:Program}{w:World}{H:Hp}{h h':Heap}{x e:Addr}{o':HO}
theorem HOk.write(ok:HOk P w H h)(mu:Mut (H x))(he:e=x\/H e=some (.own x))(k:∀b u,b≠e->h.get? b=some u->h'.get? b=some u)(iq:∃u,h'.get? e=some u)
 (new:dM P w (upd H x o') h' x o'):HOk P w (upd H x o') h':=λb u q=>by
 have iO:∀c y,H c=some (.own y)->c≠x:=λc y r z=>by subst z;rw[r]at mu;exact mu
 have kX:∀c xs,H c=some (.tup xs)->c≠x:=λc xs r z=>by subst z;rw[r]at mu;exact mu
 by_cases hb:b=x
 .subst hb;rw[bW]at q;cases q;exact new
 .rw[bR hb]at q;by_cases hbe:b=e
  .have q':H b=some (.own x):=by
    rcases he with z|z
    .exact absurd (hbe.trans z) hb
    .rw[hbe];exact z
   rw[q]at q';cases q';obtain⟨v,hv⟩:=iq;exact⟨v,by rw[hbe];exact hv⟩
  .refine(ok b u q).stay (λc v hc r=>k c v ?_ r) (λc r=>by rw[bR (iO c b r)];exact r) λc xs r=>by rw[bR (kX c xs r)];exact r
   rcases hc with rfl|hc
   .exact hbe
   .rintro rfl;rcases he with z|z
    .exact iO c b hc z
    .rw[hc]at z;cases z;exact hb rfl
end
structure Un(fs ex:Φ)(H H':Hp)(h h':Heap):Prop where
 keep:∀b o,h.get? b=some o->H b=none->b∉fs->b∉ex->h'.get? b=some o
 slot:∀b o,h.get? b=some o->H b=none->b∈fs->b∉ex->∃sl,h'.get? b=some { o with slots:=sl }
 free:∀b o,h.get? b=some o->H b=none->b∉ex->H' b=none
 there:∀b o,h.get? b=some o->b∉ex->∃o',h'.get? b=some o'
 tups:∀b xs,H b=some (.tup xs)->H' b=some (.tup xs)
 frzs:∀b o u,H b=some (.frz o u)->H' b=some (.frz o u)
 tbls:∀b ps,H b=some (.tbl ps)->∃more,H' b=some (.tbl (ps++more))
section
variable{fs fs' ex ex':Φ}{H H1 H2:Hp}{h h1 h2 h':Heap}{a x e:Addr}{o:HO}
theorem Un.any(u:Un fs ex H H1 h h1){b:Addr}{ob:Obj}(q:h.get? b=some ob)(n:H b=none)(hx:b∉ex):∃sl,h1.get? b=some { ob with slots:=sl }:=by
 by_cases hb:b∈fs
 .exact u.slot b ob q n hb hx
 .exact⟨ob.slots,u.keep b ob q n hb hx⟩
theorem Un.kept(k:∀b u,h.get? b=some u->h'.get? b=some u):Un fs ex H H h h' :=
 ⟨λb ob q _ _ _=>k b ob q,λb ob q _ _ _=>⟨ob.slots,k b ob q⟩,λ_ _ _ n _=>n,λb ob q _=>⟨ob,k b ob q⟩,λ_ _ q=>q,λ_ _ _ q=>q,λ_ ps q=>⟨#[],by rw[q];simp⟩⟩
theorem Un.refl:Un fs ex H H h h:=Un.kept λ_ _ q=>q
theorem Un.laid(k:∀b u,h.get? b=some u->h'.get? b=some u)(hp:h.objs.size<=a)(hn:H a=none):Un fs ex H (upd H a o) h h' where
 keep:=λb u q _ _ _=>k b u q
 slot:=λb u q _ _ _=>⟨u.slots,k b u q⟩
 free:=λb u q n _=>by rw[bR (aQ (aR (aK q) hp))];exact n
 there:=λb u q _=>⟨u,k b u q⟩
 tups:=λb xs q=>by rw[bR (ju q hn)];exact q
 frzs:=λb u xs q=>by rw[bR (ju q hn)];exact q
 tbls:=λb ps q=>⟨#[],by rw[bR (ju q hn),q];simp⟩
theorem Un.write(mu:Mut (H x))(he:e=x\/H e=some (.own x))(k:∀b u,b≠e->h.get? b=some u->h'.get? b=some u)(iq:∃u,h'.get? e=some u):Un fs ex H (upd H x o) h h':=by
 have hx:∀b,H b=none->b≠x:=λb n z=>by subst z;rw[n]at mu;exact mu
 have hb:∀b,H b=none->b≠e:=λb n z=>by
  subst z;rcases he with r|r
  .exact hx b n r
  .rw[n]at r;cases r
 have hm:∀b u,H b=some u->¬Mut (some u)->b≠x:=λb u q nm z=>by subst z;rw[q]at mu;exact nm mu
 refine⟨λb u q n _ _=>k b u (hb b n) q,λb u q n _ _=>⟨u.slots,k b u (hb b n) q⟩,λb u q n _=>by rw[bR (hx b n)];exact n,λb u q _=>?_,
  λb xs q=>by rw[bR (hm b _ q λz=>z)];exact q,λb u xs q=>by rw[bR (hm b _ q λz=>z)];exact q,λb ps q=>⟨#[],by rw[bR (hm b _ q λz=>z),q];simp⟩⟩
 by_cases hbe:b=e
 .subst hbe;exact iq
 .exact⟨u,k b u hbe q⟩
end
noncomputable def trk(h:Heap)(H:Hp):Φ:=(List.range h.objs.size).filter λa=>(H a).isSome
def MJ(h:Heap)(H:Hp):Heap:=hideAll h (trk h H)
theorem VB(h:Heap)(H:Hp):(MJ h H).objs.size=h.objs.size:=PySem.W.hideAll_size _ _
theorem aay{h:Heap}{H:Hp}{b:Addr}{o:Obj}(e:h.get? b=some o)(n:H b=none):(MJ h H).get? b=some o :=
 hideAll_get _ e λhm=>by
  have q:(H b).isSome=true:=(List.mem_filter.mp hm).2;rw[n]at q;simp at q
theorem acP{h:Heap}{H:Hp}{b:Addr}{o:Obj}(e:(MJ h H).get? b=some o):h.get? b=some o/\H b=none:=by
 have e':h.get? b=some o:=of_hideAll (trk h H) e;refine⟨e',?_⟩;cases q:H b with
 |none=>rfl
 |some x =>
  have hm:b∈trk h H:=List.mem_filter.mpr ⟨List.mem_range.mpr (aK e'),by simp[q]⟩;have z:(MJ h H).get? b=none:=PySem.W.hideAll_none (trk h H) hm;rw[z]at e;cases e
noncomputable def aaI(g h:Heap)(L:Addr):Γ:=(List.range h.objs.size).filterMap λa=>if a=L\/(g.get? a).isSome=true then none else(h.get? a).map λo=>(a,o)
def rest(g h:Heap)(L d:Addr):Γ:=(aaI g h L).filter λp=>decide (p.1≠d)
structure Mod(K:Frag)(mg:Str->Ψ)(base:Heap):Prop where
 kin:K.In base
 glob:base.Ns mainGlobals mg
 blt:∃mb,base.Ns builtinsNs mb/\∀x:Str,x≠"__name__"->mb x=bootBuiltins x
 nolimit:base.NoLimit
structure Cx where
 prog:Program
 w:World
 K:Frag
 mg:Str->Ψ
 base:Heap
 A:Around
 N:Θ
 s₀:Shared
 H₀:Hp
 env:Env
 outer:List Env
 stack:List Env
 ex:Φ
 fn:Str->Bool
 calm:Bool
 pn:Γ
 xe:Β
noncomputable def frs(l:List Env):Φ:=l.filterMap (·.frame)
abbrev Cx.fs(X:Cx):Φ:=frs X.outer
def Vis(sc:Scope)(x:Str):Prop:=sc.names.lookup x=some .local\/sc.names.lookup x=some .cell\/sc.names.lookup x=some .free
def Loc(sc:Scope)(x:Str):Prop:=sc.names.lookup x=some .local\/sc.names.lookup x=some .cell
def Look(env:Env)(h:Heap)(m:Str->Ψ)(x:Str)(u:Value):Prop :=
 (env.kindOf x=some .local/\m x=some u)\/((env.kindOf x=some .cell\/env.kindOf x=some .free)/\∃c,env.cells.lookup x=some c/\h.IsCell c (some u))
structure Cx.Ok(X:Cx):Prop where
 mod:Mod X.K X.mg X.base
 kind:X.env.scope.kind=.function
 glob:X.env.globals=mainGlobals
 blt:X.env.builtins=builtinsNs
 above:X.s₀.heap.objs.size<=X.env.locals
 inj:∀x y c,X.env.cells.lookup x=some c->X.env.cells.lookup y=some c->x=y
 has:∀x,(X.env.kindOf x=some .cell\/X.env.kindOf x=some .free)->∃c,X.env.cells.lookup x=some c
 cab:∀x c,X.fn x=true->X.env.cells.lookup x=some c->X.s₀.heap.objs.size<=c
 hd:X.calm=true->X.A.handled=none
 frames:X.A.frames=some X.stack
 stk:X.stack=X.outer\/(X.stack=X.env::X.outer/\X.env.frame=some X.env.locals)
 exf:∀b∈X.ex,b≠X.env.locals/\∀x c,X.env.cells.lookup x=some c->c≠b
 bs:∀b o,X.base.get? b=some o->X.s₀.heap.get? b=some o/\X.H₀ b=none
 bsz:X.base.objs.size<=X.s₀.heap.objs.size
 noex:∀b o,X.base.get? b=some o->b∉X.ex
 exfs:∀b∈X.ex,b∉X.fs
 funs:X.s₀.heap.FunFrames X.base X.outer
 frf:∀b∈X.fs,X.H₀ b=none
structure Inv(X:Cx)(aa:Γ)(σ:List (Option V))(H:Hp)(s:Shared):Prop where
 ok:X.Ok
 os:s.os=X.s₀.os
 bare:AllBare s.gens
 base:Un X.fs X.ex X.H₀ H X.s₀.heap s.heap
 loc:∃m,s.heap.Ns X.env.locals m/\∀(i:Nat)(x:Str)(v:V),X.N[i]?=some x->σ[i]?=some (some v)->Vis X.env.scope x->∃u,RelV v u/\Look X.env s.heap m x u
 cell:∀x c,X.env.cells.lookup x=some c->∃v,s.heap.IsCell c v
 free:H X.env.locals=none
 freeC:∀x c,X.env.cells.lookup x=some c->H c=none
 pin:∀p∈X.pn++aa,s.heap.get? p.1=some p.2/\H p.1=none/\p.1≠X.env.locals/\p.1∉X.fs/\∀v,p.2.data≠.cell v
 hok:HOk X.prog X.w H s.heap
 len:σ.length=X.N.length
section
variable{X:Cx}{aa:Γ}{σ:List (Option V)}{H H':Hp}{s:Shared}{h':Heap}
theorem Cx.Ok.nofr(ok:X.Ok){b:Addr}{o:Obj}(e:X.base.get? b=some o):b∉X.fs:=λhb=>by
 have:=(ok.funs.mem hb).1;rw[e]at this;cases this
theorem Inv.bs(I:Inv X aa σ H s):∀b o,X.base.get? b=some o->s.heap.get? b=some o/\H b=none:=λb o e =>
 ⟨I.base.keep b o (I.ok.bs b o e).1 (I.ok.bs b o e).2 (I.ok.nofr e) (I.ok.noex b o e),I.base.free b o (I.ok.bs b o e).1 (I.ok.bs b o e).2 (I.ok.noex b o e)⟩
theorem Inv.bk(I:Inv X aa σ H s):∀b o,X.base.get? b=some o->s.heap.get? b=some o:=λb o e=>(I.bs b o e).1
theorem Inv.mod(I:Inv X aa σ H s):Mod X.K X.mg X.base:=I.ok.mod
theorem Inv.kIn(I:Inv X aa σ H s):X.K.In s.heap:=I.ok.mod.kin.keeps I.bk
theorem Inv.fr(I:Inv X aa σ H s):∃m,Fr X.base X.env.locals s.heap m :=
 let⟨m,hn,_⟩:=I.loc
 ⟨m,hn,I.bk,aL I.ok.bsz I.ok.above⟩
theorem Inv.lt(I:Inv X aa σ H s):X.env.locals<s.heap.objs.size:=by obtain⟨_,hn,_⟩:=I.loc;exact hn.lt
theorem Inv.sz(I:Inv X aa σ H s):X.s₀.heap.objs.size<=s.heap.objs.size:=aL I.ok.above (Y2 I.lt)
theorem Inv.nofs(I:Inv X aa σ H s){a:Addr}(h:s.heap.objs.size<=a):a∉X.fs:=λhb=>by
 obtain⟨_,o,ho,_⟩:=I.ok.funs.mem hb;exact absurd (aR (aK ho) (aL I.sz h)) (X9 _)
theorem Inv.cne(I:Inv X aa σ H s):∀x c,X.env.cells.lookup x=some c->c≠X.env.locals:=λx c e z=>by
 obtain⟨v,o,ho,hd⟩:=I.cell x c e;obtain⟨m,⟨o',es,ep,de,bv,_⟩,_⟩:=I.loc;rw[z,de]at ho;cases ho;rw[bv]at hd;cases hd
theorem Inv.funs(I:Inv X aa σ H s):s.heap.FunFrames X.base X.outer:=by
 have all:∀(l:List Env),(∀b∈frs l,b∈X.fs)->X.s₀.heap.FunFrames X.base l->s.heap.FunFrames X.base l:=by
  intro l
  induction l with
  |nil=>intro _ _;trivial
  |cons env r ih =>
   intro hs hl;obtain⟨hk,⟨L,o,hf,hn,ho,hd⟩,hr⟩:=hl;have hL:L∈X.fs:=hs L (by unfold frs;rw[List.filterMap_cons,hf];exact aO);obtain⟨sl,e⟩:=I.base.slot L o ho (I.ok.frf L hL) hL λz=>I.ok.exfs L z hL;exact⟨hk,⟨L,_,hf,hn,e,hd⟩,ih (λb hb=>hs b (by unfold frs;rw[List.filterMap_cons,hf];exact aJ _ hb)) hr⟩
 exact all X.outer (λ_ hb=>hb) I.ok.funs
theorem Inv.stack(I:Inv X aa σ H s):s.heap.FunFrames X.base X.stack:=by
 rcases I.ok.stk with e|⟨e,hf⟩
 .rw[e];exact I.funs
 .rw[e];obtain⟨m,hn,_⟩:=I.loc;refine .cons (by rw[I.ok.kind];decide) hf hn ?_ I.funs;exact Heap.get?_none_of_le (aL I.ok.bsz I.ok.above)
theorem Inv.stkSub(I:Inv X aa σ H s):∀b∈frs X.stack,b∈X.env.locals::X.fs:=λb hb=>by
 rcases I.ok.stk with e|⟨e,hf⟩
 .rw[e]at hb;exact aJ _ hb
 .rw[e]at hb;unfold frs at hb;rw[List.filterMap_cons,hf]at hb;exact hb
theorem Inv.stkFree(I:Inv X aa σ H s):∀b∈frs X.stack,H b=none:=λb hb=>by
 rcases YU.mp (I.stkSub b hb)with e|hb
 .rw[e];exact I.free
 .obtain⟨_,o,ho,_⟩:=I.ok.funs.mem hb;exact I.base.free b o ho (I.ok.frf b hb) λz=>I.ok.exfs b z hb
theorem Inv.step{g':Array GenState}{t':Nat}{d':Drawn}{ch:Φ}(I:Inv X aa σ H s)
 (fq:∀b∈ch,(b∈X.ex\/X.s₀.heap.objs.size<=b)/\b≠X.env.locals/\(∀x c,X.env.cells.lookup x=some c->c≠b)/\∀p∈X.pn++aa,p.1≠b)
 (keep:∀b o,b≠X.env.locals->b∉X.fs->b∉ch->s.heap.get? b=some o->H b=none->h'.get? b=some o)
 (slot:∀b o,b≠X.env.locals->b∈X.fs->b∉ch->s.heap.get? b=some o->H b=none->∃sl,h'.get? b=some { o with slots:=sl })(free:∀b o,b∉ch->s.heap.get? b=some o->H b=none->H' b=none)
 (there:∀b o,b∉ch->s.heap.get? b=some o->∃o',h'.get? b=some o')
 (tups:∀b xs,H b=some (.tup xs)->H' b=some (.tup xs))(frzs:∀b o u,H b=some (.frz o u)->H' b=some (.frz o u))(tbls:∀b ps,H b=some (.tbl ps)->∃more,H' b=some (.tbl (ps++more)))
 (ns:∀m,s.heap.Ns X.env.locals m->h'.Ns X.env.locals m)(hok:HOk X.prog X.w H' h')(hg:AllBare g') :
  Inv X aa σ H' { s with heap:=h',gens:=g',drawn:=d',toks:=t' }:=by
 have neL:∀b o,X.s₀.heap.get? b=some o->b≠X.env.locals:=λb o e=>aQ (aR (aK e) I.ok.above);have ki:∀b o,X.s₀.heap.get? b=some o->b∉X.ex->b∉ch:=λb o e hx hb=>by
  rcases(fq b hb).1 with z|z
  .exact hx z
  .exact absurd (aR (aK e) z) (X9 _)
 have gx:∀x c,X.env.cells.lookup x=some c->∀v,s.heap.IsCell c v->h'.IsCell c v:=λx c e v hP=>by
  obtain⟨o,ho,hd⟩:=hP;have i4:c∉ch:=λz=>(fq c z).2.2.1 x c e rfl;by_cases hc:c∈X.fs
  .obtain⟨sl,q⟩:=slot c o (I.cne x c e) hc i4 ho (I.freeC x c e);exact⟨_,q,hd⟩
  .exact⟨o,keep c o (I.cne x c e) hc i4 ho (I.freeC x c e),hd⟩
 refine⟨I.ok,I.os,hg,⟨λb o e n hb hx=>?_,λb o e n hb hx=>?_,λb o e n hx=>?_,λb o e hx=>?_,λb xs e=>tups b xs (I.base.tups b xs e),λb o xs e=>frzs b o xs (I.base.frzs b o xs e),λb ps e=>?_⟩,?_,λx c e=>?_,?_,λx c e=>?_,λp hp=>?_,hok,I.len⟩
 .exact keep b o (neL b o e) hb (ki b o e hx) (I.base.keep b o e n hb hx) (I.base.free b o e n hx)
 .obtain⟨sl,e1⟩:=I.base.slot b o e n hb hx;obtain⟨iL,e2⟩:=slot b _ (neL b o e) hb (ki b o e hx) e1 (I.base.free b o e n hx);exact⟨iL,e2⟩
 .obtain⟨o',e1⟩:=I.base.there b o e hx;exact free b o' (ki b o e hx) e1 (I.base.free b o e n hx)
 .obtain⟨o',e1⟩:=I.base.there b o e hx;exact there b o' (ki b o e hx) e1
 .obtain⟨m1,e1⟩:=I.base.tbls b ps e;obtain⟨m2,e2⟩:=tbls b _ e1;exact⟨m1++m2,by rw[e2,Array.append_assoc]⟩
 .obtain⟨m,hn,hl⟩:=I.loc;refine⟨m,ns m hn,λi x v e1 e2 e3=>?_⟩;obtain⟨u,r,l⟩:=hl i x v e1 e2 e3;refine⟨u,r,?_⟩;rcases l with l|⟨k,c,e,z⟩
  .exact .inl l
  .exact .inr ⟨k,c,e,gx x c e _ z⟩
 .obtain⟨v,z⟩:=I.cell x c e;exact⟨v,gx x c e v z⟩
 .obtain⟨m,⟨o,_,_,ho,_⟩,_⟩:=I.loc;exact free _ o (λz=>(fq _ z).2.1 rfl) ho I.free
 .obtain⟨v,o,ho,hd⟩:=I.cell x c e;exact free c o (λz=>(fq c z).2.2.1 x c e rfl) ho (I.freeC x c e)
 .obtain⟨e,n,ne,nf,d⟩:=I.pin p hp;have i4:p.1∉ch:=λz=>(fq p.1 z).2.2.2 p hp rfl;exact⟨keep p.1 p.2 ne nf i4 e n,free p.1 p.2 i4 e n,ne,nf,d⟩
theorem Inv.un{t':Nat}(I:Inv X aa σ H s)(u:Un X.fs [] H H' s.heap h')(hok:HOk X.prog X.w H' h'):Inv X aa σ H' { s with heap:=h',toks:=t' }:=by
 obtain⟨m,⟨o,es,ep,ho,r⟩,_⟩:=id I.loc;obtain⟨sl,hL⟩:=u.any ho I.free (by simp);exact I.step (g':=s.gens) (d':=s.drawn) (ch:=[]) (λ_ z=>nomatch z) (λb o _ hb _ e n=>u.keep b o e n hb (by simp)) (λb o _ hb _ e n=>u.slot b o e n hb (by simp)) (λb o _ e n=>u.free b o e n (by simp)) (λb o _ e=>u.there b o e (by simp)) u.tups u.frzs u.tbls (λm' hm=>by
  obtain⟨o',n9,og,de,r'⟩:=hm;rw[ho]at de;cases de;exact⟨_,n9,og,hL,r'⟩) hok I.bare
theorem Inv.call{g':Array GenState}{t':Nat}{d':Drawn}{ch:Φ}(I:Inv X aa σ H s)(u:Un (frs X.stack) ch H H' s.heap h')(hok:HOk X.prog X.w H' h')(hg:AllBare g')
 (fq:∀b∈ch,(b∈X.ex\/X.s₀.heap.objs.size<=b)/\b≠X.env.locals/\(∀x c,X.env.cells.lookup x=some c->c≠b)/\∀p∈X.pn++aa,p.1≠b) :
  Inv X aa σ H' { s with heap:=h',gens:=g',drawn:=d',toks:=t' }:=by
 obtain⟨m,⟨o,es,ep,ho,r⟩,_⟩:=id I.loc;obtain⟨sl,hL⟩:=u.any ho I.free λz=>(fq _ z).2.1 rfl;exact I.step (ch:=ch) fq (λb o hL hb hc e n=>u.keep b o e n (λz=>(YU.mp (I.stkSub b z)).elim hL hb) hc) (λb o _ _ hc e n=>u.any e n hc) (λb o hc e n=>u.free b o e n hc) (λb o hc e=>u.there b o e hc) u.tups u.frzs u.tbls (λm' hm=>by
  obtain⟨o',n9,og,de,r'⟩:=hm;rw[ho]at de;cases de;exact⟨_,n9,og,hL,r'⟩) hok hg
theorem Inv.turned{t':Nat}{it:Addr}(I:Inv X aa σ H s)(k:∀b o,b≠it->s.heap.get? b=some o->h'.get? b=some o)(hn:H it=none)(hL:it≠X.env.locals)
 (h1:it∈X.ex\/X.s₀.heap.objs.size<=it)(h2:∀x c,X.env.cells.lookup x=some c->c≠it)(h3:∀p∈X.pn++aa,p.1≠it):Inv X aa σ H { s with heap:=h',toks:=t' }:=by
 have iX:∀b u,H b=some u->b≠it:=λb u e z=>by rw[z,hn]at e;cases e
 refine I.step (g':=s.gens) (d':=s.drawn) (ch:=[it]) (λb hb=>?_) (λb o _ _ hc e _=>k b o (λz=>hc (by simp[z])) e) (λb o _ _ hc e _=>⟨o.slots,k b o (λz=>hc (by simp[z])) e⟩) (λ_ _ _ _ n=>n)
  (λb o hc e=>⟨o,k b o (λz=>hc (by simp[z])) e⟩) (λ_ _ e=>e) (λ_ _ _ e=>e) (λb ps e=>⟨#[],by rw[e];simp⟩) (λm hm=>?_) (λb u e=>?_) I.bare
 .have e:b=it:=by simpa using hb
  subst e;exact⟨h1,hL,h2,h3⟩
 .obtain⟨o,es,ep,ho,r⟩:=hm;exact⟨o,es,ep,k _ o (Ne.symm hL) ho,r⟩
 .refine(I.hok b u e).stay (λc v hc q=>k c v ?_ q) (λ_ q=>q) λ_ _ q=>q;rcases hc with z|z
  .rw[z];exact iX b u e
  .exact iX c _ z
theorem Inv.tok(I:Inv X aa σ H s)(t:Nat):Inv X aa σ H { s with toks:=t }:=I.un (h':=s.heap) (t':=t) Un.refl I.hok
theorem Inv.kept{t':Nat}(I:Inv X aa σ H s)(k:∀b u,s.heap.get? b=some u->h'.get? b=some u):Inv X aa σ H { s with heap:=h',toks:=t' }:=I.un (Un.kept k) (I.hok.kept k)
theorem Inv.laid{a:Addr}{o:HO}{t':Nat}(I:Inv X aa σ H s)(k:∀b u,s.heap.get? b=some u->h'.get? b=some u)(hp:s.heap.objs.size<=a)(new:dM X.prog X.w (upd H a o) h' a o) :
  Inv X aa σ (upd H a o) { s with heap:=h',toks:=t' }:=I.un (Un.laid k hp (I.hok.fresh hp)) (I.hok.laid k hp new)
theorem Inv.write{x e:Addr}{o:HO}{t':Nat}(I:Inv X aa σ H s)(mu:Mut (H x))(he:e=x\/H e=some (.own x))(k:∀b u,b≠e->s.heap.get? b=some u->h'.get? b=some u)(iq:∃u,h'.get? e=some u)
 (new:dM X.prog X.w (upd H x o) h' x o):Inv X aa σ (upd H x o) { s with heap:=h',toks:=t' }:=I.un (Un.write mu he k iq) (I.hok.write mu he k iq new)
theorem Inv.pins_of{dm:Γ}(I:Inv X aa σ H s)(h:∀p∈dm,s.heap.get? p.1=some p.2/\H p.1=none/\p.1≠X.env.locals/\p.1∉X.fs/\∀v,p.2.data≠.cell v):Inv X dm σ H s :=
 ⟨I.ok,I.os,I.bare,I.base,I.loc,I.cell,I.free,I.freeC,λp hp=>(Y1.mp hp).elim (λz=>I.pin p (U1 _ z)) (h p),I.hok,I.len⟩
theorem Hv{N:Θ}(hN:N.Nodup){i j:Nat}{x:Str}(a:N[i]?=some x)(b:N[j]?=some x):i=j:=by
 obtain⟨h1,e1⟩:=ao.mp a;obtain⟨h2,e2⟩:=ao.mp b;exact(List.getElem_inj hN).mp (e1.trans e2.symm)
abbrev qi(X:Cx)(a:Str):Prop:=X.fn a=true\/X.env.scope.names.lookup a=some .local
theorem V1{M:Model}{A:Around}{E:Β}{i:Nat}{x:Str}{v:V}{u:Value}{Q:Unit->Shared->Prop}(I:Inv X aa σ H s)(hN:X.N.Nodup)(hi:X.N[i]?=some x)(hx:Loc X.env.scope x)(r:RelV v u)
 (h:∀s',Inv X aa (σ.set i (some v)) H s'->(∃a,Heap.SameBut a s.heap s'.heap/\(a=X.env.locals\/X.env.cells.lookup x=some a))->Q () s')(hf:qi X x):wpAny M A (storeName X.env x u) Q E s:=by
 obtain⟨m,hn,hl⟩:=id I.loc;have ff:(X.env.scope.kind == .class || (X.env.scope.kind == .module&&X.env.locals != X.env.globals))=false:=by rw[I.ok.kind];rfl
 have kx:i<σ.length:=by rw[I.len];exact(ao.mp hi).1
 have cne:=I.cne;have dv:∀{a:Addr}{h':Heap},(∃o,s.heap.get? a=some o/\H a=none)->Heap.SameBut a s.heap h'->HOk X.prog X.w H h':=λ{a h'}ha hs b ob e=>by
  obtain⟨_,_,ce⟩:=ha;refine(I.hok b ob e).stay (λc w' hc q=>(hs.2 c ?_).trans q) (λ_ q=>q) λ_ _ q=>q;rintro rfl;rcases hc with rfl|hc
  .rw[ce]at e;cases e
  .rw[ce]at hc;cases hc
 rcases hx with hk|hk
 .refine wpAny_storeName_local hk hn (λh' mm hs=>?_) ff;obtain⟨oL,_,_,hoL,_⟩:=id hn;refine h _ ⟨I.ok,I.os,I.bare,⟨λb o e n hb hx=>?_,λb o e n hb hx=>?_,I.base.free,λb o e hx=>?_,I.base.tups,I.base.frzs,I.base.tbls⟩,⟨_,mm,λj y v' e1 e2 e3=>?_⟩,λy c e=>?_,I.free,I.freeC,λp hp=>?_,dv ⟨oL,hoL,I.free⟩ hs,by simpa using I.len⟩ ⟨_,hs,.inl rfl⟩
  .exact(hs.2 b (aQ (aR (aK e) I.ok.above))).trans (I.base.keep b o e n hb hx)
  .obtain⟨sl,e1⟩:=I.base.slot b o e n hb hx;exact⟨sl,(hs.2 b (aQ (aR (aK e) I.ok.above))).trans e1⟩
  .obtain⟨o',e1⟩:=I.base.there b o e hx;exact⟨o',(hs.2 b (aQ (aR (aK e) I.ok.above))).trans e1⟩
  .by_cases hj:j=i
   .subst hj;rw[hi]at e1;cases e1;rw[UY kx]at e2;cases e2;exact⟨u,r,.inl ⟨hk,by simp⟩⟩
   .rw[VW (Ne.symm hj)]at e2;obtain⟨u',r',q⟩:=hl j y v' e1 e2 e3;refine⟨u',r',?_⟩;rcases q with⟨k,e⟩|⟨k,c,e,z⟩
    .refine .inl ⟨k,?_⟩;have:y≠x:=λe=>hj (Hv hN e1 (e ▸ hi));simp[this,e]
    .exact .inr ⟨k,c,e,z.sameBut hs (cne y c e)⟩
  .obtain⟨w',z⟩:=I.cell y c e;exact⟨w',z.sameBut hs (cne y c e)⟩
  .obtain⟨e,n,ne,nf,d⟩:=I.pin p hp;exact⟨(hs.2 p.1 ne).trans e,n,ne,nf,d⟩
 .have jI:X.fn x=true:=by
   rcases hf with z|z
   .exact z
   .rw[z]at hk;cases hk
  obtain⟨c,hc⟩:=I.ok.has x (.inl hk);obtain⟨w',z⟩:=I.cell x c hc;refine wpAny_storeName_cell I.ok.kind hk hc z (λh' dk hs=>?_);obtain⟨oc,hoc,mf⟩:=id z;refine h { s with heap:=h' } ⟨I.ok,I.os,I.bare,⟨λb o e n hb hx=>?_,λb o e n hb hx=>?_,I.base.free,λb o e hx=>?_,I.base.tups,I.base.frzs,I.base.tbls⟩,⟨m,hn.sameBut hs (Ne.symm (cne x c hc)),λj y v' e1 e2 e3=>?_⟩,λy c' e=>?_,I.free,I.freeC,λp hp=>?_,dv ⟨oc,hoc,I.freeC x c hc⟩ hs,by simpa using I.len⟩ ⟨c,hs,.inr hc⟩
  .exact(hs.2 b (aQ (aR (aK e) (I.ok.cab x c jI hc)))).trans (I.base.keep b o e n hb hx)
  .obtain⟨sl,e1⟩:=I.base.slot b o e n hb hx;exact⟨sl,(hs.2 b (aQ (aR (aK e) (I.ok.cab x c jI hc)))).trans e1⟩
  .obtain⟨o',e1⟩:=I.base.there b o e hx;exact⟨o',(hs.2 b (aQ (aR (aK e) (I.ok.cab x c jI hc)))).trans e1⟩
  .by_cases hj:j=i
   .subst hj;rw[hi]at e1;cases e1;rw[UY kx]at e2;cases e2;exact⟨u,r,.inr ⟨.inl hk,c,hc,dk⟩⟩
   .rw[VW (Ne.symm hj)]at e2;obtain⟨u',r',q⟩:=hl j y v' e1 e2 e3;refine⟨u',r',?_⟩;rcases q with q|⟨k,c',e,z'⟩
    .exact .inl q
    .refine .inr ⟨k,c',e,z'.sameBut hs ?_⟩;rintro rfl;exact hj (Hv hN e1 (I.ok.inj _ _ _ e hc ▸ hi))
  .by_cases kA:c'=c
   .subst kA;exact⟨_,dk⟩
   .obtain⟨w2,z2⟩:=I.cell y c' e;exact⟨w2,z2.sameBut hs kA⟩
  .obtain⟨e,n,ne,nf,d⟩:=I.pin p hp;refine⟨(hs.2 p.1 ?_).trans e,n,ne,nf,d⟩;intro q;rw[q,hoc]at e;have q':oc=p.2:=Option.some.inj e;exact d w' (by rw[<- q'];exact mf)
theorem rK{M:Model}{A:Around}{E:Β}{i:Nat}{x:Str}{v:V}{u:Value}{Q:Unit->Shared->Prop}(I:Inv X aa σ H s)(hN:X.N.Nodup)(hi:X.N[i]?=some x)(hx:Loc X.env.scope x)(r:RelV v u)
 (h:∀s',Inv X aa (σ.set i (some v)) H s'->Q () s')(hf:qi X x:=by first|exact .inl rfl|exact .inr rfl|assumption):wpAny M A (storeName X.env x u) Q E s :=
 V1 I hN hi hx r (λs' I' _=>h s' I') hf
theorem Inv.call'{s':Shared}{ch:Φ}(I:Inv X aa σ H s)(ho:s'.os=s.os)(u:Un (frs X.stack) ch H H' s.heap s'.heap)(hok:HOk X.prog X.w H' s'.heap)(hg:AllBare s'.gens)
 (fq:∀b∈ch,(b∈X.ex\/X.s₀.heap.objs.size<=b)/\b≠X.env.locals/\(∀x c,X.env.cells.lookup x=some c->c≠b)/\∀p∈X.pn++aa,p.1≠b):Inv X aa σ H' s':=by
 obtain⟨h',g',d',t',o'⟩:=s';have e:o'=s.os:=ho;subst e;exact I.call (g':=g') (t':=t') (d':=d') u hok hg fq
end
abbrev XK:=Value->Ω->Hp->Prop
noncomputable abbrev St:=List (Option V)
abbrev VK:=V->Hp->Prop
abbrev TE:=St->Hp->VK->Prop
abbrev TT:=St->Hp->(Bool->Hp->Prop)->Prop
abbrev TA:=St->Hp->(Ε->Hp->Prop)->Prop
structure Ends where
 nx:St->Hp->Prop
 rt:VK
 bk:St->Hp->Prop:=λ_ _=>False
 ct:St->Hp->Prop:=λ_ _=>False
abbrev TS:=Ends->St->Hp->Prop
def EP(X:Cx)(aa:Γ)(σ:St)(Q:VK)(u:Value)(s':Shared):Prop:=∃v H',Inv X aa σ H' s'/\RelV v u/\Q v H'
def TP(X:Cx)(aa:Γ)(σ:St)(Q:Bool->Hp->Prop)(b:Bool)(s':Shared):Prop:=∃H',Inv X aa σ H' s'/\Q b H'
def AP(X:Cx)(aa:Γ)(σ:St)(Q:Ε->Hp->Prop)(us:Δ)(s':Shared):Prop:=∃vs H',Inv X aa σ H' s'/\Vals vs us/\Q vs H'
def SP(X:Cx)(aa:Γ)(D:Ends)(f:Flow)(s':Shared):Prop :=
 match f with
 |.next=>∃σ' H',Inv X aa σ' H' s'/\D.nx σ' H'
 |.brk=>∃σ' H',Inv X aa σ' H' s'/\D.bk σ' H'
 |.cont=>∃σ' H',Inv X aa σ' H' s'/\D.ct σ' H'
 |.ret u=>∃v σ' H',Inv X aa σ' H' s'/\RelV v u/\D.rt v H'
def PE(X:Cx)(e:Expr)(t:TE):Prop :=
 ∀(aa:Γ)(s:Shared)(σ:St)(H:Hp)(Q:VK),Inv X aa σ H s->t σ H Q->wpAny (model X.prog X.w) X.A (eval e X.env) (EP X aa σ Q) X.xe s
def PT(X:Cx)(e:Expr)(t:TT):Prop :=
 ∀(aa:Γ)(s:Shared)(σ:St)(H:Hp)(Q:Bool->Hp->Prop),Inv X aa σ H s->t σ H Q->wpAny (model X.prog X.w) X.A (isTrue e X.env (eval e X.env)) (TP X aa σ Q) X.xe s
def PW(X:Cx)(e:Expr)(t:TT):Prop :=
 ∀(b7:Sem Value)(aa:Γ)(s:Shared)(σ:St)(H:Hp)(Q:Bool->Hp->Prop),Inv X aa σ H s->t σ H Q->wpAny (model X.prog X.w) X.A (isTrue e X.env b7) (TP X aa σ Q) X.xe s
theorem PW.pt{X:Cx}{e:Expr}{t:TT}(h:PW X e t):PT X e t:=h _
def PA(X:Cx)(es:List Expr)(t:TA):Prop :=
 ∀(pos:Pos)(aa:Γ)(s:Shared)(σ:St)(H:Hp)(Q:Ε->Hp->Prop),Inv X aa σ H s->t σ H Q->wpAny (model X.prog X.w) X.A (spliced (backTo pos (starEach es X.env))) (AP X aa σ Q) X.xe s
def PS(X:Cx)(st:Stmt)(t:TS):Prop :=
 ∀(aa:Γ)(s:Shared)(σ:St)(H:Hp)(D:Ends),Inv X aa σ H s->t D σ H->wpAny (model X.prog X.w) X.A (exec st X.env) (SP X aa D) X.xe s
def PSs(X:Cx)(st:List Stmt)(t:TS):Prop :=
 ∀(aa:Γ)(s:Shared)(σ:St)(H:Hp)(D:Ends),Inv X aa σ H s->t D σ H->wpAny (model X.prog X.w) X.A (execs st X.env) (SP X aa D) X.xe s
theorem thn{α:Type}{t:Sem α}{Q Q':α->Shared->Prop}{M:Model}{A:Around}{E:Β}{s:Shared}(h:wpAny M A t Q E s)(hQ:∀a s,Q a s->Q' a s):wpAny M A t Q' E s:=wpAny_mono h hQ λ_ _ x=>x
section
variable{X:Cx}
def akq(i:Nat):TE:=λσ H Q=>∃v,σ[i]?=some (some v)/\Q v H
def tC(v:V):TE:=λ_ H Q=>Q v H
abbrev qk(a:Str):Prop:=(a==("__debug__":Str))=false
abbrev qf(a:Str):Prop:=(a==("__classdict__":Str))=false
theorem adS{i:Nat}{x:Str}{pos:Pos}(hN:X.N[i]?=some x)(hv:Vis X.env.scope x)(hd:qk x:=by decide)(a9:qf x:=by decide):PE X (.Name x pos) (akq i):=by
 intro aa s σ H Q I h;obtain⟨v,e,h⟩:=h;obtain⟨m,hn,hl⟩:=I.loc;obtain⟨u,r,l⟩:=hl i x v hN e hv;have aE:EP X aa σ Q u s:=⟨v,H,I,r,h⟩;rcases l with⟨hk,hm⟩|⟨hk,c,hc,cy⟩
 .exact wpAny_Name (wpAny_loadName_local I.ok.kind hk hn hm aE) hd
 .rcases hk with hk|hk
  .exact wpAny_Name (wpAny_loadName_cell I.ok.kind hk hc cy aE) hd
  .exact wpAny_Name (wpAny_loadName_free I.ok.kind hk hc cy aE a9) hd
theorem Rr{i j pos} : PE X (.Constant (.int i) j pos) (tC (.int i)):=λ_ _ _ H _ I h=>wpAny_Constant_int ⟨.int i,H,I.tok _,⟨_,rfl⟩,h⟩
theorem acZ{b j pos} : PE X (.Constant (.bool b) j pos) (tC (.bl b)):=λ_ _ _ H _ I h=>Constant_bool ⟨.bl b,H,I,rfl,h⟩
theorem X5{j pos} : PE X (.Constant .none j pos) (tC .non):=λ_ _ _ H _ I h=>Constant_none ⟨.non,H,I,rfl,h⟩
theorem K8{x j pos} : PE X (.Constant (.str x) j pos) (tC (.str x)):=λ_ _ _ H _ I h=>Calls.Constant_str ⟨.str x,H,I.tok _,⟨_,rfl⟩,h⟩
def Gl(X:Cx)(x:Str):Prop:=X.env.kindOf x=some .globalImplicit
theorem qu{E:Β}{aa:Γ}{s:Shared}{σ:St}{H:Hp}{x:Str}{u:Value}{pos:Pos}{Q:Β}(I:Inv X aa σ H s)(hg:Gl X x)(hm:X.mg x=some u)(h:Q u s)
 (hd:qk x:=by decide):wpAny (model X.prog X.w) X.A (eval (.Name x pos) X.env) Q E s :=
 Calls.Name_function_global I.ok.kind hg (Calls.loadGlobal_global (by rw[I.ok.glob];exact I.mod.glob.keeps I.bk) hm h) hd
theorem yC{E:Β}{aa:Γ}{s:Shared}{σ:St}{H:Hp}{x:Str}{u:Value}{pos:Pos}{Q:Β}(I:Inv X aa σ H s)(hg:Gl X x)(hm:X.mg x=none)(hv:bootBuiltins x=some u)(h:Q u s)
 (hn:x≠"__name__":=by decide)(hd:qk x:=by decide):wpAny (model X.prog X.w) X.A (eval (.Name x pos) X.env) Q E s:=by
 obtain⟨mb,h1,h2⟩:=I.mod.blt;exact Calls.Name_function_global I.ok.kind hg (Calls.loadGlobal_builtin (by rw[I.ok.glob];exact I.mod.glob.keeps I.bk) hm (by rw[I.ok.blt];exact h1.keeps I.bk) ((h2 x hn).trans hv) h) hd
theorem Uz{x:Str}{v:V}{u:Value}{pos:Pos}(hg:Gl X x)(hm:X.mg x=some u)(r:RelV v u)(hd:qk x:=by decide):PE X (.Name x pos) (tC v) :=
 λ_ _ _ H _ I h=>qu I hg hm ⟨v,H,I,r,h⟩ hd
theorem aaU{x:Str}{v:V}{u:Value}{pos:Pos}(hg:Gl X x)(hm:X.mg x=none)(hv:bootBuiltins x=some u)(r:RelV v u)(hn:x≠"__name__":=by decide)(hd:qk x:=by decide):PE X (.Name x pos) (tC v) :=
 λ_ _ _ H _ I h=>yC I hg hm hv ⟨v,H,I,r,h⟩ hn hd
variable{a b:Expr}{ta tb:TE}{pos:Pos}
def PC(X:Cx)(op:CmpOp)(a b:Expr)(t:TE):Prop :=
 ∀(aa:Γ)(s:Shared)(σ:St)(H:Hp)(Q:VK),Inv X aa σ H s->t σ H Q ->
  wpAny (model X.prog X.w) X.A (eval a X.env) (λv s₁=>wpAny (model X.prog X.w) X.A (eval b X.env) (λu s₂=>wpAny (model X.prog X.w) X.A (compareOp op v u) (EP X aa σ Q) X.xe s₂) X.xe s₁) X.xe s
def tB(t:TE):TT:=λσ H Q=>t σ H λx H1=>∃c,x=.bl c/\Q c H1
theorem aac{op:CmpOp}{t:TE}(h:PC X op a b t)(h1:behindInMarks op b=false:=by rfl):PT X (.Compare a [op] [b] pos) (tB t):=by
 intro aa s σ H Q I hw;refine wpAny_isTrue_Compare1 (thn (h aa s σ H _ I hw) λv s1 h1=>thn h1 λu s2 h2=>thn h2 λc s3 hP=>?_) h1;obtain⟨x,H1,I1,r1,q1⟩:=hP;obtain⟨d,rfl,q⟩:=q1;cases r1;exact wpAny_truthy_bool ⟨H1,I1,q⟩
variable{tA ke:TT}{rest:List Expr}
def amB(t u:TT):TT:=λσ H Q=>t σ H λc H1=>if c=true then u σ H1 Q else Q false H1
def tOr(t u:TT):TT:=λσ H Q=>t σ H λc H1=>if c=true then Q true H1 else u σ H1 Q
def amO(t:TT):TT:=λσ H Q=>t σ H λc H1=>Q (!c) H1
theorem pw_and1(ha:PT X a tA):PW X (.BoolOp .And [a] pos) tA:=by
 intro wh aa s σ H Q I h;refine isTrue_and (thn (ha aa s σ H Q I h) λc s1 e=>?_);cases c with
 |true=>exact isTrue_and_nil e
 |false=>exact e
theorem pw_or1(ha:PT X a tA):PW X (.BoolOp .Or [a] pos) tA:=by
 intro wh aa s σ H Q I h;refine isTrue_or (thn (ha aa s σ H Q I h) λc s1 e=>?_);cases c with
 |false=>exact isTrue_or_nil e
 |true=>exact e
theorem pw_and(ha:PT X a tA)(hb:PW X (.BoolOp .And (b::rest) pos) ke):PW X (.BoolOp .And (a::b::rest) pos) (amB tA ke):=by
 intro wh aa s σ H Q I h;refine isTrue_and (thn (ha aa s σ H _ I h) λc s1 hP=>?_);obtain⟨H1,I1,q1⟩:=hP;cases c with
 |true=>exact hb wh aa s1 σ H1 Q I1 q1
 |false=>exact⟨H1,I1,q1⟩
theorem pw_or(ha:PT X a tA)(hb:PW X (.BoolOp .Or (b::rest) pos) ke):PW X (.BoolOp .Or (a::b::rest) pos) (tOr tA ke):=by
 intro wh aa s σ H Q I h;refine isTrue_or (thn (ha aa s σ H _ I h) λc s1 hP=>?_);obtain⟨H1,I1,q1⟩:=hP;cases c with
 |true=>exact⟨H1,I1,q1⟩
 |false=>exact hb wh aa s1 σ H1 Q I1 q1
theorem Z_(ha:PT X a tA):PT X (.UnaryOp .Not a pos) (amO tA):=by
 intro aa s σ H Q I h;exact isTrue_not (ha aa s σ H (λc H1=>Q (!c) H1) I h)
def af3(ta tb:TE):TE:=λσ H Q=>ta σ H λx H1=>∃c,x=.bl c/\if c=true then tb σ H1 Q else Q (.bl false) H1
def ahI(ta:TE):TE:=λσ H Q=>ta σ H λx H1=>∃c,x=.bl c/\Q (.bl (!c)) H1
theorem afj{op}{t:TE}(h:PE X a t):PE X (.BoolOp op [a] pos) t:=λaa s σ H Q I hw=>BoolOp_one (h aa s σ H Q I hw)
theorem adB(ha:PE X a ta)(hb:PE X (.BoolOp .And (b::rest) pos) tb):PE X (.BoolOp .And (a::b::rest) pos) (af3 ta tb):=by
 intro aa s σ H Q I h;refine BoolOp_and (thn (ha aa s σ H _ I h) λv s1 hP=>?_);obtain⟨x,H1,I1,r1,q1⟩:=hP;obtain⟨c,rfl,q1⟩:=q1;cases r1;refine wpAny_truthy_bool ?_;cases c with
 |true=>exact hb aa s1 σ H1 Q I1 q1
 |false=>exact⟨.bl false,H1,I1,rfl,q1⟩
theorem afP(ha:PE X a ta):PE X (.UnaryOp .Not a pos) (ahI ta):=by
 intro aa s σ H Q I h;refine UnaryOp_ (thn (ha aa s σ H _ I h) λv s1 hP=>?_);obtain⟨x,H1,I1,r1,q1⟩:=hP;obtain⟨c,rfl,q1⟩:=q1;cases r1;exact not_of (wpAny_truthy_bool ⟨.bl (!c),H1,I1,rfl,q1⟩)
def tIf(t:TT)(ta tb:TE):TE:=λσ H Q=>t σ H λc H1=>if c=true then ta σ H1 Q else tb σ H1 Q
theorem Xj{c:Expr}(hc:PT X c tA)(ha:PE X a ta)(hb:PE X b tb):PE X (.IfExp c a b pos) (tIf tA ta tb):=by
 intro aa s σ H Q I h;refine wpAny_IfExp (thn (hc aa s σ H _ I h) λd s1 hP=>?_);obtain⟨H1,I1,q1⟩:=hP;cases d with
 |true=>exact ha aa s1 σ H1 Q I1 q1
 |false=>exact hb aa s1 σ H1 Q I1 q1
end
def SqL(K:Frag)(H:Hp)(a:Addr)(xs:Ε):Prop :=
 Rd H a (.lst xs) \/
  ∃(o:Obj)(its:Array Value)(n:Nat),K.lookup a=some o/\o.cls=.type "list"/\o.dict=none/\o.data=.seq its n/\its.size<=sizeLine/\Vals xs its.toList
def SqT(K:Frag)(H:Hp)(a:Addr)(xs:Ε):Prop :=
 Rd H a (.tup xs) \/
  ∃(o:Obj)(its:Array Value)(n:Nat),K.lookup a=some o/\o.cls=.type "tuple"/\o.data=.seq its n/\its.size<=sizeLine/\Vals xs its.toList
noncomputable def amK:Value->Option V
 |.none=>some .non
 |.bool b=>some (.bl b)
 |.int i _=>some (.int i)
 |.str x _=>some (.str x)
 |.bytes b _=>some (.byt b)
 |.float b _=>some (.flt b)
 |.ref a=>some (.ref a)
 |.type n=>some (.ty n)
 |_=>none
theorem RelV.abs{x:V}{u:Value}(r:RelV x u):amK u=some x:=by
 cases x with
 |non=>cases r;rfl
 |bl _=>cases r;rfl
 |int _=>obtain⟨t,rfl⟩:=r;rfl
 |str _=>obtain⟨t,rfl⟩:=r;rfl
 |byt _=>obtain⟨t,rfl⟩:=r;rfl
 |flt _=>obtain⟨t,rfl⟩:=r;rfl
 |ref _=>cases r;rfl
 |ty _=>cases r;rfl
theorem RelV.inj{x y:V}{u:Value}(r:RelV x u)(q:RelV y u):x=y:=Option.some.inj (r.abs.symm.trans q.abs)
theorem Vals.inj:∀{xs ys:Ε}{us:Δ},Vals xs us->Vals ys us->xs=ys
 |_,_,_,.nil,.nil=>rfl
 |_,_,_,.cons r t,.cons r' t'=>by rw[r.inj r',Vals.inj t t']
section
variable{X:Cx}{aa:Γ}{σ:St}{H:Hp}{s:Shared}{a:Addr}{xs ys:Ε}
theorem SqL.of{K:Frag}(h:H a=some (.lst xs)):SqL K H a xs:=.inl (.inl h)
theorem SqT.of{K:Frag}(h:H a=some (.tup xs)):SqT K H a xs:=.inl (.inl h)
theorem Inv.list(I:Inv X aa σ H s)(h:SqL X.K H a xs):∃its:Δ,Vals xs its/\PlainL s.heap a its.toArray/\xs.length<=sizeLine:=by
 rcases h with h|⟨o,its,n,hk,hc,hd,hs,hz,r⟩
 .obtain⟨z,its,n,r,e⟩:=h.ok I.hok;exact⟨its,r,⟨_,n,e,rfl,rfl,rfl⟩,z⟩
 .refine⟨its.toList,r,⟨o,n,I.kIn a o hk,hc,hd,by simpa using hs⟩,?_⟩;have e:=r.length;simp only[Array.length_toList]at e;exact aL (WH e) hz
theorem Inv.tuple(I:Inv X aa σ H s)(h:SqT X.K H a xs):∃its:Δ,Vals xs its/\IsTup s.heap a its.toArray/\xs.length<=sizeLine:=by
 rcases h with h|⟨o,its,n,hk,hc,hs,hz,r⟩
 .obtain⟨z,its,r,p⟩:=h.ok I.hok;exact⟨its,r,p,z⟩
 .refine⟨its.toList,r,⟨o,I.kIn a o hk,hc,n,by simpa using hs⟩,?_⟩;have e:=r.length;simp only[Array.length_toList]at e;exact aL (WH e) hz
theorem Inv.list_inj(I:Inv X aa σ H s)(h:SqL X.K H a xs)(h':SqL X.K H a ys):xs=ys:=by
 obtain⟨its,r,⟨o,n,e,_,_,d⟩,_⟩:=I.list h;obtain⟨its',r',⟨o',n',e',_,_,d'⟩,_⟩:=I.list h';rw[e]at e';cases e';rw[d]at d';injection d' with d1 _;have:its=its':=by simpa using ZH Array.toList d1
 subst this;exact r.inj r'
theorem Inv.tuple_inj(I:Inv X aa σ H s)(h:SqT X.K H a xs)(h':SqT X.K H a ys):xs=ys:=by
 obtain⟨its,r,⟨o,e,_,n,d⟩,_⟩:=I.tuple h;obtain⟨its',r',⟨o',e',_,n',d'⟩,_⟩:=I.tuple h';rw[e]at e';cases e';rw[d]at d';injection d' with d1 _;have:its=its':=by simpa using ZH Array.toList d1
 subst this;exact r.inj r'
end
noncomputable abbrev Cx.wish(X:Cx)(E:Β):Cx:={ X with xe:=E }
noncomputable abbrev Cx.nox(X:Cx):Cx:=X.wish λ_ _=>False
theorem Cx.Ok.wish{X:Cx}(ok:X.Ok)(E:Β):(X.wish E).Ok :=
 ⟨ok.mod,ok.kind,ok.glob,ok.blt,ok.above,ok.inj,ok.has,ok.cab,ok.hd,ok.frames,ok.stk,ok.exf,ok.bs,ok.bsz,ok.noex,ok.exfs,ok.funs,ok.frf⟩
theorem Cx.Ok.unwish{X:Cx}{E:Β}(ok:(X.wish E).Ok):X.Ok :=
 ⟨ok.mod,ok.kind,ok.glob,ok.blt,ok.above,ok.inj,ok.has,ok.cab,ok.hd,ok.frames,ok.stk,ok.exf,ok.bs,ok.bsz,ok.noex,ok.exfs,ok.funs,ok.frf⟩
section
variable{X:Cx}{aa:Γ}{σ:St}{H:Hp}{s:Shared}{E:Β}
theorem Inv.wish(I:Inv X aa σ H s)(E:Β):Inv (X.wish E) aa σ H s:=⟨I.ok.wish E,I.os,I.bare,I.base,I.loc,I.cell,I.free,I.freeC,I.pin,I.hok,I.len⟩
theorem Inv.unwish(I:Inv (X.wish E) aa σ H s):Inv X aa σ H s:=⟨I.ok.unwish,I.os,I.bare,I.base,I.loc,I.cell,I.free,I.freeC,I.pin,I.hok,I.len⟩
theorem SP.unwish{D:Ends}{f:Flow}{s':Shared}(h:SP (X.wish E) aa D f s'):SP X aa D f s':=by
 cases f with
 |next=>obtain⟨σ',H',I,q⟩:=h;exact⟨σ',H',I.unwish,q⟩
 |brk=>obtain⟨σ',H',I,q⟩:=h;exact⟨σ',H',I.unwish,q⟩
 |cont=>obtain⟨σ',H',I,q⟩:=h;exact⟨σ',H',I.unwish,q⟩
 |ret u=>obtain⟨v,σ',H',I,r,q⟩:=h;exact⟨v,σ',H',I.unwish,r,q⟩
theorem PSs.nox{st:List Stmt}{t:TS}(h:PSs X.nox st t):PSs X st t:=λaa s σ H D I hw =>
 wpAny_mono (h aa s σ H D (I.wish _) hw) (λ_ _ q=>q.unwish) λ_ _ z=>False.elim z
end
section
variable{X:Cx}{st:Stmt}{rest:List Stmt}{t u:TS}{e:Expr}{te:TE}{pos:Pos}
def af2:TS:=λD σ H=>D.nx σ H
def WW(t u:TS):TS:=λD σ H=>t { D with nx:=u D } σ H
theorem Vb:PSs X [] af2:=λ_ _ σ H _ I h=>wpAny_execs_nil ⟨σ,H,I,h⟩
theorem uL(h1:PS X st t)(h2:PSs X rest u):PSs X (st::rest) (WW t u):=by
 intro aa s σ H D I h;refine wpAny_execs_cons (thn (h1 aa s σ H { D with nx:=u D } I h) λf s1 q=>?_);cases f with
 |next =>
  obtain⟨σ',H',I',q⟩:=q;exact h2 aa s1 σ' H' D I' q
 |ret v=>exact q
 |brk=>exact q
 |cont=>exact q
theorem rY(h1:PS X st t):PSs X [st] t:=by
 intro aa s σ H D I h;refine wpAny_execs_cons (thn (h1 aa s σ H D I h) λf s1 q=>?_);cases f with
 |next=>exact wpAny_execs_nil q
 |ret v=>exact q
 |brk=>exact q
 |cont=>exact q
theorem Inv.quiet{aa:Γ}{σ:St}{H:Hp}{s:Shared}(I:Inv X aa σ H s):interactive X.env=false:=by simp[interactive,I.ok.kind]
def ahH(te:TE):TS:=λD σ H=>te σ H λ_ H1=>D.nx σ H1
theorem jV(he:PE X e te)(hs:swapsWith e none pos.line X.env=pure false:=by rfl):PS X (.Expr e pos) (ahH te):=by
 intro aa s σ H D I h;exact wpAny_Expr_any (thn (he aa s σ H _ I h) λv s1 hP=>by obtain⟨x,H1,I1,r1,q1⟩:=hP;exact⟨σ,H1,I1,q1⟩) I.quiet hs
def aky(te:TE):TS:=λD σ H=>te σ H D.rt
theorem Cz(he:PE X e te):PS X (.Return (some e) pos) (aky te):=by
 intro aa s σ H D I h;exact wpAny_Return_some (thn (he aa s σ H _ I h) λv s1 hP=>by obtain⟨x,H1,I1,r1,q1⟩:=hP;exact⟨x,σ,H1,I1,r1,q1⟩)
def ala(c:TT)(t u:TS):TS:=λD σ H=>c σ H λb H1=>if b=true then t D σ H1 else u D σ H1
theorem adh{c:Expr}{a b:List Stmt}{tc:TT}(hc:PT X c tc)(ha:PSs X a t)(hb:PSs X b u):PS X (.If c a b pos) (ala tc t u):=by
 intro aa s σ H D I h;refine wpAny_If (thn (hc aa s σ H _ I h) λd s1 hP=>?_);obtain⟨H1,I1,q1⟩:=hP;cases d with
 |true=>exact ha aa s1 σ H1 D I1 q1
 |false=>exact hb aa s1 σ H1 D I1 q1
def afe:TS:=λ_ _ _=>False
theorem aad:PS X st afe:=λ_ _ _ _ _ _ h=>h.elim
end
abbrev TG:=V->St->Hp->(St->Hp->Prop)->Prop
abbrev TGs:=Ε->St->Hp->(St->Hp->Prop)->Prop
def PG(X:Cx)(gE:Expr)(t:TG):Prop :=
 ∀(aa:Γ)(s:Shared)(σ:St)(H:Hp)(v:V)(u:Value)(Q:St->Hp->Prop),Inv X aa σ H s->RelV v u->t v σ H Q ->
  wpAny (model X.prog X.w) X.A (assign gE X.env u) (λ_ s'=>∃σ' H',Inv X aa σ' H' s'/\Q σ' H') X.xe s
def PGs(X:Cx)(ts:List Expr)(t:TGs):Prop :=
 ∀(aa:Γ)(s:Shared)(σ:St)(H:Hp)(vs:Ε)(us:Δ)(Q:St->Hp->Prop),Inv X aa σ H s->Vals vs us->t vs σ H Q ->
  wpAny (model X.prog X.w) X.A (assignInOrder ((assignEach ts X.env).map (·.2)) us) (λ_ s'=>∃σ' H',Inv X aa σ' H' s'/\Q σ' H') X.xe s
abbrev afT:=V->V->V->Hp->(Hp->Prop)->Prop
def agq(X:Cx)(t:afT):Prop :=
 ∀(aa:Γ)(s:Shared)(σ:St)(H:Hp)(o i v:V)(ov iv u:Value)(Q:Hp->Prop),Inv X aa σ H s->RelV o ov->RelV i iv->RelV v u->t o i v H Q ->
  wpAny (model X.prog X.w) X.A (setItem ov iv u) (λ_ s'=>∃H',Inv X aa σ H' s'/\Q H') X.xe s
abbrev TIp:=V->V->Hp->VK->Prop
def PIp(X:Cx)(op:Operator)(t:TIp):Prop :=
 ∀(aa:Γ)(s:Shared)(σ:St)(H:Hp)(x y:V)(v u:Value)(Q:VK),Inv X aa σ H s->RelV x v->RelV y u->t x y H Q ->
  wpAny (model X.prog X.w) X.A (inplaceOp op v u) (EP X aa σ Q) X.xe s
section
variable{X:Cx}{pos:Pos}
def xW(i:Nat):TG:=λv σ H Q=>Q (σ.set i (some v)) H
theorem iJ{i:Nat}{x:Str}(hN:X.N.Nodup)(hi:X.N[i]?=some x)(hx:Loc X.env.scope x)(hf:qi X x:=by first|exact .inl rfl|exact .inr rfl|assumption):PG X (.Name x pos) (xW i):=by
 intro aa s σ H v u Q I r h;exact wpAny_assign_Name (rK I hN hi hx r (λs' I'=>⟨_,H,I',h⟩) hf)
def amP:TGs:=λvs σ H Q=>vs=[]/\Q σ H
def aiI(t:TG)(u:TGs):TGs:=λvs σ H Q=>∃v r,vs=v::r/\t v σ H λσ' H'=>u r σ' H' Q
theorem Uh:PGs X [] amP:=by
 intro aa s σ H vs us Q I r h;obtain⟨e,h⟩:=h;subst e;cases r;exact assignInOrder_nil ⟨σ,H,I,h⟩
theorem Gp{e:Expr}{es:List Expr}{t:TG}{u:TGs}(h1:PG X e t)(h2:PGs X es u)
 (hs:(assignEach (e::es) X.env).map (·.2)=assign e X.env::(assignEach es X.env).map (·.2):=by rfl):PGs X (e::es) (aiI t u):=by
 intro aa s σ H vs us Q I r h;obtain⟨v,vr,e1,h⟩:=h;subst e1;cases r with
 |cons r rr =>
  rw[hs];refine assignInOrder_cons (thn (h1 aa s σ H _ _ _ I r h) λ_ s1 hP=>?_);obtain⟨σ1,H1,I1,q1⟩:=hP;exact h2 aa s1 σ1 H1 _ _ Q I1 rr q1
def alX(K:Frag)(n:Nat)(t:TGs):TG:=λv σ H Q=>∃a xs,v=.ref a/\SqT K H a xs/\xs.length=n/\t xs σ H Q
abbrev zb(X:Cx)(a:List Expr):Prop:=(assignEach a X.env).findIdx? (·.1)=none
theorem Yn{es:List Expr}{k:Nat}{t:TGs}{n:Nat}(hc:X.calm=true)(h:PGs X es t)
 (hn:(assignEach es X.env).length=n:=by rfl)(bE:zb X es:=by rfl):PG X (.Tuple es k pos) (alX X.K n t):=by
 intro aa s σ H v u Q I r hw;obtain⟨a,xs,e1,hq,hl,hw⟩:=hw;subst e1;cases r;obtain⟨its,rv,ht,hz⟩:=I.tuple hq;refine assign_Tuple_tuple (I.ok.hd hc) ht (by simp[hn,<- hl,rv.length]) bE λh' hx=>?_;have I1:Inv X aa σ H { s with heap:=h' }:=I.kept (t':=s.toks) λb o e=>hx b o (aQ (aK e)) e;exact h aa _ σ H xs _ Q I1 (by simpa using rv) hw
def aln(to ti:TE)(t:afT):TG:=λv σ H Q=>to σ H λo H1=>ti σ H1 λi H2=>t o i v H2 λH3=>Q σ H3
theorem Xg{o i:Expr}{to ti:TE}{t:afT}(ho:PE X o to)(hi:PE X i ti)(hs:agq X t)
 (ha:∀v,assign (.Subscript o i pos) X.env v=(do
   let ov <- holding [v] (eval o X.env)
   let iv <- holding [v,ov] (eval i X.env)
   standAt pos
   holding [v,ov,iv] (setItem ov iv v)
   release [v,ov,iv] []):=by intro _;rfl):PG X (.Subscript o i pos) (aln to ti t):=by
 intro aa s σ H v u Q I r h;rw[ha];refine ZU (wpAny_holding (thn (ho aa s σ H _ I h) λov s1 hP=>?_));obtain⟨x,H1,I1,r1,q1⟩:=hP;refine ZU (wpAny_holding (thn (hi aa s1 σ H1 _ I1 q1) λiv s2 hP=>?_));obtain⟨y,H2,I2,r2,q2⟩:=hP;refine ZU (wpAny_standAt (ZU (wpAny_holding (thn (hs aa s2 σ H2 x y v ov iv u _ I2 r1 r2 r q2) λ_ s3 hP=>?_))));obtain⟨H3,I3,q3⟩:=hP;exact wpAny_release ⟨σ,H3,I3,q3⟩
def abM(te:TE)(g:TG):TS:=λD σ H=>te σ H λx H1=>g x σ H1 D.nx
theorem Tt{tg e:Expr}{te:TE}{g:TG}(he:PE X e te)(hg:PG X tg g)(hs:swapsWithSole [tg] e pos.line X.env=pure false:=by rfl)(hw:swappedStores [tg] e X.env=pure none:=by rfl)
 (h1:(assignEach [tg] X.env).map (·.2)=[assign tg X.env]:=by rfl):PS X (.Assign [tg] e pos) (abM te g):=by
 intro aa s σ H D I h;refine wpAny_Assign_stores (thn (he aa s σ H _ I h) λv s1 hP=>?_) hs hw;obtain⟨x,H1,I1,r1,q1⟩:=hP;rw[h1];exact thn (hg aa s1 σ H1 x v _ I1 r1 q1) λ_ s2 q=>q
theorem Xu{i:Nat}{x:Str}{e:Expr}{te:TE}{aI:Pos}(hN:X.N.Nodup)(hi:X.N[i]?=some x)(hx:Loc X.env.scope x)(he:PE X e te)(hs:swapsWith e (some (.Name x aI)) pos.line X.env=pure false:=by rfl)(hf:qi X x:=by first|exact .inl rfl|exact .inr rfl|assumption) :
  PS X (.Assign [.Name x aI] e pos) (abM te (xW i)):=by
 intro aa s σ H D I h;refine wpAny_Assign_Name (thn (he aa s σ H _ I h) λv s1 hP=>?_) hs;obtain⟨y,H1,I1,r1,q1⟩:=hP;exact rK I1 hN hi hx r1 (λs2 I2=>⟨_,H1,I2,q1⟩) hf
def alb(i j:Nat)(ta:TA):TS:=λD σ H=>ta σ H λvs H1=>∃v w,vs=[v,w]/\D.nx ((σ.set i (some v)).set j (some w)) H1
theorem afv{i j:Nat}{x y:Str}{a b:Expr}{ta:TA}{px py pt:Pos}{kt k2 pt2}(hc:X.calm=true)(hN:X.N.Nodup)(hi:X.N[i]?=some x)(hj:X.N[j]?=some y)(io:i≠j)
 (hx:X.env.scope.names.lookup x=some .local)(hy:X.env.scope.names.lookup y=some .local)(ha:PA X [a,b] ta)
 (hw:swappedStores [.Tuple [.Name x px,.Name y py] kt pt] (.Tuple [a,b] k2 pt2) X.env=pure (some [x,y]))
 (hs:swapsWithSole [.Tuple [.Name x px,.Name y py] kt pt] (.Tuple [a,b] k2 pt2) pos.line X.env=pure false:=by rfl) :
  PS X (.Assign [.Tuple [.Name x px,.Name y py] kt pt] (.Tuple [a,b] k2 pt2) pos) (alb i j ta):=by
 intro aa s σ H D I h;rw[exec_Assign_arm];refine ZU (wpAny_standAt ?_);rw[hs];refine ZU (ZT ?_);rw[ZZ (by decide)];refine ZU (Tuple_ (thn (ha _ aa s σ H _ I h) λus s1 hP=>?_));obtain⟨vs,H1,I1,r1,q1⟩:=hP;obtain⟨v,w,e1,q1⟩:=q1;subst e1;obtain⟨u1,u2,rfl,rv,eR⟩ : ∃u1 u2,us=[u1,u2]/\RelV v u1/\RelV w u2:=by
  cases r1 with
  |cons p q =>
   cases q with
   |cons p' q' =>
    cases q';exact⟨_,_,rfl,p,p'⟩
 refine wpAny_newObj_type ?_ (by show 2<=sizeLine;decide);have I2:Inv X aa σ H1 { s1 with heap:=s1.heap.push { cls:=.type "tuple",data:=.seq [u1,u2].toArray } }:=I1.kept (t':=s1.toks) λb o e=>aH _ e;rw[hw];refine ZU (ZT ?_);show wpAny (model X.prog X.w) X.A (do rule "assign.swapped-stores"; let items <- unpackItems (.ref s1.heap.objs.size) 2 none;assignInOrder [λv=>bindName X.env y v,λv=>bindName X.env x v] items.reverse;pure Flow.next) _ _ _;refine ZU (wpAny_rule (ZU (unpackItems_tuple (items:=#[u1,u2]) (I.ok.hd hc) (IsTup.new s1.heap _) λh' lv=>?_)));have I3:=I2.kept (h':=h') (t':=s1.toks) λb o e=>lv b o (aQ (aK e)) e;show wpAny _ _ (assignInOrder [λv=>bindName X.env y v,λv=>bindName X.env x v] [u2,u1] >>= λ_=>pure Flow.next) _ _ _;refine ZU (assignInOrder_cons (wpAny_bindName (rK I3 hN hj (.inl hy) eR (λs2 I4=>?_) (.inr hy))));refine assignInOrder_cons (wpAny_bindName (rK I4 hN hi (.inl hx) rv (λs3 I5=>assignInOrder_nil (ZT ?_)) (.inr hx)));rw[List.set_comm _ _ (Ne.symm io)]at I5;exact⟨_,H1,I5,q1⟩
def amW(i:Nat)(te:TE)(ti:TIp):TS:=λD σ H=>∃x,σ[i]?=some (some x)/\te σ H λy H1=>ti x y H1 λz H2=>D.nx (σ.set i (some z)) H2
theorem aej{i:Nat}{x:Str}{e:Expr}{te:TE}{op:Operator}{ti:TIp}{aI:Pos}(hN:X.N.Nodup)(hi:X.N[i]?=some x)(hx:Loc X.env.scope x)(he:PE X e te)(ho:PIp X op ti)(hf:qi X x:=by first|exact .inl rfl|exact .inr rfl|assumption) :
  PS X (.AugAssign (.Name x aI) op e pos) (amW i te ti):=by
 intro aa s σ H D I h;obtain⟨v,e1,h⟩:=h;obtain⟨m,hn,hl⟩:=I.loc;have vis:Vis X.env.scope x:=by rcases hx with k|k;exact .inl k;exact .inr (.inl k)
 obtain⟨u,r,l⟩:=hl i x v hi e1 vis;refine wpAny_AugAssign_Name ?_;have go:wpAny (model X.prog X.w) X.A (eval e X.env) (λw s₂=>wpAny (model X.prog X.w) X.A (inplaceOp op u w) (λr s₃=>wpAny (model X.prog X.w) X.A (storeName X.env x r) (λ_=>SP X aa D .next) X.xe s₃) X.xe s₂) X.xe s:=by
  refine thn (he aa s σ H _ I h) λw s1 hP=>?_;obtain⟨y,H1,I1,r1,q1⟩:=hP;refine thn (ho aa s1 σ H1 v y u w _ I1 r r1 q1) λz s2 hP=>?_;obtain⟨zv,H2,I2,r2,q2⟩:=hP;exact rK I2 hN hi hx r2 (λs3 I3=>⟨_,H2,I3,q2⟩) hf
 rcases l with⟨hk,hm⟩|⟨hk,c,hc,cy⟩
 .exact wpAny_loadName_local I.ok.kind hk hn hm go
 .rcases hk with hk|hk
  .exact wpAny_loadName_cell I.ok.kind hk hc cy go
  .rcases hx with k|k
   .have:X.env.scope.names.lookup x=some .free:=hk;rw[k]at this;cases this
   .have:X.env.scope.names.lookup x=some .free:=hk;rw[k]at this;cases this
def ipI(f:Int->Int->Int):TIp:=λx y H Q=>∃i j,x=.int i/\y=.int j/\Q (.int (f i j)) H
theorem aeL:PIp X .Add (ipI λi j=>i+j):=by
 intro aa s σ H x y v u Q I r1 r2 h;obtain⟨i,j,e1,e2,q⟩:=h;subst e1;subst e2;obtain⟨t,rfl⟩:=r1;obtain⟨t',rfl⟩:=r2;exact iadd_int ⟨.int _,H,I.tok _,⟨_,rfl⟩,q⟩
end
section
variable{X:Cx}{pos:Pos}
def aeX(c:TT)(tb:TS):TS:=λD σ H=>∃W:Nat->St->Hp->Prop,(∃m,W m σ H)/\∀m σ H,W m σ H ->
 c σ H λb H1=>if b=true then ∃N:St->Hp->Prop,(∀σ' H',N σ' H'->∃m',m'<m/\W m' σ' H')/\tb { D with nx:=N,ct:=N,bk:=D.nx } σ H1 else D.nx σ H1
theorem Xc{c:Expr}{bz:List Stmt}{tc:TT}{tb:TS}(hp:PassesOwn (model X.prog X.w) X.A X.env X.xe)(hc:PT X c tc)(hb:PSs X bz tb):PS X (.While c bz [] pos) (aeX tc tb):=by
 intro aa s σ H D I h;obtain⟨W,⟨m0,w0⟩,eQ⟩:=h;refine wpAny_While (codeAny_whileLoop (λn s'=>∃σ' H',Inv X aa σ' H' s'/\W n σ' H') ?_ m0 ⟨σ,H,I,w0⟩);rintro n s1 ⟨σ1,H1,I1,w1⟩;refine wpAny_passesOwn hp (thn (hc aa s1 σ1 H1 _ I1 (eQ n σ1 H1 w1)) λb s2 hP=>?_);obtain⟨H2,I2,q2⟩:=hP;cases b with
 |true =>
  obtain⟨N,hN,q2⟩:=q2;rw[ZY rfl];refine wpAny_passesOwn hp (thn (hb aa s2 σ1 H2 _ I2 q2) λf s3 q3=>?_);cases f with
  |next =>
   obtain⟨σ3,H3,I3,n3⟩:=q3;obtain⟨m',hm,w3⟩:=hN σ3 H3 n3;exact⟨m',hm,σ3,H3,I3,w3⟩
  |cont =>
   obtain⟨σ3,H3,I3,n3⟩:=q3;obtain⟨m',hm,w3⟩:=hN σ3 H3 n3;exact⟨m',hm,σ3,H3,I3,w3⟩
  |brk=>exact q3
  |ret v=>exact q3
 |false =>
  rw[ZZ bh];exact wpAny_execs_nil ⟨σ1,H2,I2,q2⟩
end
structure It where
 go:Nat->Hp->Prop
 yld:Nat->Hp->V->Hp->Prop
 stop:Nat->Hp->Prop
def Di(X:Cx)(aa:Γ)(H:Hp)(b:Addr):Prop :=
 H b=none/\b≠X.env.locals/\b∉X.fs/\(b∈X.ex\/X.s₀.heap.objs.size<=b)/\(∀x c,X.env.cells.lookup x=some c->c≠b)/\∀p∈X.pn++aa,p.1≠b
theorem Inv.fpOk{X:Cx}{aa:Γ}{σ:St}{H H':Hp}{s:Shared}{b:Addr}(I:Inv X aa σ H s)(hb:s.heap.objs.size<=b)(hn:H' b=none):Di X aa H' b:=by
 refine⟨hn,VQ (aR I.lt hb),I.nofs hb,.inr (aL I.sz hb),λx c e z=>?_,λp hp z=>?_⟩
 .obtain⟨v,q⟩:=I.cell x c e;exact absurd (aR q.lt (by rw[z];exact hb)) (X9 _)
 .exact absurd (aR (aK (I.pin p hp).1) (by rw[z];exact hb)) (X9 _)
structure Turn(P:Program)(w:World)(K:Frag)(tg:Expr)(J:It)(fp:Φ)(it:Addr)(tn:Nat->Heap->Prop):Prop where
 mem:it∈fp
 obj:∀i h,tn i h->∀b∈fp,∃o,h.get? b=some o/\∀v,o.data≠.cell v
 keep:∀i h h',tn i h->(∀b∈fp,∀o,h.get? b=some o->h'.get? b=some o)->tn i h'
 item:∀(X:Cx),X.prog=P->X.w=w->X.K=K->X.calm=true->∀(i:Nat)(aa:Γ)(s:Shared)(σ:St)(H:Hp)(E:Β),Inv X aa σ H s->(∀b∈fp,Di X aa H b)->tn i s.heap->J.go i H ->
  wpAny (model P w) X.A (pyNext (.ref it)) (λr s1=>∃u,r=some u /\
   wpAny (model P w) X.A (letOwnedTupleGo tg (.ref it) u) (λ_ s2=>∃x H',Inv X aa σ H' s2/\RelV x u/\J.yld i H x H'/\tn (i+1) s2.heap/\∀b∈fp,H' b=none) E s1) E s
 done:∀(X:Cx),X.prog=P->X.w=w->X.K=K->X.calm=true->∀(i:Nat)(aa:Γ)(s:Shared)(σ:St)(H:Hp)(E:Β),Inv X aa σ H s->(∀b∈fp,Di X aa H b)->tn i s.heap->J.stop i H ->
  wpAny (model P w) X.A (pyNext (.ref it)) (λr s1=>r=none/\Inv X aa σ H s1) E s
 self:∀(A:Around)(i:Nat)(s:Shared)(Q:Β)(E:Β),tn i s.heap->Q (.ref it) s->wpAny (model P w) A (pyIter (.ref it)) Q E s
abbrev TI:=St->Hp->(It->Hp->Prop)->Prop
def PIE(X:Cx)(aa:Γ)(σ:St)(tg:Expr)(R:It->Hp->Prop)(lh:Value)(s2:Shared):Prop :=
 ∃(it:Addr)(fp:Φ)(tn:Nat->Heap->Prop)(J:It)(H':Hp),lh=.ref it/\Inv X aa σ H' s2/\Turn X.prog X.w X.K tg J fp it tn/\tn 0 s2.heap/\(∀b∈fp,Di X aa H' b)/\R J H'
def PI(X:Cx)(tg iter:Expr)(wi:TI):Prop :=
 ∀(aa:Γ)(s:Shared)(σ:St)(H:Hp)(R:It->Hp->Prop),Inv X aa σ H s->wi σ H R ->
  wpAny (model X.prog X.w) X.A (eval iter X.env) (λv s1=>wpAny (model X.prog X.w) X.A (pyIter v) (PIE X aa σ tg R) X.xe s1) X.xe s
theorem Qo{M:Model}{A:Around}{E:Β}{s:Shared}{tg:Expr}{it:Addr}{u:Value}{o:Obj}{n:String}{vs:Array Value}{Q:Unit->Shared->Prop}(ho:s.heap.get? it=some o)(hc:o.cls=.type n)(hd:o.data=.fields vs)
   (hn : ["enumerate","zip","dict_itemiterator","dict_reverseitemiterator","odict_iterator","itertools.zip_longest","itertools.pairwise"].contains n=false)(hQ:Q () s):wpAny M A (letOwnedTupleGo tg (.ref it) u) Q E s:=by
  unfold letOwnedTupleGo;cases tg<;>first
    |exact ZT hQ
    |(cases u<;>first
        |exact ZT hQ
        | (refine ZU (wpAny_load ho ?_)
           rw[hc,hd];show wpAny M A (if(["enumerate","zip","dict_itemiterator","dict_reverseitemiterator","odict_iterator","itertools.zip_longest","itertools.pairwise"].contains n&&vs[0]?==some (rawInt _))=true then _ else _) Q E s;rw[ZZ (by intro h;rw[hn,Bool.false_and]at h;cases h)];exact ZT hQ))
noncomputable def Itl(K:Frag)(a:Addr):It :=
 ⟨λi H=>∃xs x,SqL K H a xs/\xs[i]?=some x,λi H x H'=>H'=H/\∀xs,SqL K H a xs->xs[i]?=some x,λi H=>∃xs,SqL K H a xs/\xs.length<=i⟩
noncomputable def Itt(K:Frag)(a:Addr):It :=
 ⟨λi H=>∃xs x,SqT K H a xs/\xs[i]?=some x,λi H x H'=>H'=H/\∀xs,SqT K H a xs->xs[i]?=some x,λi H=>∃xs,SqT K H a xs/\xs.length<=i⟩
noncomputable def Itr(lo:Int)(n:Nat):It:=⟨λi _=>i<n,λi H x H'=>H'=H/\x=.int (lo+i),λi _=>n<=i⟩
theorem W8{P:Program}{w:World}{K:Frag}{tg:Expr}(a it:Addr):Turn P w K tg (Itl K a) [it] it (λi h=>h.IsListIter it a i) where
 mem:=by simp
 obj:=λi h st b hb=>by
  have e:b=it:=by simpa using hb
  subst e;obtain⟨o,e,c,d⟩:=st;exact⟨o,e,λv z=>by rw[d]at z;cases z⟩
 keep:=λi h h' st k=>st.at λo e=>k it (by simp) o e
 item:=by
  intro X hP hw hK hc i aa s σ H E I hf st hg;subst hP hw hK;obtain⟨xs,x,hq,hx⟩:=hg;obtain⟨its,rv,p,hz⟩:=I.list hq;obtain⟨u,hu,ru⟩:=rv.get hx;obtain⟨f0,f1,f2,f3,f4,f5⟩:=hf it (by simp);refine wpAny_pyNext_list_item st p.isList (x:=u) (by simpa using hu) λh' di sb=>?_;have I1:Inv X aa σ H { s with heap:=h' }:=I.turned (t':=s.toks) (λb o hb e=>(sb.2 b hb).trans e) f0 f1 f3 f4 f5;obtain⟨o,e,c,d⟩:=id di;exact⟨u,rfl,Qo (s:={ s with heap:=h' }) e c d (by decide) ⟨x,H,I1,ru,⟨rfl,λys hy=>by rw[I.list_inj hy hq];exact hx⟩,di,λb hb=>(hf b hb).1⟩⟩
 done:=by
  intro X hP hw hK hc i aa s σ H E I hf st hg;subst hP hw hK;obtain⟨xs,hq,hx⟩:=hg;obtain⟨its,rv,p,hz⟩:=I.list hq;obtain⟨f0,f1,f2,f3,f4,f5⟩:=hf it (by simp);have hl:=rv.length;exact wpAny_pyNext_list_end (I.ok.hd hc) st p.isList (by simp;lia) λh' eb=>⟨rfl,I.turned (t':=s.toks) (λb o hb e=>eb b o hb e) f0 f1 f3 f4 f5⟩
 self:=λ_ _ _ _ _ st h=>wpAny_pyIter_listiter st h
theorem Rv{P:Program}{w:World}{K:Frag}{tg:Expr}(a it:Addr):Turn P w K tg (Itt K a) [it] it (λi h=>h.IsTupleIter it a i) where
 mem:=by simp
 obj:=λi h st b hb=>by
  have e:b=it:=by simpa using hb
  subst e;obtain⟨o,e,c,d⟩:=st;exact⟨o,e,λv z=>by rw[d]at z;cases z⟩
 keep:=λi h h' st k=>st.at λo e=>k it (by simp) o e
 item:=by
  intro X hP hw hK hc i aa s σ H E I hf st hg;subst hP hw hK;obtain⟨xs,x,hq,hx⟩:=hg;obtain⟨its,rv,p,hz⟩:=I.tuple hq;obtain⟨u,hu,ru⟩:=rv.get hx;obtain⟨f0,f1,f2,f3,f4,f5⟩:=hf it (by simp);refine wpAny_pyNext_tuple_item st (show s.heap.IsTuple a its.toArray from p) (x:=u) (by simpa using hu) λh' di sb=>?_;have I1:Inv X aa σ H { s with heap:=h' }:=I.turned (t':=s.toks) (λb o hb e=>(sb.2 b hb).trans e) f0 f1 f3 f4 f5;obtain⟨o,e,c,d⟩:=id di;exact⟨u,rfl,Qo (s:={ s with heap:=h' }) e c d (by decide) ⟨x,H,I1,ru,⟨rfl,λys hy=>by rw[I.tuple_inj hy hq];exact hx⟩,di,λb hb=>(hf b hb).1⟩⟩
 done:=by
  intro X hP hw hK hc i aa s σ H E I hf st hg;subst hP hw hK;obtain⟨xs,hq,hx⟩:=hg;obtain⟨its,rv,p,hz⟩:=I.tuple hq;obtain⟨f0,f1,f2,f3,f4,f5⟩:=hf it (by simp);have hl:=rv.length;exact wpAny_pyNext_tuple_end (I.ok.hd hc) st (show s.heap.IsTuple a its.toArray from p) (by simp;lia) λh' eb=>⟨rfl,I.turned (t':=s.toks) (λb o hb e=>eb b o hb e) f0 f1 f3 f4 f5⟩
 self:=λ_ _ _ _ _ st h=>wpAny_pyIter_tupleiter st h
theorem Tc{P:Program}{w:World}{K:Frag}{tg:Expr}(it:Addr)(lo:Int)(n:Nat):Turn P w K tg (Itr lo n) [it] it (λi h=>IsRangeIter h it (lo+(i:Nat)*1) ((n:Int)-(i:Nat)) 1) where
 mem:=by simp
 obj:=λi h st b hb=>by
  have e:b=it:=by simpa using hb
  subst e;exact⟨_,st,λv z=>by
   have z':Data.fields _=Data.cell v:=z;cases z'⟩
 keep:=λi h h' st k=>k it (by simp) _ st
 item:=by
  intro X hP hw hK hc i aa s σ H E I hf st hg;subst hP hw hK;obtain⟨f0,f1,f2,f3,f4,f5⟩:=hf it (by simp);have W:=Walks.range (prog:=X.prog) (w:=X.w) (I.ok.hd hc) it lo 1 n;refine W.item i s _ _ hg st λv h' tk hv di kk=>?_;obtain⟨t,rfl⟩:=hv;have I1:Inv X aa σ H { s with heap:=h',toks:=tk }:=I.turned (λb o hb e=>kk b o (by simpa using hb) e) f0 f1 f3 f4 f5;refine⟨_,rfl,Qo (s:={ s with heap:=h',toks:=tk }) (n:="range_iterator") di rfl rfl (by decide) ⟨.int (lo+i),H,I1,⟨t,?_⟩,⟨rfl,rfl⟩,di,λb hb=>(hf b hb).1⟩⟩;rw[Int.mul_one]
 done:=by
  intro X hP hw hK hc i aa s σ H E I hf st hg;subst hP hw hK;obtain⟨f0,f1,f2,f3,f4,f5⟩:=hf it (by simp);exact wpAny_pyNext_range_end (I.ok.hd hc) st (by have:n<=i:=hg;lia) λh' eb=>⟨rfl,I.turned (t':=s.toks) (λb o hb e=>eb b o hb e) f0 f1 f3 f4 f5⟩
 self:=λ_ _ _ _ _ st h=>wpAny_pyIter_rangeiter st h
section
variable{X:Cx}{tg:Expr}
def agp(K:Frag)(tl:TE):TI:=λσ H R=>tl σ H λx H1=>∃a,x=.ref a/\(∃xs,SqL K H1 a xs)/\R (Itl K a) H1
def akz(K:Frag)(tl:TE):TI:=λσ H R=>tl σ H λx H1=>∃a,x=.ref a/\(∃xs,SqT K H1 a xs)/\R (Itt K a) H1
theorem acw{l:Expr}{tl:TE}(hl:PE X l tl):PI X tg l (agp X.K tl):=by
 intro aa s σ H R I h;refine thn (hl aa s σ H _ I h) λv s1 hP=>?_;obtain⟨x,H1,I1,r1,q1⟩:=hP;obtain⟨a,e,⟨xs,hq⟩,q⟩:=q1;subst e;cases r1;obtain⟨its,rv,p,hz⟩:=I1.list hq;refine wpAny_pyIter_list p.isList ?_;refine⟨s1.heap.objs.size,[s1.heap.objs.size],_,_,H1,rfl,I1.kept (t':=s1.toks) λb o e=>aH _ e,W8 a _,⟨_,aW _ rfl,rfl,rfl⟩,λb hb=>?_,q⟩;have e:b=s1.heap.objs.size:=by simpa using hb
 subst e;exact I1.fpOk (aG _) (I1.hok.fresh (aG _))
theorem aea{l:Expr}{tl:TE}(hl:PE X l tl):PI X tg l (akz X.K tl):=by
 intro aa s σ H R I h;refine thn (hl aa s σ H _ I h) λv s1 hP=>?_;obtain⟨x,H1,I1,r1,q1⟩:=hP;obtain⟨a,e,⟨xs,hq⟩,q⟩:=q1;subst e;cases r1;obtain⟨its,rv,p,hz⟩:=I1.tuple hq;refine wpAny_pyIter_tuple (show s1.heap.IsTuple a its.toArray from p) ?_;refine⟨s1.heap.objs.size,[s1.heap.objs.size],_,_,H1,rfl,I1.kept (t':=s1.toks) λb o e=>aH _ e,Rv a _,⟨_,aW _ rfl,rfl,rfl⟩,λb hb=>?_,q⟩;have e:b=s1.heap.objs.size:=by simpa using hb
 subst e;exact I1.fpOk (aG _) (I1.hok.fresh (aG _))
theorem Og{aa:Γ}{σ:St}{H:Hp}{s:Shared}{R:It->Hp->Prop}{E:Β}{lo hi:Int}{t u v:Tok}{tk:Nat}(I:Inv X aa σ H s)(h1 : -(2^62)<=lo)(h2:lo<2^62)(h3 : -(2^62)<=hi)(h4:hi<2^62)
 (q:R (Itr lo (hi-lo).toNat) H):wpAny (model X.prog X.w) X.A (pyIter (.ref s.heap.objs.size)) (PIE X aa σ tg R) E { s with heap:=s.heap.push { cls:=.type "range",data:=.fields #[.int lo t,.int hi u,.int 1 v] },toks:=tk }:=by
 refine wpAny_pyIter_range (IsRange.new ..) (small_one h1 h2 h3 h4) ?_;have I1:Inv X aa σ H { s with heap:=s.heap.push { cls:=.type "range",data:=.fields #[.int lo t,.int hi u,.int 1 v] },toks:=tk }:=I.kept λb o e=>aH _ e;refine⟨(s.heap.push { cls:=.type "range",data:=.fields #[.int lo t,.int hi u,.int 1 v] }).objs.size,[(s.heap.push { cls:=.type "range",data:=.fields #[.int lo t,.int hi u,.int 1 v] }).objs.size],_,_,H,rfl,
  I1.kept (t':=tk) λb o e=>aH _ e,Tc _ lo (hi-lo).toNat,?_,λb hb=>?_,q⟩
 .have e1:lo+((0:Nat):Int)*1=lo:=by simp
  have e2:(((hi-lo).toNat:Nat):Int)-((0:Nat):Int)=Builtin.Range.rangeSize lo hi 1:=by rw[rangeSize_one];split<;>lia
  show IsRangeIter _ _ (lo+((0:Nat):Int)*1) ((((hi-lo).toNat:Nat):Int)-((0:Nat):Int)) 1;rw[e1,e2];exact aW _ rfl
 .have e:b=(s.heap.push { cls:=.type "range",data:=.fields #[.int lo t,.int hi u,.int 1 v] }).objs.size:=by simpa using hb
  subst e;exact I1.fpOk (aG _) (I1.hok.fresh (aG _))
def aio(ta:TA):TI:=λσ H R=>ta σ H λvs H1=>∃j:Int,vs=[.int j]/\-(2^62)<=j/\j<2^62/\R (Itr 0 j.toNat) H1
def aip(ta:TA):TI:=λσ H R=>ta σ H λvs H1=>∃i j:Int,vs=[.int i,.int j]/\(-(2^62)<=i/\i<2^62/\-(2^62)<=j/\j<2^62)/\R (Itr i (j-i).toNat) H1
theorem WR{a:Expr}{ta:TA}{p pos:Pos}(hg:Gl X "range")(hm:X.mg "range"=none)(ha:PA X [a] ta)(hs:starEach [a] X.env=[(false,eval a X.env)]:=by rfl):PI X tg (.Call (.Name "range" p) [a] [] pos) (aio ta):=by
 intro aa s σ H R I h;refine Call_ (yC I hg hm boot_range (PyProof.Rows.callWith_type1 (thn (ha pos aa s σ H _ I h) λus s1 hP=>?_) hs rfl));obtain⟨vs,H1,I1,r1,q1⟩:=hP;obtain⟨j,e,q1,q2,q⟩:=q1;subst e;cases r1 with
 |cons r rr =>
  cases rr;obtain⟨t,rfl⟩:=r;exact call_range_1 (Og I1 (XY (by decide)) (JU (by decide)) q1 q2 (by simpa using q))
theorem WM{a b:Expr}{ta:TA}{p pos:Pos}(hg:Gl X "range")(hm:X.mg "range"=none)(ha:PA X [a,b] ta)(hs:starEach [a,b] X.env=[(false,eval a X.env),(false,eval b X.env)]:=by rfl)(dS:starEach [b] X.env=[(false,eval b X.env)]:=by rfl) :
  PI X tg (.Call (.Name "range" p) [a,b] [] pos) (aip ta):=by
 intro aa s σ H R I h;refine Call_ (yC I hg hm boot_range (PyProof.Rows.callWith_type1 (thn (ha pos aa s σ H _ I h) λus s1 hP=>?_) (by rw[hs,dS]) (by rw[dS];rfl)));obtain⟨vs,H1,I1,r1,q1⟩:=hP;obtain⟨i,j,e,⟨q1,q2,q3,q4⟩,q⟩:=q1;subst e;cases r1 with
 |cons r rr =>
  cases rr with
  |cons r' rr =>
   cases rr;obtain⟨t,rfl⟩:=r;obtain⟨t',rfl⟩:=r';exact call_range_2 (Og I1 q1 q2 q3 q4 q)
def aiK(wi:TI)(g:TG)(tb:TS):TS:=λD σ H=>wi σ H λJ H1=>∃W:Nat->Nat->St->Hp->Prop,(∃m,W 0 m σ H1)/\∀i m σ H,W i m σ H ->
 (J.stop i H/\D.nx σ H)\/(J.go i H/\∃N:St->Hp->Prop,(∀σ' H',N σ' H'->∃m',m'<m/\W (i+1) m' σ' H')/\∀x H',J.yld i H x H'->g x σ H' λσ2 H2=>tb { D with nx:=N,ct:=N,bk:=D.nx } σ2 H2)
noncomputable def Hs(fp:Φ)(h:Heap):Γ:=fp.filterMap λb=>(h.get? b).map λo=>(b,o)
theorem pP{fp:Φ}{h:Heap}{b:Addr}{o:Obj}(hb:b∈fp)(e:h.get? b=some o):(b,o)∈Hs fp h:=List.mem_filterMap.mpr ⟨b,hb,by rw[e];rfl⟩
theorem Wm{fp:Φ}{h:Heap}{p:Addr×Obj}(hp:p∈Hs fp h):p.1∈fp/\h.get? p.1=some p.2:=by
 obtain⟨b,hb,e⟩:=List.mem_filterMap.mp hp;cases q:h.get? b with
 |none=>rw[q]at e;cases e
 |some o =>
  rw[q]at e;have e':(b,o)=p:=Option.some.inj e;subst e';exact⟨hb,q⟩
theorem Inv.pinned{aa:Γ}{σ:St}{H:Hp}{s:Shared}{fp:Φ}(I:Inv X aa σ H s)(hf:∀b∈fp,Di X aa H b)(ho:∀b∈fp,∃o,s.heap.get? b=some o/\∀v,o.data≠.cell v):Inv X (aa++Hs fp s.heap) σ H s :=
 I.pins_of λp hp=>(Y1.mp hp).elim (λz=>I.pin p (aP _ z)) λz=>by
  obtain⟨hb,e⟩:=Wm z;obtain⟨f0,f1,f2,_⟩:=hf p.1 hb;obtain⟨o,e',d⟩:=ho p.1 hb;rw[e]at e';cases e';exact⟨e,f0,f1,f2,d⟩
theorem Inv.unpinned{aa pl:Γ}{σ:St}{H:Hp}{s:Shared}(I:Inv X (aa++pl) σ H s):Inv X aa σ H s:=I.pins_of λp hp=>I.pin p (aP _ (U1 _ hp))
abbrev qV(X:Cx)(a:Expr):Prop:=∀z,foldedSetIterable a X.env z=pure z
theorem XF{iter:Expr}{bz:List Stmt}{wi:TI}{g:TG}{tb:TS}{pos:Pos}(hp:PassesOwn (model X.prog X.w) X.A X.env X.xe)(hc:X.calm=true)(hi:PI X tg iter wi)(hg:PG X tg g)(hb:PSs X bz tb)
 (hs:qV X iter:=by intro _;rfl):PS X (.For tg iter bz [] pos) (aiK wi g tb):=by
 intro aa s σ H D I h;refine wpAny_For (thn (hi aa s σ H _ I h) λv s1 h1=>thn h1 λlh s2 h2=>?_) hs;obtain⟨it,fp,tn,J,H2,e,I2,T,f7,f2,W,⟨m0,w0⟩,eQ⟩:=h2;subst e

 have gL:∀{H':Hp},(∀b∈fp,H' b=none)->∀b∈fp,Di X aa H' b:=λhn b hb=>⟨hn b hb,(f2 b hb).2⟩;refine codeAny_forLoop_any (λn s'=>∃i σ' H',Inv X aa σ' H' s'/\tn i s'.heap/\(∀b∈fp,H' b=none)/\W i n σ' H') ?_ m0 ⟨0,σ,H2,I2,f7,λb hb=>(f2 b hb).1,w0⟩;rintro n s3 ⟨i,σ3,H3,I3,ic,fr3,w3⟩;rcases eQ i n σ3 H3 w3 with⟨stop,qn⟩|⟨go,N,hN,step⟩
 .refine wpAny_passesOwn hp (thn (T.done X rfl rfl rfl hc i aa s3 σ3 H3 X.xe I3 (gL fr3) ic stop) λr s4 hP=>?_);obtain⟨hr,I4⟩:=hP;subst hr;exact wpAny_execs_nil ⟨σ3,H3,I4,qn⟩
 .refine wpAny_passesOwn hp (thn (T.item X rfl rfl rfl hc i aa s3 σ3 H3 X.xe I3 (gL fr3) ic go) λr s4 hP=>?_);obtain⟨u,hr,h4⟩:=hP;subst hr;refine wpAny_passesOwn hp (thn h4 λ_ s5 hP=>?_);obtain⟨x,H5,I5,r5,y5,kL,fr5⟩:=hP;have I5':=I5.pinned (gL fr5) (T.obj _ _ kL);refine wpAny_passesOwn hp (thn (hg _ s5 σ3 H5 x u _ I5' r5 (step x H5 y5)) λ_ s6 hP=>?_);obtain⟨σ6,H6,I6,q6⟩:=hP;refine wpAny_passesOwn hp (thn (hb _ s6 σ6 H6 _ I6 q6) λf s7 q7=>?_);have again:∀{σ7:St}{H7:Hp},Inv X (aa++Hs fp s5.heap) σ7 H7 s7->N σ7 H7->∃m,m<n/\∃i σ' H',Inv X aa σ' H' s7/\tn i s7.heap/\(∀b∈fp,H' b=none)/\W i m σ' H':=λ{σ7 H7}I7 n7=>by
   obtain⟨m',hm,w7⟩:=hN σ7 H7 n7;refine⟨m',hm,i+1,σ7,H7,I7.unpinned,T.keep _ _ _ kL λb hb o e=>(I7.pin (b,o) (aP _ (aP _ (pP hb e)))).1,λb hb=>?_,w7⟩;obtain⟨o,e,d⟩:=T.obj _ _ kL b hb;exact(I7.pin (b,o) (aP _ (aP _ (pP hb e)))).2.1
  cases f with
  |next=>obtain⟨σ7,H7,I7,n7⟩:=q7;exact again I7 n7
  |cont=>obtain⟨σ7,H7,I7,n7⟩:=q7;exact again I7 n7
  |brk=>obtain⟨σ7,H7,I7,q7⟩:=q7;exact⟨σ7,H7,I7.unpinned,q7⟩
  |ret v=>obtain⟨x7,σ7,H7,I7,r7,q7⟩:=q7;exact⟨x7,σ7,H7,I7.unpinned,r7,q7⟩
end
abbrev R2:=V->V->Hp->VK->Prop
def OpR(X:Cx)(f:Value->Value->Sem Value)(r:R2):Prop :=
 ∀(aa:Γ)(s:Shared)(σ:St)(H:Hp)(x y:V)(v u:Value)(Q:VK),Inv X aa σ H s->RelV x v->RelV y u->r x y H Q ->
  wpAny (model X.prog X.w) X.A (f v u) (EP X aa σ Q) X.xe s
def UnR(X:Cx)(f:Value->Sem Value)(r:V->Hp->VK->Prop):Prop :=
 ∀(aa:Γ)(s:Shared)(σ:St)(H:Hp)(x:V)(v:Value)(Q:VK),Inv X aa σ H s->RelV x v->r x H Q ->
  wpAny (model X.prog X.w) X.A (f v) (EP X aa σ Q) X.xe s
def h_(X:Cx)(f:Value)(r:Ε->Hp->VK->Prop):Prop :=
 ∀(aa:Γ)(s:Shared)(σ:St)(H:Hp)(xs:Ε)(us:Δ)(Q:VK),Inv X aa σ H s->Vals xs us->r xs H Q ->
  wpAny (model X.prog X.w) X.A (call f us) (EP X aa σ Q) X.xe s
def alL(X:Cx)(r:V->Hp->(Bool->Hp->Prop)->Prop):Prop :=
 ∀(aa:Γ)(s:Shared)(σ:St)(H:Hp)(x:V)(v:Value)(Q:Bool->Hp->Prop),Inv X aa σ H s->RelV x v->r x H Q ->
  wpAny (model X.prog X.w) X.A (truthy v) (TP X aa σ Q) X.xe s
def tOp(r:R2)(ta tb:TE):TE:=λσ H Q=>ta σ H λx H1=>tb σ H1 λy H2=>r x y H2 Q
def tUn(r:V->Hp->VK->Prop)(ta:TE):TE:=λσ H Q=>ta σ H λx H1=>r x H1 Q
def rI(C:Int->Int->Prop)(g:Int->Int->V):R2:=λx y H Q=>∃i j,x=.int i/\y=.int j/\C i j/\Q (g i j) H
def rI0(g:Int->Int->V):R2:=λx y H Q=>∃i j,x=.int i/\y=.int j/\Q (g i j) H
def rU(g:Int->V):V->Hp->VK->Prop:=λx H Q=>∃i,x=.int i/\Q (g i) H
section
variable{X:Cx}{a b c:Expr}{ta tb tc:TE}{pos:Pos}
theorem afK(ha:PE X a ta)(hb:PE X b tb){aa:Γ}{s:Shared}{σ:St}{H:Hp}{R:V->V->Hp->Prop}(I:Inv X aa σ H s)
 (h:ta σ H λx H1=>tb σ H1 λy H2=>R x y H2){Q:Β}{f:Value->Value->Sem Value}
 (hf:∀v u s2 x y H2,Inv X aa σ H2 s2->RelV x v->RelV y u->R x y H2->wpAny (model X.prog X.w) X.A (f v u) Q X.xe s2) :
  wpAny (model X.prog X.w) X.A (eval a X.env) (λv s₁=>wpAny (model X.prog X.w) X.A (eval b X.env) (λu s₂=>wpAny (model X.prog X.w) X.A (f v u) Q X.xe s₂) X.xe s₁) X.xe s:=by
 refine thn (ha aa s σ H _ I h) λv s1 hP=>?_;obtain⟨x,H1,I1,r1,q1⟩:=hP;refine thn (hb aa s1 σ H1 _ I1 q1) λu s2 hP=>?_;obtain⟨y,H2,I2,r2,q2⟩:=hP;exact hf v u s2 x y H2 I2 r1 r2 q2
theorem ajB{op:Operator}{r:R2}(ho:OpR X (binaryOp op) r)(ha:PE X a ta)(hb:PE X b tb):PE X (.BinOp a op b pos) (tOp r ta tb):=by
 intro aa s σ H Q I h;exact wpAny_BinOp (afK ha hb I h λv u s2 x y H2 I2 rx ry q=>ho aa s2 σ H2 x y v u Q I2 rx ry q)
theorem ahZ{op:UnaryOp}{r:V->Hp->VK->Prop}(ho:UnR X (unaryOp op) r)(ha:PE X a ta):PE X (.UnaryOp op a pos) (tUn r ta):=by
 intro aa s σ H Q I h;exact UnaryOp_ (thn (ha aa s σ H _ I h) λv s1 hP=>by obtain⟨x,H1,I1,r1,q1⟩:=hP;exact ho aa s1 σ H1 x v Q I1 r1 q1)
theorem Cy{op:Operator}{r:R2}(ho:OpR X (inplaceOp op) r){aa:Γ}{s:Shared}{σ:St}{H:Hp}{x y:V}{v u:Value}{Q:VK}(I:Inv X aa σ H s)
 (rx:RelV x v)(ry:RelV y u)(q:r x y H Q):wpAny (model X.prog X.w) X.A (inplaceOp op v u) (EP X aa σ Q) X.xe s:=ho aa s σ H x y v u Q I rx ry q
theorem opI{f:Value->Value->Sem Value}{C:Int->Int->Prop}{g:Int->Int->Int}
 (rule:∀(i j:Int)(t u:Tok)(s:Shared)(Q:Β)(E:Β),C i j->Q (.int (g i j) s.toks) { s with toks:=s.toks+1 }->wpAny (model X.prog X.w) X.A (f (.int i t) (.int j u)) Q E s) :
  OpR X f (rI C λi j=>.int (g i j)):=by
 intro aa s σ H x y v u Q I rx ry h;obtain⟨i,j,rfl,rfl,hc,q⟩:=h;obtain⟨t,rfl⟩:=rx;obtain⟨t',rfl⟩:=ry;exact rule i j t t' s _ _ hc ⟨.int (g i j),H,I.tok _,⟨_,rfl⟩,q⟩
theorem agL{f:Value->Value->Sem Value}{g:Int->Int->Int}
 (rule:∀(i j:Int)(t u:Tok)(s:Shared)(Q:Β)(E:Β),Q (.int (g i j) s.toks) { s with toks:=s.toks+1 }->wpAny (model X.prog X.w) X.A (f (.int i t) (.int j u)) Q E s) :
  OpR X f (rI0 λi j=>.int (g i j)):=by
 intro aa s σ H x y v u Q I rx ry h;obtain⟨i,j,rfl,rfl,q⟩:=h;obtain⟨t,rfl⟩:=rx;obtain⟨t',rfl⟩:=ry;exact rule i j t t' s _ _ ⟨.int (g i j),H,I.tok _,⟨_,rfl⟩,q⟩
theorem aaR{f:Value->Value->Sem Value}{g:Int->Int->Bool}
 (rule:∀(i j:Int)(t u:Tok)(s:Shared)(Q:Β)(E:Β),Q (.bool (g i j)) s->wpAny (model X.prog X.w) X.A (f (.int i t) (.int j u)) Q E s) :
  OpR X f (rI0 λi j=>.bl (g i j)):=by
 intro aa s σ H x y v u Q I rx ry h;obtain⟨i,j,rfl,rfl,q⟩:=h;obtain⟨t,rfl⟩:=rx;obtain⟨t',rfl⟩:=ry;exact rule i j t t' s _ _ ⟨.bl (g i j),H,I,rfl,q⟩
def aj9(i j:Int):Prop:=0<=j/\j<=1000000/\i.natAbs<2^64
def acT(i j:Int):Prop:=(-(2^64)<i/\i<2^64)\/(-(2^64)<j/\j<2^64)
theorem acT.ok{i j:Int}(h:acT i j):IntMulOk i j:=by
 rcases h with⟨h1,h2⟩|⟨h1,h2⟩
 .exact .of_left (intBits_le_64 h1 h2)
 .exact .of_right (intBits_le_64 h1 h2)
theorem aen:OpR X (binaryOp .Add) (rI0 λi j=>.int (i+j)):=agL λ_ _ _ _ _ _ _ q=>add_int q
theorem aeo:OpR X (binaryOp .Sub) (rI0 λi j=>.int (i-j)):=agL λ_ _ _ _ _ _ _ q=>sub_int q
theorem aeC:OpR X (binaryOp .Mult) (rI acT λi j=>.int (i*j)):=opI λ_ _ _ _ _ _ _ hc q=>mul_int q hc.ok
theorem afH:OpR X (binaryOp .Mod) (rI (λ_ j=>0<j) λi j=>.int (i%j)):=opI λi j _ _ _ _ _ hc q=>by
 have h1:(0:Int)<j:=hc;exact mod_int' (WS hc) (by rw[Int.fmod_eq_emod_of_nonneg i (XY hc)];exact q)
theorem adD:OpR X (binaryOp .Pow) (rI aj9 λi j=>.int (i^j.toNat)):=opI λ_ _ _ _ _ _ _ hc q=>pow_int_small hc.1 hc.2.1 hc.2.2 q
theorem unI{f:Value->Sem Value}{g:Int->Int}
 (rule:∀(i:Int)(t:Tok)(s:Shared)(Q:Β)(E:Β),Q (.int (g i) s.toks) { s with toks:=s.toks+1 }->wpAny (model X.prog X.w) X.A (f (.int i t)) Q E s) :
  UnR X f (rU λi=>.int (g i)):=by
 intro aa s σ H x v Q I rx h;obtain⟨i,rfl,q⟩:=h;obtain⟨t,rfl⟩:=rx;exact rule i t s _ _ ⟨.int (g i),H,I.tok _,⟨_,rfl⟩,q⟩
theorem ad7:UnR X (unaryOp .USub) (rU λi=>.int (-i)):=unI λ_ _ _ _ _ q=>neg_int q
end
noncomputable def aaW:V->V->Bool
 |.non,.non=>true|.non,.int _=>true|.int _,.non=>true|.non,.bl _=>true|.bl _,.non=>true|.non,.str _=>true|.str _,.non=>true
 |.int _,.int _=>true|.bl _,.bl _=>true|.str _,.str _=>true|.byt _,.byt _=>true
 |.int _,.str _=>true|.str _,.int _=>true|.bl _,.str _=>true|.str _,.bl _=>true
 |_,_=>false
def rEq:R2:=λx y H Q=>aaW x y=true/\Q (.bl (decide (x=y))) H
def rNe:R2:=λx y H Q=>aaW x y=true/\Q (.bl (!decide (x=y))) H
theorem Ut{i j:Int} : decide (V.int i=V.int j)=(i==j):=by
 rw[Bool.eq_iff_iff];simp
theorem Xf{i j:Bool} : decide (V.bl i=V.bl j)=(i==j):=by
 rw[Bool.eq_iff_iff];simp
theorem Ua{i j:Str} : decide (V.str i=V.str j)=(i==j):=by
 rw[Bool.eq_iff_iff];simp
theorem U8{i j:Array UInt8} : decide (V.byt i=V.byt j)=(i.toList==j.toList):=by
 rw[Bool.eq_iff_iff];cases i;cases j;simp
section
variable{X:Cx}{a b c:Expr}{ta tb tc:TE}{pos:Pos}
theorem cR{aa:Γ}{σ:St}{H:Hp}{s:Shared}{Q:VK}{k k':Bool}(I:Inv X aa σ H s)(q:Q (.bl k) H)(e:k=k'):EP X aa σ Q (.bool k') s:=by
 subst e;exact⟨.bl k,H,I,rfl,q⟩
theorem akh:OpR X (compareOp .Eq) rEq:=by
 intro aa s σ H x y v u Q I rx ry h;obtain⟨hs,q⟩:=h;cases x with
 |non =>
  cases rx;cases y with
  |non=>cases ry;exact PySem.EqNone.eq_none_none (cR I q (by simp))
  |bl j=>cases ry;exact PySem.EqNone.eq_none_bool (cR I q (by simp))
  |int j=>obtain⟨t',rfl⟩:=ry;exact PySem.EqNone.eq_none_int (cR I q (by simp))
  |str j=>obtain⟨t',rfl⟩:=ry;exact PySem.EqNone.eq_none_str (cR I q (by simp))
  |_=>exact absurd (show false=true from hs) bh
 |bl i =>
  cases rx;cases y with
  |non=>cases ry;exact PySem.EqNone.eq_bool_none (cR I q (by simp))
  |bl j=>cases ry;exact eq_bool (cR I q Xf)
  |str j=>obtain⟨t',rfl⟩:=ry;exact PySem.EqMixed.eq_bool_str (cR I q (by simp))
  |_=>exact absurd (show false=true from hs) bh
 |int i =>
  obtain⟨t,rfl⟩:=rx;cases y with
  |non=>cases ry;exact PySem.EqNone.eq_int_none (cR I q (by simp))
  |int j=>obtain⟨t',rfl⟩:=ry;exact eq_int (cR I q Ut)
  |str j=>obtain⟨t',rfl⟩:=ry;exact PySem.EqMixed.eq_int_str (cR I q (by simp))
  |_=>exact absurd (show false=true from hs) bh
 |str i =>
  obtain⟨t,rfl⟩:=rx;cases y with
  |non=>cases ry;exact PySem.EqNone.eq_str_none (cR I q (by simp))
  |bl j=>cases ry;exact PySem.EqMixed.eq_str_bool (cR I q (by simp))
  |int j=>obtain⟨t',rfl⟩:=ry;exact PySem.EqMixed.eq_str_int (cR I q (by simp))
  |str j=>obtain⟨t',rfl⟩:=ry;exact eq_str (cR I q Ua)
  |_=>exact absurd (show false=true from hs) bh
 |byt i =>
  obtain⟨t,rfl⟩:=rx;cases y with
  |byt j=>obtain⟨t',rfl⟩:=ry;exact PySem.W.eq_bytes (cR I q U8)
  |_=>exact absurd (show false=true from hs) bh
 |_=>cases y<;>exact absurd (show false=true from hs) bh
theorem agV:OpR X (compareOp .NotEq) rNe:=by
 intro aa s σ H x y v u Q I rx ry h;obtain⟨hs,q⟩:=h;cases x with
 |non =>
  cases rx;cases y with
  |non=>cases ry;exact PySem.EqNone.ne_none_none (cR I q (by simp))
  |bl j=>cases ry;exact PySem.EqNone.ne_none_bool (cR I q (by simp))
  |int j=>obtain⟨t',rfl⟩:=ry;exact PySem.EqNone.ne_none_int (cR I q (by simp))
  |str j=>obtain⟨t',rfl⟩:=ry;exact PySem.EqNone.ne_none_str (cR I q (by simp))
  |_=>exact absurd (show false=true from hs) bh
 |bl i =>
  cases rx;cases y with
  |non=>cases ry;exact PySem.EqNone.ne_bool_none (cR I q (by simp))
  |bl j=>cases ry;exact ne_bool (cR I q (ZH not Xf))
  |str j=>obtain⟨t',rfl⟩:=ry;exact PySem.EqMixed.ne_bool_str (cR I q (by simp))
  |_=>exact absurd (show false=true from hs) bh
 |int i =>
  obtain⟨t,rfl⟩:=rx;cases y with
  |non=>cases ry;exact PySem.EqNone.ne_int_none (cR I q (by simp))
  |int j=>obtain⟨t',rfl⟩:=ry;exact ne_int (cR I q (ZH not Ut))
  |str j=>obtain⟨t',rfl⟩:=ry;exact PySem.EqMixed.ne_int_str (cR I q (by simp))
  |_=>exact absurd (show false=true from hs) bh
 |str i =>
  obtain⟨t,rfl⟩:=rx;cases y with
  |non=>cases ry;exact PySem.EqNone.ne_str_none (cR I q (by simp))
  |bl j=>cases ry;exact PySem.EqMixed.ne_str_bool (cR I q (by simp))
  |int j=>obtain⟨t',rfl⟩:=ry;exact PySem.EqMixed.ne_str_int (cR I q (by simp))
  |str j=>obtain⟨t',rfl⟩:=ry;exact ne_str (cR I q (ZH not Ua))
  |_=>exact absurd (show false=true from hs) bh
 |byt i =>
  obtain⟨t,rfl⟩:=rx;cases y with
  |byt j=>obtain⟨t',rfl⟩:=ry;exact PySem.W.ne_bytes (cR I q (ZH not U8))
  |_=>exact absurd (show false=true from hs) bh
 |_=>cases y<;>exact absurd (show false=true from hs) bh
theorem ahN:OpR X (compareOp .Lt) (rI0 λi j=>.bl (decide (i<j))):=aaR λ_ _ _ _ _ _ _ q=>lt_int q
theorem agZ:OpR X (compareOp .LtE) (rI0 λi j=>.bl (decide (i<=j))):=aaR λ_ _ _ _ _ _ _ q=>le_int q
theorem aks:OpR X (compareOp .Gt) (rI0 λi j=>.bl (decide (j<i))):=aaR λ_ _ _ _ _ _ _ q=>gt_int q
theorem ajK:OpR X (compareOp .GtE) (rI0 λi j=>.bl (decide (j<=i))):=aaR λ_ _ _ _ _ _ _ q=>ge_int q
theorem adG:OpR X (compareOp .Is) (λx y H Q=>y=.non/\Q (.bl (decide (x=.non))) H):=by
 intro aa s σ H x y v u Q I rx ry h;obtain⟨rfl,q⟩:=h;cases ry;refine is_none_gen (cR I q ?_);cases x<;>first
  |(cases rx;rfl)
  |(obtain⟨t,rfl⟩:=rx;rfl)
theorem abR:OpR X (compareOp .IsNot) (λx y H Q=>y=.non/\Q (.bl (!decide (x=.non))) H):=by
 intro aa s σ H x y v u Q I rx ry h;obtain⟨rfl,q⟩:=h;cases ry;refine isnot_none_gen (cR I q ?_);cases x<;>first
  |(cases rx;rfl)
  |(obtain⟨t,rfl⟩:=rx;rfl)
theorem XJ(b:Expr){op:CmpOp}(h:op≠.In:=by decide)(h2:op≠.NotIn:=by decide):behindInMarks op b=false:=by
 have e1:(op==CmpOp.In)=false:=by cases op<;>first|rfl|exact absurd rfl h
 have e2:(op==CmpOp.NotIn)=false:=by cases op<;>first|rfl|exact absurd rfl h2
 cases b<;>simp[behindInMarks,e1,e2]
theorem abd{op:CmpOp}{r:R2}(ho:OpR X (compareOp op) r)(ha:PE X a ta)(hb:PE X b tb)(hm:behindInMarks op b=false):PE X (.Compare a [op] [b] pos) (tOp r ta tb):=by
 intro aa s σ H Q I h;exact wpAny_Compare1 (afK ha hb I h λv u s2 x y H2 I2 rx ry q=>ho aa s2 σ H2 x y v u Q I2 rx ry q) hm
def ado(t:TE):TT:=λσ H Q=>t σ H λx H'=>∃k,x=.bl k/\Q k H'
theorem acU{op:CmpOp}{r:R2}(ho:OpR X (compareOp op) r)(ha:PE X a ta)(hb:PE X b tb)(hm:behindInMarks op b=false):PT X (.Compare a [op] [b] pos) (ado (tOp r ta tb)):=by
 intro aa s σ H Q I h;refine wpAny_isTrue_Compare1 (thn (ha aa s σ H _ I h) λv s1 ⟨x,H1,I1,r1,q1⟩=>thn (hb aa s1 σ H1 _ I1 q1) λu s2 ⟨y,H2,I2,r2,q2⟩ =>
  thn (ho aa s2 σ H2 x y v u _ I2 r1 r2 q2) λc s3 ⟨z,H3,I3,r3,k,e,q3⟩=>?_) hm
 subst e;cases r3;exact wpAny_truthy_bool ⟨H3,I3,q3⟩
def Tn(r r':R2)(ta tb tc:TE):TE:=λσ H Q=>ta σ H λx H1=>tb σ H1 λy H2=>r x y H2 λz H3=>∃k,z=.bl k /\
 (if k=true then tc σ H3 λw' H4=>r' y w' H4 Q else Q (.bl false) H3)
theorem Yq{op dt:CmpOp}{r r':R2}(ho:OpR X (compareOp op) r)(de:OpR X (compareOp dt) r')(ha:PE X a ta)(hb:PE X b tb)(hc:PE X c tc)
 (hm:lastMarks [op,dt] [b,c]=false:=by with_unfolding_all rfl):PE X (.Compare a [op,dt] [b,c] pos) (Tn r r' ta tb tc):=by
 intro aa s σ H Q I h;refine Compare_chain (thn (ha aa s σ H _ I h) λv s1 ⟨x,H1,I1,r1,q1⟩=>chain_link (thn (hb aa s1 σ H1 _ I1 q1) λu s2 ⟨y,H2,I2,r2,q2⟩ =>
  thn (ho aa s2 σ H2 x y v u _ I2 r1 r2 q2) λd s3 ⟨z,H3,I3,r3,k,e,q3⟩=>?_)) hm
 subst e;cases r3;refine wpAny_truthy_bool ?_;cases k with
 |false=>exact ite_ff ⟨.bl false,H3,I3,rfl,q3⟩
 |true=>exact ite_tt (chain_last (thn (hc aa s3 σ H3 _ I3 q3) λw' s4 hP=>by obtain⟨z',H4,I4,r4,q4⟩:=hP;exact de aa s4 σ H4 y z' u w' Q I4 r2 r4 q4))
theorem Yj{op dt:CmpOp}{r r':R2}(ho:OpR X (compareOp op) r)(de:OpR X (compareOp dt) r')(ha:PE X a ta)(hb:PE X b tb)(hc:PE X c tc)
 (hm:lastMarks [op,dt] [b,c]=false:=by with_unfolding_all rfl):PT X (.Compare a [op,dt] [b,c] pos) (ado (Tn r r' ta tb tc)):=by
 intro aa s σ H Q I h;refine isTrue_chain (thn (ha aa s σ H _ I h) λv s1 ⟨x,H1,I1,r1,q1⟩=>test_link (thn (hb aa s1 σ H1 _ I1 q1) λu s2 ⟨y,H2,I2,r2,q2⟩ =>
  thn (ho aa s2 σ H2 x y v u _ I2 r1 r2 q2) λd s3 ⟨z,H3,I3,r3,k,e,q3⟩=>?_)) hm
 subst e;cases r3;refine wpAny_truthy_bool ?_;cases k with
 |false =>
  obtain⟨k',e',q'⟩:=q3;cases e';exact ite_ff ⟨H3,I3,q'⟩
 |true =>
  refine ite_tt (test_last (thn (hc aa s3 σ H3 _ I3 q3) λw' s4 ⟨z',H4,I4,r4,q4⟩=>thn (de aa s4 σ H4 y z' u w' _ I4 r2 r4 q4) λd' s5 hP=>?_));obtain⟨z2,H5,I5,r5,k2,e2,q5⟩:=hP;subst e2;cases r5;exact wpAny_truthy_bool ⟨H5,I5,q5⟩
def afo(K:Frag)(x:V)(H:Hp)(k:Bool):Prop :=
 match x with
 |.non=>k=false
 |.bl b=>k=b
 |.int i=>k=(i != 0)
 |.str y=>y.length<=sizeLine/\k=((y.length:Int) != 0)
 |.byt y=>y.size<=sizeLine/\k=((y.size:Int) != 0)
 |.ref p=>(∃xs,SqL K H p xs/\k = !xs.isEmpty)\/(∃xs,SqT K H p xs/\k = !xs.isEmpty)\/∃kvs,H p=some (.dK kvs)/\k = !kvs.isEmpty
 |_=>False
theorem TQ{κ:Type}{kvs:List (κ×V)}{vs:List (κ×Value)}(r:KV kvs vs):(!vs.isEmpty) = !kvs.isEmpty:=by
 cases r<;>rfl
theorem HB{xs:Ε}{its:Δ}(r:Vals xs its):(!its.toArray.isEmpty) = !xs.isEmpty:=by
 cases r<;>simp
theorem uo:(sizeLine:Nat)<2^63:=by rw[sizeLine_eq];decide
theorem Xo:alL X (λx H Q=>∃k,afo X.K x H k/\Q k H):=by
 intro aa s σ H x v Q I rx h;obtain⟨k,e,q⟩:=h;have hl:=uo;have hs:sizeLine=16777216:=sizeLine_eq;cases x with
 |non =>
  cases rx;have e':k=false:=e;subst e';exact truthy_none ⟨H,I,q⟩
 |bl b =>
  cases rx;have e':k=b:=e;subst e';exact wpAny_truthy_bool ⟨H,I,q⟩
 |int i =>
  obtain⟨t,rfl⟩:=rx;have e':k=(i != 0):=e;subst e';exact PySem.P.truthy_int ⟨H,I,q⟩
 |str y =>
  obtain⟨t,rfl⟩:=rx;obtain⟨hy,e'⟩ : y.length<=sizeLine/\k=((y.length:Int) != 0):=e;subst e';exact PySem.P.truthy_str (by lia) ⟨H,I.tok _,q⟩
 |byt y =>
  obtain⟨t,rfl⟩:=rx;obtain⟨hy,e'⟩ : y.size<=sizeLine/\k=((y.size:Int) != 0):=e;subst e';exact PySem.W.truthy_bytes (aL hy (by decide)) ⟨H,I.tok _,q⟩
 |ref p =>
  cases rx;have e':(∃xs,SqL X.K H p xs/\k = !xs.isEmpty)\/(∃xs,SqT X.K H p xs/\k = !xs.isEmpty)\/∃kvs,H p=some (.dK kvs)/\k = !kvs.isEmpty:=e;rcases e' with⟨xs,hx,e'⟩|⟨xs,hx,e'⟩|⟨kvs,hx,e'⟩
  .subst e';obtain⟨its,r,pl,hz⟩:=I.list hx;have a8:=r.length;exact wpAny_truthy_list pl.isList (by simp only[aX];lia) ⟨H,I.tok _,by rw[HB r];exact q⟩
  .subst e';obtain⟨its,r,pl,hz⟩:=I.tuple hx;have a8:=r.length;exact truthy_tuple pl (by simp only[aX];lia) ⟨H,I.tok _,by rw[HB r];exact q⟩
  .subst e';obtain⟨hz,hS,vs,r,m⟩ : kvs.length<=sizeLine/\(p==sysModules)=false/\∃vs,KV kvs vs/\s.heap.DictOf (iR X.prog X.w) p vs:=I.hok p _ hx;have a8:kvs.length=vs.length:=Paired.length r;exact wpAny_truthy_dict hS m (by lia) ⟨H,I.tok _,by rw[TQ r];exact q⟩
 |_=>exact(show False from e).elim
theorem Za(ha:PE X a ta)(he:∀b7,isTrue a X.env b7=(do let v <- b7;standAt a.pos;holding [v] (truthy v))) :
  PT X a (λσ H Q=>ta σ H λx H'=>∃k,afo X.K x H' k/\Q k H'):=by
 intro aa s σ H Q I h;exact isTrue_plain (thn (ha aa s σ H _ I h) λv s1 hP=>by obtain⟨x,H1,I1,r1,q1⟩:=hP;exact Xo aa s1 σ H1 x v Q I1 r1 q1) (he _)
theorem Rk:OpR X (binaryOp .Add) (λx y H Q=>∃i j,x=.str i/\y=.str j/\i.length+j.length<=sizeLine/\Q (.str (i++j)) H):=by
 intro aa s σ H x y v u Q I rx ry h;obtain⟨i,j,rfl,rfl,hz,q⟩:=h;obtain⟨t,rfl⟩:=rx;obtain⟨t',rfl⟩:=ry;exact add_str (λt' tk=>⟨.str (i++j),H,I.tok _,⟨_,rfl⟩,q⟩) hz
theorem vals1{x:V}{us:Δ}(r:Vals [x] us):∃u,us=[u]/\RelV x u:=by
 cases r with
 |cons r1 r2=>cases r2;exact⟨_,rfl,r1⟩
theorem ZW:h_ X (.builtin "abs") (λxs H Q=>∃i,xs=[.int i]/\Q (.int (if i<0 then -i else i)) H):=by
 intro aa s σ H xs us Q I r h;obtain⟨i,rfl,q⟩:=h;obtain⟨u,rfl,t,rfl⟩:=vals1 r;exact call_abs_int λu tk=>⟨.int (if i<0 then -i else i),H,I.tok _,⟨_,rfl⟩,q⟩
theorem WY:h_ X (.type "int") (λxs H Q=>(∃i,xs=[.int i]/\Q (.int i) H)\/∃k,xs=[.bl k]/\Q (.int (if k then 1 else 0)) H):=by
 intro aa s σ H xs us Q I r h;rcases h with⟨i,rfl,q⟩|⟨k,rfl,q⟩
 .obtain⟨u,rfl,t,rfl⟩:=vals1 r;exact call_int_int ⟨.int i,H,I,⟨_,rfl⟩,q⟩
 .obtain⟨u,rfl,r1⟩:=vals1 r;cases r1;exact call_int_bool ⟨.int (if k then 1 else 0),H,I.tok _,⟨_,rfl⟩,q⟩
end
structure SJ(h:Heap)(x dx C:Addr)(mA:Str->Ψ):Prop where
 obj:h.get? x=some (instObj C dx)
 ns:h.Ns1 dx mA
 ne:dx≠x
theorem Jx{h:Heap}{dx:Addr}{mA:Str->Ψ}(n:h.Ns1 dx mA):∃od,h.get? dx=some od/\∀name,lookIn name od=some (mA name):=by
 obtain⟨o,es,ep,ho,hd,hk,_,hm⟩:=n;refine⟨o,ho,λname=>?_⟩;have e:=hm name;unfold nsFind findBy at e;rw[<- Array.find?_toList]at e;unfold lookIn;rw[hd];dsimp only;split
 .rename_i y q
  rw[q]at e;exact ZH some e
 .rename_i q
  rw[q]at e;have a:es.toList.any (·.refKey)=false:=by
   rw[List.any_eq_false];intro y hy;obtain⟨z,t,g7⟩:=hk y (Array.mem_toList_iff.mp hy);simp[DictEntry.refKey,g7]
  have a':¬es.toList.any (·.refKey)=true:=by rw[a];exact bh
  rw[ZZ a'];exact ZH some e
theorem SJ.look{h:Heap}{x dx C:Addr}{mA:Str->Ψ}(I:SJ h x dx C mA):∃od,PySem.W.InstAt h x (instObj C dx) C (some od)/\∀name,lookIn name od=some (mA name) :=
 let⟨od,ho,hl⟩:=Jx I.ns
 ⟨od,⟨I.obj,rfl,rfl,ho⟩,hl⟩
section
variable{prog:Program}{w:World}{A:Around}{E:Β}{s:Shared}{K:Frag}{x dx C f:Addr}{mA:Str->Ψ}{name:Str}{v:Value}
theorem get_map{n5:Bool}{Q:Β}(X:K.In s.heap)(I:SJ s.heap x dx C mA)(hg:plainGet K C name=true)(hh:hasDictIn K C=true)
 (ha:findIn K (.ref C) name=some none)(hv:mA name=some v)(lS:handedIn v=true)(h:Q v { s with toks:=s.toks+1 }) :
  wpAny (model prog w) A (getAttr (.ref x) name n5) Q E s:=by
 obtain⟨od,J,hl⟩:=I.look;exact PySem.W.get_value X J (plainGet_of hg).1 (findObj_own hh ha rfl (by rw[hl,hv])) lS h
theorem YD{pl:Sem Bool}{Q:Value×Δ->Shared->Prop}(X:K.In s.heap)(I:SJ s.heap x dx C mA)(hg:plainGet K C name=true)
 (hf:findIn K (.ref C) name=some (some (.ref f)))(ht:isFn K (.ref f)=true)(hv:mA name=none)(h:Q (.ref f,[.ref x]) s) :
  wpAny (model prog w) A (getMethod (.ref x) name pl) Q E s:=by
 obtain⟨od,J,hl⟩:=I.look;exact PySem.W.method_fn X J (plainGet_of hg).1 (plainGet_of hg).2 hf (beq_iff_eq.mp ht) (by show(lookIn name od).map (·.isSome)=some false;rw[hl,hv];rfl) h
theorem abY{ns:Θ}{Q:Unit->Shared->Prop}(X:K.In s.heap)(I:SJ s.heap x dx C mA)
 (hs:findIn K (.ref C) "__setattr__"=some (some (.builtin "object.__setattr__")))(hp:plainOver K C=true)(ht:takerIn K C name=some none)(hh:hasDictIn K C=true)
 (hw:PySem.Within mA ns)(hsz:ns.length<=sizeLine)
 (h:∀h',SJ h' x dx C (λy=>if y=name then some v else mA y)->Heap.SameBut dx s.heap h'->Q () { s with heap:=h',toks:=s.toks+2 }) :
  wpAny (model prog w) A (setAttr (.ref x) name v) Q E s:=by
 obtain⟨od,J,hl⟩:=I.look;refine set_plain X J hs (PySem.W.osa_open (s:={ s with toks:=s.toks+1 }) (r:=none) X J hp ht λb=>?_);obtain⟨cd,hc,bv⟩:=PySem.W.any_some hh;have hx:s.heap.get? x=some ⟨.ref C,some dx,.plain,#[]⟩:=I.obj;refine ZU (ZT (ZU (ZU (wpAny_loadPart hx (ZU (PySem.W.Looks.here (s:={ s with toks:=s.toks+1 }) (looks_clsIn X hc) ?_))))));rw[bv];refine ZT (a:=some dx) (ZU (ZT (ZU ?_)));refine wpAny_nsSet1 (s:={ s with toks:=s.toks+1 }) I.ns λh' im dS=>?_;obtain⟨oD,esD,epD,mh,mS,hZ⟩:=im.count (PySem.Within.cons name v hw);refine ZU (wpAny_lookBehind mh (by rw[mS];exact pastItsLine_dict (aL hZ (by rw[List.length_cons];exact Nat.succ_le_succ hsz))) ?_);exact ZT (h _ ⟨(dS.2 _ (Ne.symm I.ne)).trans I.obj,im,I.ne⟩ dS)
theorem Zn{R:Result->Shared->Prop}{vs:Δ}{kw:List (Str×Value)}(X:K.In s.heap)(hm:makesIn K C=true)
 (hi:findIn K (.ref C) "__init__"=some (some (.ref f)))(hf:typeIn K (.ref f)=some (.type "function"))
 (h:codeAny (model prog w) (A.under (.builtin "type.__call__" ⟨.ref C::vs,kw⟩)) (.call (.ref f) ⟨.ref (s.heap.objs.size+1)::vs,kw⟩) (PySem.W.InitBack (s.heap.objs.size+1) R)
   { s with heap:=(s.heap.push emptyDict).push (instObj C s.heap.objs.size) }) :
  codeAny (model prog w) A (.call (.ref C) ⟨vs,kw⟩) R s:=by
 obtain⟨hh,g,d,t,os⟩:=s;exact PySem.W.make_core (PySem.W.makes_of X hm) (looks_findIn X hi) (λself=>PySem.W.bind_fn X self hf) (.inl rfl) h
end
noncomputable def ud(f:Str)(v:V):List (Str×V)->List (Str×V)
 |[]=>[(f,v)]
 |(g,x)::r=>if g=f then(g,v)::r else(g,x)::ud f v r
theorem CZ(f g:Str)(v:V):∀fs:List (Str×V),(ud f v fs).lookup g=if g=f then some v else fs.lookup g
 |[]=>by
  show List.lookup g [(f,v)]=_;by_cases h:g=f
  .have hb:(g==f)=true:=beq_iff_eq.mpr h;simp only[List.lookup,hb,ZY h]
  .have hb:(g==f)=false:=beq_eq_false_iff_ne.mpr h;simp only[List.lookup,hb,ZZ h]
 |(k,x)::r=>by
  have ih:=CZ f g v r;rw[show ud f v ((k,x)::r)=(if k=f then(k,v)::r else(k,x)::ud f v r)from rfl];by_cases hk:k=f
  .rw[ZY hk];by_cases h:g=k
   .have hb:(g==k)=true:=beq_iff_eq.mpr h;simp only[List.lookup,hb,ZY (h.trans hk)]
   .have hb:(g==k)=false:=beq_eq_false_iff_ne.mpr h;simp only[List.lookup,hb,ZZ (λe:g=f=>h (e.trans hk.symm))]
  .rw[ZZ hk];by_cases h:g=k
   .have hb:(g==k)=true:=beq_iff_eq.mpr h;simp only[List.lookup,hb,ZZ (λe:g=f=>hk (h.symm.trans e))]
   .have hb:(g==k)=false:=beq_eq_false_iff_ne.mpr h;simp only[List.lookup,hb];exact ih
theorem CJ(f:Str)(v:V):∀fs:List (Str×V),f∈(ud f v fs).map (·.1)/\∀g,g∈fs.map (·.1)->g∈(ud f v fs).map (·.1)
 |[]=>⟨by simp[ud],λg h=>by simp at h⟩
 |(k,x)::r=>by
  obtain⟨i1,i2⟩:=CJ f v r;rw[show ud f v ((k,x)::r)=(if k=f then(k,v)::r else(k,x)::ud f v r)from rfl];by_cases hk:k=f
  .rw[ZY hk];subst hk;exact⟨by simp,λg h=>by simpa using h⟩
  .rw[ZZ hk];refine⟨?_,λg h=>?_⟩
   .rw[List.map_cons];exact aJ _ i1
   .rw[List.map_cons]at h ⊢;rcases YU.mp h with e|e
    .exact YU.mpr (.inl e)
    .exact aJ _ (i2 g e)
theorem CV(f:Str)(v:V):∀fs:List (Str×V),(ud f v fs).length<=fs.length+1
 |[]=>by simp[ud]
 |(k,x)::r=>by
  have ih:=CV f v r;rw[show ud f v ((k,x)::r)=(if k=f then(k,v)::r else(k,x)::ud f v r)from rfl];by_cases hk:k=f
  .rw[ZY hk,List.length_cons,List.length_cons];exact Xs _
  .rw[ZZ hk,List.length_cons,List.length_cons];exact Nat.succ_le_succ ih
theorem um.some_of{v:V}{o:Ψ}(r:um (some v) o):∃u,o=some u/\RelV v u:=by
 cases o with
 |none=>exact(show False from r).elim
 |some u=>exact⟨u,rfl,r⟩
theorem um.none_of{o:Ψ}(r:um none o):o=none:=by
 cases o with
 |none=>rfl
 |some u=>exact(show False from r).elim
theorem JV{v:V}{u:Value}(r:RelV v u):handedIn u=true:=by
 cases v with
 |non=>cases(show u=Value.none from r);rfl
 |bl b=>cases(show u=Value.bool b from r);rfl
 |int i=>obtain⟨t,e⟩:=(show ∃t,u=Value.int i t from r);cases e;rfl
 |str x=>obtain⟨t,e⟩:=(show ∃t,u=Value.str x t from r);cases e;rfl
 |byt b=>obtain⟨t,e⟩:=(show ∃t,u=Value.bytes b t from r);cases e;rfl
 |flt b=>obtain⟨t,e⟩:=(show ∃t,u=Value.float b t from r);cases e;rfl
 |ref a=>cases(show u=Value.ref a from r);rfl
 |ty n=>cases(show u=Value.type n from r);rfl
section
variable{P:Program}{w:World}{H H':Hp}{h h':Heap}{a C dx:Addr}{fs fs':List (Str×V)}
theorem DY(hok:HOk P w H h)(e:H a=some (.ins C dx fs)):∃mA,SJ h a dx C mA/\(∀f,um (fs.lookup f) (mA f))/\PySem.Within mA (fs.map (·.1))/\fs.length<=1000/\H dx=some (.own a):=by
 obtain⟨d,z,ne,ob,mA,n,r,q⟩:=(show dM P w H h a (.ins C dx fs)from hok a _ e);exact⟨mA,⟨ob,n,ne⟩,r,q,z,d⟩
end
structure Cls(K:Frag)(C:Addr):Prop where
 pg:plainGet K C Str.empty=true
 hd:hasDictIn K C=true
 po:plainOver K C=true
 sa:findIn K (.ref C) "__setattr__"=some (some (.builtin "object.__setattr__"))
theorem Cls.get{K:Frag}{C:Addr}(c:Cls K C)(f:Str):plainGet K C f=true:=c.pg
def bY(K:Frag)(C:Addr)(f:Str):Prop:=findIn K (.ref C) f=some none
theorem bY.taker{K:Frag}{C:Addr}{f:Str}(n:bY K C f):takerIn K C f=some none:=by
 unfold takerIn;rw[show findIn K (.ref C) f=some none from n]
 rfl
structure Meth(K:Frag)(C:Addr)(m:Str)(f:Addr):Prop where
 at_:findIn K (.ref C) m=some (some (.ref f))
 fn:isFn K (.ref f)=true
 kp:keepIn K (.ref f)=true
section
variable{X:Cx}{aa:Γ}{σ:St}{H:Hp}{s:Shared}{a C dx:Addr}{fs:List (Str×V)}{f:Str}{v:V}{A:Around}{E:Β}
theorem S6{b:Bool}{Q:Β}(I:Inv X aa σ H s)(e:H a=some (.ins C dx fs))(c:Cls X.K C)(n:bY X.K C f)(l:fs.lookup f=some v)
 (h:∀u s',Inv X aa σ H s'->RelV v u->Q u s'):wpAny (model X.prog X.w) A (getAttr (.ref a) f b) Q E s:=by
 obtain⟨mA,O,r,_,_,_⟩:=DY I.hok e;obtain⟨u,hu,ru⟩:=um.some_of (v:=v) (o:=mA f) (by rw[<- l];exact r f);exact get_map I.kIn O (c.get f) c.hd n hu (JV ru) (h u _ (I.tok _) ru)
theorem Fy{m:Str}{g:Addr}{pl:Sem Bool}{Q:Value×Δ->Shared->Prop}(I:Inv X aa σ H s)(e:H a=some (.ins C dx fs))(c:Cls X.K C)(k:Meth X.K C m g)(l:fs.lookup m=none)
 (h:Q (.ref g,[.ref a]) s):wpAny (model X.prog X.w) A (getMethod (.ref a) m pl) Q E s:=by
 obtain⟨mA,O,r,_,_,_⟩:=DY I.hok e;have hn:mA m=none:=um.none_of (by rw[<- l];exact r m);exact YD I.kIn O (c.get m) k.at_ k.fn hn h
theorem R4{y:V}{u:Value}{Q:Unit->Shared->Prop}(I:Inv X aa σ H s)(e:H a=some (.ins C dx fs))(c:Cls X.K C)(n:bY X.K C f)(hl:fs.length<1000)(ry:RelV y u)
 (h:∀s',Inv X aa σ (upd H a (.ins C dx (ud f y fs))) s'->Q () s'):wpAny (model X.prog X.w) A (setAttr (.ref a) f u) Q E s:=by
 obtain⟨mA,O,r,wi,_,ho⟩:=DY I.hok e;have hz:(fs.map (·.1)).length<=sizeLine:=by rw[ak,sizeLine_eq];exact aL (Y2 hl) (by decide)
 refine abY I.kIn O c.sa c.po n.taker c.hd wi hz λh' O' sb=>h _ ?_;have hd:∃o,h'.get? dx=some o:=by obtain⟨o,_,_,e',_⟩:=O'.ns;exact⟨o,e'⟩
 refine I.write (x:=a) (e:=dx) (by rw[e];exact True.intro) (.inr ho) (λb q hb z=>(sb.2 b hb).trans z) hd ?_;refine⟨by rw[bR O.ne];exact ho,?_,O.ne,O'.obj,_,O'.ns,λg=>?_,λg hg=>?_⟩
 .have:=CV f y fs;lia
 .show um ((ud f y fs).lookup g) (if g=f then some u else mA g);rw[CZ];by_cases q:g=f
  .rw[ZY q,ZY q];exact ry
  .rw[ZZ q,ZZ q];exact r g
 .by_cases q:g=f
  .rw[q];exact(CJ f y fs).1
  .refine(CJ f y fs).2 g (wi g λz=>hg ?_);show(if g=f then some u else mA g)=none;rw[ZZ q];exact z
theorem Inv.made(I:Inv X aa σ H s):Inv X aa σ (upd (upd H s.heap.objs.size (.own (s.heap.objs.size+1))) (s.heap.objs.size+1) (.ins C s.heap.objs.size []))
  { s with heap:=(s.heap.push emptyDict).push (instObj C s.heap.objs.size) }:=by
 have e1:(s.heap.push emptyDict).get? s.heap.objs.size=some emptyDict:=aW s.heap rfl;have e2:((s.heap.push emptyDict).push (instObj C s.heap.objs.size)).get? (s.heap.objs.size+1)=some (instObj C s.heap.objs.size):=by
  have:=aW (s.heap.push emptyDict) (o:=instObj C s.heap.objs.size) rfl;rwa[Heap.size_push]at this
 have e3:(s.heap.push emptyDict).Ns s.heap.objs.size (λ_=>none):=⟨emptyDict,#[],_,e1,rfl,(λe he=>absurd he (by simp)),λ_=>rfl⟩;have I1:=I.laid (a:=s.heap.objs.size) (o:=.own (s.heap.objs.size+1)) (h':=s.heap.push emptyDict) (t':=s.toks) (λb u q=>aH _ q) (aG _) ⟨_,e1⟩;refine I1.laid (a:=s.heap.objs.size+1) (o:=.ins C s.heap.objs.size []) (t':=s.toks) (λb u q=>aH _ q) (WH (Heap.size_push _ _)) ?_;have ne:s.heap.objs.size≠s.heap.objs.size+1:=aQ (X1 _);refine⟨by rw[bR ne,bW],aZ _,ne,e2,λ_=>none,(Heap.Ns1.of_empty e3).at λo q=>aH _ q,λ_=>True.intro,λy hy=>absurd rfl hy⟩
theorem T7{prog:Program}{w:World}{env:Env}{e:Expr}{f:Str}{pos:Pos}{s:Shared}{Q:Β}(hb:attributeBase e f env (eval e env)=eval e env)
 (h:wpAny (model prog w) A (eval e env) (λo s₁=>wpAny (model prog w) A (getAttr o f true) Q E s₁) E s):wpAny (model prog w) A (eval (.Attribute e f pos) env) Q E s :=
 Attribute_any_ h (by rw[arm_eval_Attribute,hb])
end
def ama(K:Frag)(ta:TE)(f:Str):TE:=λσ H Q=>ta σ H λx H1=>∃a C dx fs v,x=.ref a/\H1 a=some (.ins C dx fs)/\Cls K C/\bY K C f/\fs.lookup f=some v/\Q v H1
def akQ(K:Frag)(ta tv:TE)(f:Str):TS:=λD σ H=>tv σ H λy H1=>ta σ H1 λx H2=>∃a C dx fs,x=.ref a/\H2 a=some (.ins C dx fs)/\Cls K C/\bY K C f/\fs.length<1000 /\
 D.nx σ (upd H2 a (.ins C dx (ud f y fs)))
section
variable{X:Cx}{o e ar:Expr}{f:Str}{pos aI ax:Pos}{ta tv:TE}
abbrev qB(X:Cx)(a:Expr)(b:Str):Prop:=attributeBase a b X.env (eval a X.env)=eval a X.env
theorem Xe(he:PE X e ta)(hb:qB X e f):PE X (.Attribute e f pos) (ama X.K ta f):=by
 intro aa s σ H Q I h;refine T7 hb (thn (he aa s σ H _ I h) λu s1 h=>?_);obtain⟨x,H1,I1,rx,a,C,dx,fs,v,rfl,ea,c,n,l,q⟩:=h;obtain rfl:u=Value.ref a:=rx;exact S6 I1 ea c n l λu' s2 I2 ru=>⟨v,H1,I2,ru,q⟩
theorem adO(ha:PE X o ta)(hv:PE X ar tv)(hs:swapsWith ar (some (.Attribute o f aI)) pos.line X.env=pure false):PS X (.Assign [.Attribute o f aI] ar pos) (akQ X.K ta tv f):=by
 intro aa s σ H D I h;refine plainObj_wpAny_Assign_Attribute (thn (hv aa s σ H _ I h) λu s1 ⟨y,H1,I1,ry,q⟩=>thn (ha aa s1 σ H1 _ I1 q) λov s2 h=>?_) hs;obtain⟨x,H2,I2,rx,a,C,dx,fs,rfl,ea,c,n,l,q2⟩:=h;obtain rfl:ov=Value.ref a:=rx;exact R4 I2 ea c n l ry λs3 I3=>⟨σ,_,I3,q2⟩
end
section
variable{X:Cx}{aa:Γ}{σ:St}{H:Hp}{s:Shared}{A:Around}{E:Β}{Q:Β}{c:Value}{b:Bool}
inductive Cj(K:Frag)(H:Hp):V->Value->Prop where
 |non:Cj K H .non (.type "NoneType")
 |bl (x:Bool):Cj K H (.bl x) (.type "bool")
 |int (i:Int):Cj K H (.int i) (.type "int")
 |str (x:Str):Cj K H (.str x) (.type "str")
 |flt (x:UInt64):Cj K H (.flt x) (.type "float")
 |lst {a:Addr}{xs:Ε} (e:H a=some (.lst xs)):Cj K H (.ref a) (.type "list")
 |frz {a:Addr}{o:Obj}{xs:Ε} (e:H a=some (.frz o (.lst xs))):Cj K H (.ref a) (.type "list")
 |tup {a:Addr}{xs:Ε} (e:H a=some (.tup xs)):Cj K H (.ref a) (.type "tuple")
 |dK {a:Addr}{kvs:List (Key×V)} (e:H a=some (.dK kvs)):Cj K H (.ref a) (.type "dict")
 |ins {a C dx:Addr}{fs:List (Str×V)} (e:H a=some (.ins C dx fs)) (cl:Cls K C) (ha:findIn K (.ref C) "__class__"=some (some (.builtin "object.__class__")))
   (hn:specialIn K (.builtin "object.__class__") "__get__"=some (some (.builtin "getset_descriptor.__get__"))) (htk:PySem.W.takesIn K (.builtin "object.__class__")=some true)
   (hm:mroIn K C (.type "object")=some true):Cj K H (.ref a) (.ref C)
theorem Wc{x:V}{u t:Value}(I:Inv X aa σ H s)(rx:RelV x u)(ty:Cj X.K H x t)(e:kitOne X.K t c=some b)(h:∀tk,Q (.bool b) { s with toks:=tk }) :
  wpAny (model X.prog X.w) A (call (.builtin "isinstance") [u,c]) Q E s:=by
 cases ty with
 |non=>cases(show u=Value.none from rx);exact kia_one PySem.W.kitx_none I.kIn True.intro e (λz=>nomatch z) h
 |bl y=>cases(show u=Value.bool y from rx);exact kia_one PySem.W.kitx_bool I.kIn True.intro e (λz=>nomatch z) h
 |int i=>obtain⟨t,q⟩:=(show ∃t,u=Value.int i t from rx);cases q;exact kia_one PySem.W.kitx_int I.kIn True.intro e (λz=>nomatch z) h
 |str y=>obtain⟨t,q⟩:=(show ∃t,u=Value.str y t from rx);cases q;exact kia_one PySem.W.kitx_str I.kIn True.intro e (λz=>nomatch z) h
 |flt y=>obtain⟨t,q⟩:=(show ∃t,u=Value.float y t from rx);cases q;exact kia_one PySem.W.kitx_float I.kIn True.intro e (λz=>nomatch z) h
 |@lst a xs ea =>
  cases(show u=Value.ref a from rx);obtain⟨_,_,n,_,h1⟩:=(show dM X.prog X.w H s.heap a (.lst xs)from I.hok a _ ea);exact kia_one kitx_list I.kIn ⟨_,h1,rfl⟩ e (λz=>nomatch z) h
 |@frz a ob xs ea =>
  cases(show u=Value.ref a from rx);obtain⟨_,_,_,n,_,h1⟩:=(show dM X.prog X.w H s.heap a (.frz ob (.lst xs))from I.hok a _ ea);exact kia_one kitx_list I.kIn ⟨_,h1,rfl⟩ e (λz=>nomatch z) h
 |@tup a xs ea =>
  cases(show u=Value.ref a from rx);obtain⟨_,_,_,p⟩:=(show dM X.prog X.w H s.heap a (.tup xs)from I.hok a _ ea);obtain⟨o,h1,h2,_⟩:=p;exact kia_one kitx_tuple I.kIn ⟨o,h1,h2⟩ e (λz=>nomatch z) h
 |@dK a kvs ea =>
  cases(show u=Value.ref a from rx);obtain⟨_,_,vs,_,p⟩:=(show dM X.prog X.w H s.heap a (.dK kvs)from I.hok a _ ea);obtain⟨o,es,ep,h1,h2,_⟩:=p;exact kia_one PySem.W.kitx_dict I.kIn ⟨o,h1,h2.1⟩ e (λz=>nomatch z) h
 |@ins a C dx fs ea cl ha hn htk hm =>
  cases(show u=Value.ref a from rx);obtain⟨mA,O,_⟩:=DY I.hok ea;obtain⟨od,J,_⟩:=O.look;exact kia_one (PySem.W.kitx_own (cl.get _) cl.hd ha hn htk hm) I.kIn J e (λz=>nomatch z) h
end
structure dF(k:Nat)(A:Around):Prop where
 hd:A.handled=none
 dp:A.depth+3*k+5<recursionLimit
 un:A.units+16*k+200<cLine
theorem dF.mono{j k:Nat}{A:Around}(r:dF k A)(h:j<=k):dF j A:=⟨r.hd,by have:=r.dp;lia,by have:=r.un;lia⟩
theorem dF.md{k n:Nat}{A:Around}(h:dF n A)(e:k<=n:=by decide):dF k A:=h.mono e
theorem dF.deeper{k:Nat}{A:Around}(r:dF (k+1) A)(env:Env):dF k (A.deeper env) :=
 ⟨r.hd,by have:=r.dp;show A.depth+1+3*k+5<_;lia,by have:=r.un;show A.units+3+16*k+200<_;lia⟩
theorem RQ{A:Around}{C:Addr}{us:Δ}{kw:List (Str×Value)} : (A.under (.builtin "type.__call__" ⟨.ref C::us,kw⟩)).depth=A.depth+1:=by
 first|rfl|simp[Around.under,Code.weight,Code.isCreation,Code.isGuard,Code.isCaller,Code.frames,Code.isFrame,guardIds]
theorem S_{A:Around}{C:Addr}{us:Δ}{kw:List (Str×Value)} : (A.under (.builtin "type.__call__" ⟨.ref C::us,kw⟩)).units=A.units+1:=by
 first|rfl|simp[Around.under,Code.cUnits,Code.frames,Code.isFrame]
theorem dF.make{k:Nat}{A:Around}(r:dF (k+1) A)(C:Addr)(us:Δ)(kw:List (Str×Value)):dF k (A.under (.builtin "type.__call__" ⟨.ref C::us,kw⟩)) :=
 ⟨r.hd,by have:=r.dp;rw[RQ];lia,by have:=r.un;rw[S_];lia⟩
theorem dF.depth{k:Nat}{A:Around}(r:dF k A):A.depth<recursionLimit:=by have:=r.dp;lia
theorem dF.units{k:Nat}{A:Around}(r:dF k A):A.units+64<cLine:=by have:=r.un;lia
def afO:TA:=λ_ H Q=>Q [] H
def ajQ(ta:TE)(tr:TA):TA:=λσ H Q=>ta σ H λx H1=>tr σ H1 λxs H2=>Q (x::xs) H2
section
variable{X:Cx}{e:Expr}{es:List Expr}{te:TE}{t:TA}{pos:Pos}
theorem lA:PA X [] afO:=λ_ _ _ _ H Q I h=>Calls.spliced_nil ⟨[],H,I,.nil,h⟩
abbrev qo(X:Cx)(a:Expr)(b:List Expr):Prop:=starEach (a::b) X.env=(false,eval a X.env)::starEach b X.env
theorem cN(ha:PE X e te)(hr:PA X es t)(hs:qo X e es:=by rfl):PA X (e::es) (ajQ te t):=by
 intro pos aa s σ H Q I h;rw[hs];show wpAny _ _ (spliced ((false,eval e X.env)::backTo pos (starEach es X.env))) _ _ s;refine Calls.spliced_cons (thn (ha aa s σ H _ I h) λu s1 hP=>?_);obtain⟨x,H1,I1,r1,q1⟩:=hP;exact thn (hr pos aa s1 σ H1 _ I1 q1) λus s2 hP=>by obtain⟨xs,H2,I2,r2,q2⟩:=hP;exact⟨x::xs,H2,I2,.cons r1 r2,q2⟩
def akT(t:TA):TE:=λσ H Q=>t σ H λxs H1=>xs.length<=sizeLine/\∀p,H1 p=none->Q (.ref p) (upd H1 p (.tup xs))
def alN(t:TA):TE:=λσ H Q=>t σ H λxs H1=>xs.length<=sizeLine/\∀p,H1 p=none->Q (.ref p) (upd H1 p (.lst xs))
theorem YQ{x1}(h:PA X es t):PE X (.Tuple es x1 pos) (akT t):=by
 intro aa s σ H Q I hq;refine wpAny_Tuple_spliced (thn (h pos aa s σ H _ I hq) λus s1 ⟨xs,H1,I1,r,z,q⟩=>⟨by rw[<- r.length];exact z,?_⟩);have hf:H1 s1.heap.objs.size=none:=I1.hok.fresh (aG _);refine⟨.ref s1.heap.objs.size,upd H1 s1.heap.objs.size (.tup xs),I1.laid (t':=s1.toks) (λb u e=>aH _ e) (aG _) ?_,rfl,q _ hf⟩;exact⟨z,us,r,⟨_,aW _ rfl,rfl,_,rfl⟩⟩
theorem aai(h:PA X es t):PE X (.List es pos) (alN t):=by
 intro aa s σ H Q I hq;refine wpAny_List_spliced (thn (h pos aa s σ H _ I hq) λus s1 ⟨xs,H1,I1,r,z,q⟩=>⟨by rw[<- r.length];exact z,?_⟩);have hf:H1 s1.heap.objs.size=none:=I1.hok.fresh (aG _);refine⟨.ref s1.heap.objs.size,upd H1 s1.heap.objs.size (.lst xs),I1.laid (t':=s1.toks) (λb u e=>aH _ e) (aG _) ?_,rfl,q _ hf⟩;exact⟨z,us,0,r,aW _ rfl⟩
end
abbrev Sp:=Ε->Hp->VK->XK->Prop
abbrev CXT:=List Env->Hp->Shared->XK->Value->Shared->Prop
structure O9(P:Program)(w:World)(K:Frag)(mg:Str->Ψ)(base:Heap)(A:Around)(outer:List Env)(s:Shared)(H:Hp):Prop where
 frames:A.frames=some outer
 mod:Mod K mg base
 bs:∀b o,base.get? b=some o->s.heap.get? b=some o/\H b=none
 bsz:base.objs.size<=s.heap.objs.size
 funs:s.heap.FunFrames base outer
 frf:∀b∈frs outer,H b=none
 hok:HOk P w H s.heap
 bare:AllBare s.gens
def CE(outer:List Env)(P:Program)(w:World)(H:Hp)(s:Shared)(Q:VK)(u:Value)(s':Shared):Prop :=
 ∃v H',s'.os=s.os/\AllBare s'.gens/\Un (frs outer) [] H H' s.heap s'.heap/\HOk P w H' s'.heap/\RelV v u/\Q v H'
def CR(CX:CXT)(outer:List Env)(P:Program)(w:World)(H:Hp)(s:Shared)(Q:VK)(E:XK)(r:Result)(s':Shared):Prop :=
 match r with
 |.ok (.ret u)=>CE outer P w H s Q u s'
 |.ok _=>False
 |.error e=>CX outer H s E e s'
structure b_(P:Program)(w:World)(K:Frag)(mg:Str->Ψ)(base:Heap)(CX:CXT)(k:Nat)(f:Addr)(fd:FuncData)(ps:Θ)(sp:Sp):Prop where
 len:∀vs H Q E,sp vs H Q E->vs.length=ps.length
 run:∀(A:Around)(outer:List Env)(s:Shared)(H:Hp)(args:Args)(us:Δ)(vs:Ε)(Q:VK)(E:XK),dF k A->O9 P w K mg base A outer s H->BindsTo s fd args (ps.zip us)->Vals vs us->sp vs H Q E ->
  codeAny (model P w) A (.call (.ref f) args) (CR CX outer P w H s Q E) s
theorem b_.imp{P:Program}{w:World}{K:Frag}{mg:Str->Ψ}{base:Heap}{CX:CXT}{k:Nat}{f:Addr}{fd:FuncData}{ps:Θ}{sp sp':Sp}(F:b_ P w K mg base CX k f fd ps sp)
 (h:∀vs H Q E,sp' vs H Q E->sp vs H Q E):b_ P w K mg base CX k f fd ps sp' :=
 ⟨λvs H Q E q=>F.len vs H Q E (h _ _ _ _ q),λA outer s H args us vs Q E hr he hb hv hs=>F.run A outer s H args us vs Q E hr he hb hv (h _ _ _ _ hs)⟩
theorem O9.make{P:Program}{w:World}{K:Frag}{mg:Str->Ψ}{base:Heap}{A:Around}{outer:List Env}{s:Shared}{H:Hp}(e:O9 P w K mg base A outer s H)(C:Addr)(us:Δ)(kw:List (Str×Value)) :
  O9 P w K mg base (A.under (.builtin "type.__call__" ⟨.ref C::us,kw⟩)) outer s H:=⟨by first|exact e.frames|(simpa[Around.under,Code.envs,Code.isFrame,pushEnvs]using e.frames),e.mod,e.bs,e.bsz,e.funs,e.frf,e.hok,e.bare⟩
section
variable{X:Cx}{aa:Γ}{σ:St}{H:Hp}{s s':Shared}
theorem Inv.env0(I:Inv X aa σ H s):O9 X.prog X.w X.K X.mg X.base X.A X.stack s H :=
 ⟨I.ok.frames,I.ok.mod,I.bs,aL I.ok.bsz I.sz,I.stack,I.stkFree,I.hok,I.bare⟩
theorem Inv.after{Q:VK}{u:Value}(I:Inv X aa σ H s)(h:CE X.stack X.prog X.w H s Q u s'):EP X aa σ Q u s':=by
 obtain⟨v,H',os,bare,un,hok,r,q⟩:=h;obtain⟨hh,g,d,t,os'⟩:=s';obtain rfl:os'=s.os:=os;exact⟨v,H',I.call (h':=hh) (g':=g) (d':=d) (t':=t) (ch:=[]) un hok bare (λb z=>absurd z (by simp)),r,q⟩
end
def ajE(sp:Sp)(c5:Ε)(E:XK)(t:TA):TE:=λσ H Q=>t σ H λvs H1=>sp (vs++c5) H1 Q E
def ac2(C:Addr)(m:Str)(sp:Sp)(c5:Ε)(E:XK)(ta:TE)(t:TA):TE:=λσ H Q=>ta σ H λx H1=>∃a dx fs,x=.ref a/\H1 a=some (.ins C dx fs)/\fs.lookup m=none /\
 t σ H1 λvs H2=>sp (x::(vs++c5)) H2 Q E
def ajf(C:Addr)(sp:Sp)(c5:Ε)(E:XK)(t:TA):TE:=λσ H Q=>t σ H λvs H1=>∀x dx,H1 x=none->H1 dx=none->dx≠x ->
 sp (.ref x::(vs++c5)) (upd (upd H1 dx (.own x)) x (.ins C dx [])) (λv H2=>v=.non/\Q (.ref x) H2) E
def Binds(K:Frag)(fd:FuncData)(ps:Θ)(ds:Δ):Prop :=
 ∀(s:Shared)(us:Δ),K.In s.heap->(us++ds).length=ps.length->BindsTo s fd ⟨us,[]⟩ (ps.zip (us++ds))
theorem Binds.all{K:Frag}{fd:FuncData}{ps:Θ}(h:∀us:Δ,us.length=ps.length->bindArgs fd ⟨us,[]⟩=pure (ps.zip us)):Binds K fd ps []:=λs us _ hl=>by
 rw[List.append_nil]at hl ⊢;exact .of_eq (h us hl)
def Passes(CX:CXT)(X:Cx)(E:XK):Prop:=∀(aa:Γ)(σ:St)(H:Hp)(s:Shared)(e:Value)(s':Shared),Inv X aa σ H s->CX X.stack H s E e s'->X.xe e s'
section
variable{X:Cx}{CX:CXT}{k:Nat}{f C:Addr}{fd:FuncData}{ps:Θ}{sp:Sp}{c5:Ε}{ds:Δ}{E:XK}{x m:Str}{p pos ai:Pos}{e o:Expr}{es:List Expr}{ta:TE}{t:TA}
theorem KY{aa:Γ}{σ:St}{H:Hp}{s:Shared}{Q:VK}{us:Δ}{vs:Ε}(F:b_ X.prog X.w X.K X.mg X.base CX k f fd ps sp)(hr:dF k X.A)(hb:Binds X.K fd ps ds)(hd:Vals c5 ds)(hx:Passes CX X E)
 (I:Inv X aa σ H s)(r:Vals vs us)(h:sp (vs++c5) H Q E):wpAny (model X.prog X.w) X.A (call (.ref f) us) (EP X aa σ Q) X.xe s:=by
 have r2:Vals (vs++c5) (us++ds):=r.append hd;have hl:(us++ds).length=ps.length:=by rw[<- r2.length];exact F.len _ _ _ _ h
 refine wpAny_call (codeAny_mono (F.run X.A X.stack s H ⟨us,[]⟩ (us++ds) (vs++c5) Q E hr I.env0 (hb s us I.kIn hl) r2 h) λr s' hq=>?_);cases r with
 |error e=>exact hx aa σ H s e s' I hq
 |ok fl =>
  cases fl with
  |ret u=>exact I.after hq
  |next=>exact False.elim hq
  |brk=>exact False.elim hq
  |cont=>exact False.elim hq
abbrev qh(X:Cx)(a:Pos)(b:List Expr):Prop:=(backTo a (starEach b X.env)).any (·.1)=false
theorem abJ(F:b_ X.prog X.w X.K X.mg X.base CX k f fd ps sp)(hr:dF k X.A)(hg:Gl X x)(hm:X.mg x=some (.ref f))(hk:keepIn X.K (.ref f)=true)(hb:Binds X.K fd ps ds)(hd:Vals c5 ds)(hx:Passes CX X E)
 (ha:PA X (e::es) t)(bu:qk x:=by decide)(he:qo X e es:=by rfl)(aS:qh X pos es:=by rfl) :
  PE X (.Call (.Name x p) (e::es) [] pos) (ajE sp c5 E t):=by
 intro aa s σ H Q I h;refine wpAny_Call_Name_kw (qu I hg hm ?_ bu);refine callWith_K (h₀:=X.base) I.ok.mod.kin hk (thn (ha pos aa s σ H _ I h) λus s1 ⟨vs,H1,I1,r,q⟩=>⟨I1.kIn,?_⟩) he aS;exact KY F hr hb hd hx I1 r q
theorem abo{pl:Sem Bool}(he:PE X o ta)(c:Cls X.K C)(hm:Meth X.K C m f)(F:b_ X.prog X.w X.K X.mg X.base CX k f fd ps sp)(hr:dF k X.A)(hb:Binds X.K fd ps ds)(hd:Vals c5 ds)(hx:Passes CX X E)(ha:PA X (e::es) t)
 (bE:qo X e es:=by rfl)(aS:qh X pos es:=by rfl)
 (ht:eval (.Call (.Attribute o m ai) (e::es) [] pos) X.env=(do
   let ov <- eval o X.env
   standAt ai.atName
   let(f,first) <- holding [ov] (getMethod ov m pl)
   callWith pos f first (backTo pos (starEach (e::es) X.env)) (backToKw pos (keywordEach [] X.env))):=by rfl) :
  PE X (.Call (.Attribute o m ai) (e::es) [] pos) (ac2 C m sp c5 E ta t):=by
 intro aa s σ H Q I h;refine methodCall_KW (pl:=pl) (thn (he aa s σ H _ I h) λu s1 hP=>?_) ht;obtain⟨x,H1,I1,rx,a,dx,fs,ex,ea,l,q⟩:=hP;subst ex;obtain rfl:u=Value.ref a:=rx;refine Fy I1 ea c hm l ?_;refine callWith_K (first:=[.ref a]) (h₀:=X.base) I.ok.mod.kin hm.kp (thn (ha pos aa s1 σ H1 _ I1 q) λus s2 ⟨vs,H2,I2,r,q2⟩=>⟨I2.kIn,?_⟩) bE aS;exact KY (us:=.ref a::us) (vs:=.ref a::vs) F hr hb hd hx I2 (.cons rfl r) q2
theorem ZK{pl:Sem Bool}(he:PE X o ta)(c:Cls X.K C)(hm:Meth X.K C m f)(F:b_ X.prog X.w X.K X.mg X.base CX k f fd ps sp)(hr:dF k X.A)(hb:Binds X.K fd ps ds)(hd:Vals c5 ds)(hx:Passes CX X E)
 (ht:eval (.Call (.Attribute o m ai) [] [] pos) X.env=(do
   let ov <- eval o X.env
   standAt ai.atName
   let(f,first) <- holding [ov] (getMethod ov m pl)
   callWith pos f first (backTo pos (starEach [] X.env)) (backToKw pos (keywordEach [] X.env))):=by rfl) :
  PE X (.Call (.Attribute o m ai) [] [] pos) (ac2 C m sp c5 E ta afO):=by
 intro aa s σ H Q I h;refine methodCall_KW (pl:=pl) (thn (he aa s σ H _ I h) λu s1 hP=>?_) ht;obtain⟨x,H1,I1,rx,a,dx,fs,ex,ea,l,q⟩:=hP;subst ex;obtain rfl:u=Value.ref a:=rx;refine Fy I1 ea c hm l ?_;exact PySem.W.callWith_K0 (first:=[.ref a]) I1.kIn hm.kp (KY (us:=[.ref a]) (vs:=[.ref a]) F hr hb hd hx I1 (.cons rfl .nil) q)
structure Mk(K:Frag)(C f:Addr):Prop where
 makes:makesIn K C=true
 init:findIn K (.ref C) "__init__"=some (some (.ref f))
 fn:isFn K (.ref f)=true
 kp:keepIn K (.ref C)=true
theorem Yt{aa:Γ}{σ:St}{H:Hp}{s:Shared}{Q:VK}{us:Δ}{vs:Ε}(M:Mk X.K C f)(F:b_ X.prog X.w X.K X.mg X.base CX k f fd ps sp)(hr:dF (k+1) X.A)(hb:Binds X.K fd ps ds)(hd:Vals c5 ds)
 (hx:Passes CX X E)(I:Inv X aa σ H s)(r:Vals vs us)
 (h:∀x dx,H x=none->H dx=none->dx≠x->sp (.ref x::(vs++c5)) (upd (upd H dx (.own x)) x (.ins C dx [])) (λv H2=>v=.non/\Q (.ref x) H2) E) :
  wpAny (model X.prog X.w) X.A (call (.ref C) us) (EP X aa σ Q) X.xe s:=by
 have hq:=h (s.heap.objs.size+1) s.heap.objs.size (I.hok.fresh (Xs _)) (I.hok.fresh (aG _)) (aQ (X1 _));have I2:=Inv.made (C:=C) I;have r2:Vals (V.ref (s.heap.objs.size+1)::(vs++c5)) (Value.ref (s.heap.objs.size+1)::(us++ds)):=.cons rfl (r.append hd);have hl:(Value.ref (s.heap.objs.size+1)::us++ds).length=ps.length:=by
  have e:=r2.length;rw[F.len _ _ _ _ hq]at e;exact e.symm
 refine wpAny_call (Zn (f:=f) I.kIn M.makes M.init (beq_iff_eq.mp M.fn) (codeAny_mono (F.run _ X.stack _ _ ⟨Value.ref (s.heap.objs.size+1)::us,[]⟩ (Value.ref (s.heap.objs.size+1)::(us++ds)) _ _ E (hr.make C us [])
  (I2.env0.make C us []) (hb _ (Value.ref (s.heap.objs.size+1)::us) I2.kIn hl) r2 hq) λr s' c9=>?_))
 cases r with
 |error e=>exact hx aa σ _ _ e s' I2 c9
 |ok fl =>
  cases fl with
  |ret u =>
   obtain⟨v,H',I3,rv,ev,q3⟩:=I2.after c9;subst ev;exact⟨rv,⟨V.ref (s.heap.objs.size+1),H',I3,rfl,q3⟩⟩
  |next=>exact False.elim c9
  |brk=>exact False.elim c9
  |cont=>exact False.elim c9
theorem abq(M:Mk X.K C f)(F:b_ X.prog X.w X.K X.mg X.base CX k f fd ps sp)(hr:dF (k+1) X.A)(hg:Gl X x)(hm:X.mg x=some (.ref C))(hb:Binds X.K fd ps ds)(hd:Vals c5 ds)(hx:Passes CX X E)
 (ha:PA X (e::es) t)(bu:qk x:=by decide)(he:qo X e es:=by rfl)(aS:qh X pos es:=by rfl) :
  PE X (.Call (.Name x p) (e::es) [] pos) (ajf C sp c5 E t):=by
 intro aa s σ H Q I h;refine wpAny_Call_Name_kw (qu I hg hm ?_ bu);refine callWith_K (h₀:=X.base) I.ok.mod.kin M.kp (thn (ha pos aa s σ H _ I h) λus s1 ⟨vs,H1,I1,r,q⟩=>⟨I1.kIn,?_⟩) he aS;exact Yt M F hr hb hd hx I1 r q
end
structure bK(N P:Θ)(sc:Scope):Prop where
 kind:sc.kind=.function
 co:sc.isCoroutine=false
 gen:sc.isGenerator=false
 nd:N.Nodup
 pre:N.take P.length=P
 par:∀x∈P,sc.names.lookup x=some .local\/sc.names.lookup x=some .cell
 nofree:∀y∈sc.names,y.2≠.free
theorem JL{kindOf:Str->Option NameKind}{x:Str} : ∀{binds:List (Str×Value)}{m:Str->Ψ},(∀v,(x,v)∉binds)->bindL kindOf binds m x=m x
 |[],_,_=>rfl
 |(n,v)::r,m,h=>by
  unfold bindL;rw[JL λw hw=>h w (aJ _ hw)];split
  .have:x≠n:=by rintro rfl;exact h v aO
   simp[this]
  .rfl
theorem JR{kindOf:Str->Option NameKind}{x:Str} : ∀{binds:List (Str×Value)}{m:Str->Ψ},(∀v,(x,v)∉binds)->bindC kindOf binds m x=m x
 |[],_,_=>rfl
 |(n,v)::r,m,h=>by
  unfold bindC;rw[JR λw hw=>h w (aJ _ hw)];split
  .rfl
  .have:x≠n:=by rintro rfl;exact h v aO
   simp[this]
theorem Jr{kindOf:Str->Option NameKind}{x:Str}{v:Value} : ∀{P:Θ}{vs:Δ}{i:Nat}{m:Str->Ψ},P.Nodup->P[i]?=some x->vs[i]?=some v->kindOf x=some .local ->
  bindL kindOf (P.zip vs) m x=some v
 |[],_,_,_,_,h,_,_=>by simp at h
 |_::_,[],_,_,_,_,h,_=>by simp at h
 |p::P,w::vs,0,m,nd,h1,h2,hk=>by
  simp at h1 h2;subst h1;subst h2;show bindL kindOf ((p,w)::P.zip vs) m p=_;unfold bindL;rw[JL λv hv=>(List.nodup_cons.mp nd).1 (US hv).1,ZY hk];simp
 |p::P,w::vs,i+1,m,nd,h1,h2,hk=>by
  show bindL kindOf ((p,w)::P.zip vs) m x=_;unfold bindL;exact Jr (i:=i) (List.nodup_cons.mp nd).2 (by simpa using h1) (by simpa using h2) hk
theorem J1{kindOf:Str->Option NameKind}{x:Str}{v:Value} : ∀{P:Θ}{vs:Δ}{i:Nat}{m:Str->Ψ},P.Nodup->P[i]?=some x->vs[i]?=some v->kindOf x≠some .local ->
  bindC kindOf (P.zip vs) m x=some v
 |[],_,_,_,_,h,_,_=>by simp at h
 |_::_,[],_,_,_,_,h,_=>by simp at h
 |p::P,w::vs,0,m,nd,h1,h2,hk=>by
  simp at h1 h2;subst h1;subst h2;show bindC kindOf ((p,w)::P.zip vs) m p=_;unfold bindC;rw[JR λv hv=>(List.nodup_cons.mp nd).1 (US hv).1,ZZ hk];simp
 |p::P,w::vs,i+1,m,nd,h1,h2,hk=>by
  show bindC kindOf ((p,w)::P.zip vs) m x=_;unfold bindC;exact J1 (i:=i) (List.nodup_cons.mp nd).2 (by simpa using h1) (by simpa using h2) hk
noncomputable def start(N:Θ)(vs:Ε):St:=vs.map some++List.replicate (N.length-vs.length) none
def zR(CX:CXT)(P:Program)(w:World)(K:Frag)(mg:Str->Ψ)(base:Heap)(N:Θ)(af:Str)(scope:Scope)(f:Addr)(cd:Value)(A:Around)(outer:List Env)(s:Shared)(H:Hp)(E:XK):Cx where
 prog:=P
 w:=w
 K:=K
 mg:=mg
 base:=base
 A:=A.deeper (envOfC af scope s.heap.objs.size f cd)
 N:=N
 s₀:=s
 H₀:=H
 env:=envOfC af scope s.heap.objs.size f cd
 outer:=outer
 stack:=envOfC af scope s.heap.objs.size f cd::outer
 ex:=[]
 calm:=true
 fn:=λ_=>true
 pn:=[]
 xe:=λe s'=>wpAny (model P w) (A.deeper (envOfC af scope s.heap.objs.size f cd)) (leaving (envOfC af scope s.heap.objs.size f cd) e) (λ_ kN=>CX outer H s E e kN) (λe' kN=>CX outer H s E e' kN) s'
theorem Rj{sc:Scope}{n:Nat}{x:Str}(h:sc.names.lookup x=some .cell):∃c,(cellsFrom n sc.names []).lookup x=some c:=by
 have q:=PySem.W.cellsFrom_some sc.names n [] (.inl h);exact Option.isSome_iff_exists.mp q
theorem Wk{CX:CXT}{P:Program}{w:World}{K:Frag}{mg:Str->Ψ}{base:Heap}{N ps:Θ}{af:Str}{scope:Scope}{f:Addr}{cd:Value}{A:Around}{outer:List Env}{s s1:Shared}{H:Hp}{E:XK}{us:Δ}{vs:Ε}
 (S:bK N ps scope)(hd:A.handled=none)(e0:O9 P w K mg base A outer s H)(hl:vs.length=ps.length)(r:Vals vs us)
 (x:InCallC s s.heap.objs.size (bindL (envOfC af scope s.heap.objs.size f cd).kindOf (ps.zip us) λ_=>none) (cellsFrom (s.heap.objs.size+1) scope.names []) (bindC (envOfC af scope s.heap.objs.size f cd).kindOf (ps.zip us) λ_=>none) s1) :
  Inv (zR CX P w K mg base N af scope f cd A outer s H E) [] (start N vs) H s1:=by
 have aS:ps.length<=N.length:=by have:=ZH List.length S.pre;rw[aY]at this;lia
 obtain⟨h1,tk,rfl,hk⟩:=x.done;have iP:∀b:Addr,b∉(zR CX P w K mg base N af scope f cd A outer s H E).ex:=λb z=>absurd (show b∈([] : Φ)from z) (by simp);refine⟨⟨e0.mod,S.kind,rfl,rfl,aG _,λy z c h1 h2=>?_,λy hy=>?_,λy c _ h=>?_,λ_=>hd,Around.frames_deeper e0.frames,.inr ⟨rfl,rfl⟩,λb z=>absurd z (iP b),e0.bs,e0.bsz,λb _ _=>iP b,λb z=>absurd z (iP b),e0.funs,e0.frf⟩,
  rfl,e0.bare,Un.kept hk,⟨_,x.toInCall.ns,λi y v h1 h2 h3=>?_⟩,λy c h=>⟨_,x.cell y c h⟩,e0.hok.fresh (aG _),λy c h=>?_,λp hp=>absurd (show p∈([] : Γ)from hp) (by simp),e0.hok.kept hk,?_⟩
 .exact name_of_addr x.apart (PySem.mem_of_lookup h1) (PySem.mem_of_lookup h2)
 .have hy:scope.names.lookup y=some .cell\/scope.names.lookup y=some .free:=hy;rcases hy with hy|hy
  .exact Rj hy
  .exact absurd rfl (S.nofree _ (PySem.mem_of_lookup hy))
 .exact Y2 (x.above y c (PySem.mem_of_lookup h))
 .have hi:i<vs.length:=by
   unfold start at h2;by_cases hi:i<vs.length
   .exact hi
   .rw[aD (by simpa using hi)]at h2;rw[X0]at h2;split at h2<;>cases h2
  have ha:vs[i]?=some v:=by
   unfold start at h2;rw[aF (by simpa using hi),aq]at h2;cases e:vs[i]? with
   |none=>rw[e]at h2;cases h2
   |some a=>rw[e]at h2;cases h2;rfl
  obtain⟨u,hu,rv⟩:=r.get ha;have hp:ps[i]?=some y:=by
   rw[<- S.pre,List.getElem?_take_of_lt (aR hi (WH hl))];exact h1
  have ndP:ps.Nodup:=by rw[<- S.pre];exact S.nd.sublist (List.take_sublist _ _)
  refine⟨u,rv,?_⟩;rcases S.par y (aC hp)with k|k
  .exact .inl ⟨k,Jr ndP hp hu k⟩
  .obtain⟨c,e⟩:=Rj (n:=s.heap.objs.size+1) k;refine .inr ⟨.inl k,c,e,?_⟩;have q:=x.cell y c e;rw[J1 ndP hp hu (by show scope.names.lookup y≠_;rw[k];decide)]at q;exact q
 .exact e0.hok.fresh (Y2 (x.above y c (PySem.mem_of_lookup h)))
 .unfold start;show _=N.length;rw[aA,ak,aN];lia
theorem acY{CX:CXT}{P:Program}{w:World}{K:Frag}{mg:Str->Ψ}{base:Heap}{k:Nat}{f:Addr}{name af:Str}{eS:Arguments}{bz:List Stmt}{scope:Scope}{dV kV bP pm ah ct oc:Value}{an od:Ω}
 {dq:Array (Ψ)}{N ps:Θ}{sp:Sp}(lk:K.lookup f=some ⟨oc,od,.func (PySem.W.fnOf name af eS bz scope dV kV bP pm an ah ct),dq⟩)(a9:codeIn K ah af=true)(S:bK N ps scope)
 (len:∀vs H Q E,sp vs H Q E->vs.length=ps.length)
 (be:∀(A:Around)(outer:List Env)(s:Shared)(H:Hp)(vs:Ε)(Q:VK)(E:XK),dF k (A.deeper (envOfC af scope s.heap.objs.size f ah))->sp vs H Q E ->
   ∃t,PSs (zR CX P w K mg base N af scope f ah A outer s H E) bz t/\t { nx:=λ_ H'=>Q .non H',rt:=Q } (start N vs) H) :
  b_ P w K mg base CX (k+1) f (PySem.W.fnOf name af eS bz scope dV kV bP pm an ah ct) ps sp:=by
 refine⟨len,λA outer s H args us vs Q E hr e0 hb r eM=>?_⟩;have hl:=len _ _ _ _ eM;have KX:K.In s.heap:=e0.mod.kin.keeps λb o e=>(e0.bs b o e).1;have lim:s.heap.NoLimit:=e0.mod.nolimit.keeps λb o e=>(e0.bs b o e).1;have cf:∀y∈ps.zip us,scope.names.lookup y.1=some .local\/(scope.names.lookup y.1=some .cell/\((cellsFrom (s.heap.objs.size+1) scope.names []).lookup y.1).isSome=true):=λ⟨n,v⟩ hy=>by
  rcases S.par n (US hy).1 with q|q
  .exact .inl q
  .exact .inr ⟨q,PySem.W.cellsFrom_some _ _ _ (.inl q)⟩
 refine codeAny_call_function hr.depth (KX _ _ lk) rfl S.co S.gen rfl (PySem.W.codeRec_of KX a9) (hb _ _ _ _ ?_);refine wpAny_newFunctionEnv_cells S.kind cf λenv he s1 x=>?_;subst he;refine⟨lim.keeps x.toInCall.keep,codeAny_func ?_⟩;obtain⟨t,ht,hq⟩:=be A outer s H vs Q E (hr.deeper _) eM;have I:Inv (zR CX P w K mg base N af scope f ah A outer s H E) [] (start N vs) H s1:=Wk S hr.hd e0 hl r x;refine wpAny_mono (ht [] s1 (start N vs) H _ I hq) (λfl s' hs=>?_) λe s' hs=>hs;have aE:∀{σ':St}{H':Hp}{v:V}{u:Value},Inv (zR CX P w K mg base N af scope f ah A outer s H E) [] σ' H' s'->RelV v u->Q v H'->CE outer P w H s Q u s' :=
  λ{σ' H' v u}J rv q=>⟨v,H',J.os,J.bare,J.base,J.hok,rv,q⟩
 cases fl with
 |ret u =>
  obtain⟨v,σ',H',J,rv,q⟩:=hs;exact aE J rv q
 |next =>
  obtain⟨σ',H',J,q⟩:=hs;exact aE (v:=V.non) (u:=Value.none) J rfl q
 |brk =>
  obtain⟨_,_,_,q⟩:=hs;exact False.elim q
 |cont =>
  obtain⟨_,_,_,q⟩:=hs;exact False.elim q
section
variable{X:Cx}{x:Str}{p pos:Pos}{e:Expr}{es:List Expr}{t:TA}{id T:String}{r:Ε->Hp->VK->Prop}
def tCB(r:Ε->Hp->VK->Prop)(t:TA):TE:=λσ H Q=>t σ H λvs H1=>r vs H1 Q
theorem Qd(hc:h_ X (.builtin id) r)(hg:Gl X x)(hm:X.mg x=none)(hv:bootBuiltins x=some (.builtin id))(ha:PA X (e::es) t)(hn:x≠"__name__":=by decide)(bu:qk x:=by decide)
 (he:qo X e es:=by rfl)(aS:qh X pos es:=by rfl):PE X (.Call (.Name x p) (e::es) [] pos) (tCB r t):=by
 intro aa s σ H Q I h;refine wpAny_Call_Name_kw (yC I hg hm hv ?_ hn bu);exact PyProof.Rows.callWith_builtin1 (thn (ha pos aa s σ H _ I h) λus s1 hP=>by obtain⟨vs,H1,I1,r1,q1⟩:=hP;exact hc aa s1 σ H1 vs us Q I1 r1 q1) he aS
theorem Wn(hc:h_ X (.type T) r)(hg:Gl X x)(hm:X.mg x=none)(hv:bootBuiltins x=some (.type T))(ha:PA X (e::es) t)(hn:x≠"__name__":=by decide)(bu:qk x:=by decide)
 (he:qo X e es:=by rfl)(aS:qh X pos es:=by rfl):PE X (.Call (.Name x p) (e::es) [] pos) (tCB r t):=by
 intro aa s σ H Q I h;refine wpAny_Call_Name_kw (yC I hg hm hv ?_ hn bu);exact PyProof.Rows.callWith_type1 (thn (ha pos aa s σ H _ I h) λus s1 hP=>by obtain⟨vs,H1,I1,r1,q1⟩:=hP;exact hc aa s1 σ H1 vs us Q I1 r1 q1) he aS
end
end L2
namespace HT
open PySem PyProof.Rows
section
variable{prog:Program}{w:World}{A:Around}{E:Β}{s:Shared}
noncomputable def sIx(n d:Nat):Option Int->Nat
 |none=>d
 |some v=>if v<0 then(v+(n:Int)).toNat else min v.toNat n
theorem Qz(n d:Nat):sIx n d none=d:=rfl
theorem w6(n d k:Nat):sIx n d (some (k:Int))=min k n:=by
 show(if(k:Int)<0 then((k:Int)+(n:Int)).toNat else min (k:Int).toNat n)=min k n;rw[ZZ (Int.not_lt_of_ge (Wp _)),Int.toNat_natCast]
theorem ad2(n d:Nat)(hd:d<=n)(o:Option Int):sIx n d o<=n:=by
 cases o with
 |none=>exact hd
 |some v =>
  show(if v<0 then(v+(n:Int)).toNat else min v.toNat n)<=n;by_cases hv:v<0
  .rw[ZY hv];lia
  .rw[ZZ hv];exact Nat.min_le_right _ _
end
end HT
namespace L2
open PySem PySem.Spec PyProof.Rows
abbrev TO:=St->Hp->(Option Int->Hp->Prop)->Prop
def PO(X:Cx)(e:Option Expr)(t:TO):Prop :=
 ∀(aa:Γ)(s:Shared)(σ:St)(H:Hp)(Q:Option Int->Hp->Prop),Inv X aa σ H s->t σ H Q ->
  wpAny (model X.prog X.w) X.A (evalPart e X.env) (λu s'=>∃o H',Inv X aa σ H' s'/\IsPart u o/\Q o H') X.xe s
def abO:TO:=λ_ H Q=>Q none H
def ajI(t:TE):TO:=λσ H Q=>t σ H λx H1=>∃i,x=.int i/\Q (some i) H1
theorem intsAre_of{ns:List Int} : ∀{us:Δ},Vals (ns.map V.int) us->IntsAre us ns:=by
 induction ns with
 |nil=>intro us r;rw[List.map_nil]at r;cases r;exact .nil
 |cons n ns ih =>
  intro us r;rw[List.map_cons]at r;cases r with
  |cons r1 r2 =>
   obtain⟨t,e⟩:=r1;subst e;exact .cons n t (ih r2)
section
variable{X:Cx}{e:Expr}{te:TE}{lo hi:Option Expr}{tl th:TO}{pos p2:Pos}
theorem aaM:PO X none abO:=by
 intro aa s σ H Q I h;rw[evalPart_none];exact ZT ⟨none,H,I,.none,h⟩
theorem abj(h:PE X e te):PO X (some e) (ajI te):=by
 intro aa s σ H Q I hw;rw[evalPart_some];refine thn (h aa s σ H _ I hw) λu s1 hP=>?_;obtain⟨x,H1,I1,r1,q1⟩:=hP;obtain⟨i,rfl,q⟩:=q1;obtain⟨t,rfl⟩:=r1;exact⟨some i,H1,I1,.int i t,q⟩
def SlR(X:Cx)(r:V->Option Int->Option Int->Hp->VK->Prop):Prop :=
 ∀(aa:Γ)(s:Shared)(σ:St)(H:Hp)(x:V)(v vl vu:Value)(lo hi:Option Int)(sl:Addr)(Q:VK),Inv X aa σ H s->RelV x v->s.heap.IsSliceOf sl vl vu .none->IsPart vl lo->IsPart vu hi->r x lo hi H Q ->
  ∃T id,typeLookup (.type T) "__getitem__"=pure (some (.builtin id))/\s.TypeIs v T/\wpAny (model X.prog X.w) X.A (getItem v (.ref sl)) (EP X aa σ Q) X.xe s
theorem SlR.or{r r':V->Option Int->Option Int->Hp->VK->Prop}(h:SlR X r)(h':SlR X r'):SlR X (λx lo hi H Q=>r x lo hi H Q\/r' x lo hi H Q):=by
 intro aa s σ H x v vl vu lo hi sl Q I rx hs pl pu q;rcases q with q|q
 .exact h aa s σ H x v vl vu lo hi sl Q I rx hs pl pu q
 .exact h' aa s σ H x v vl vu lo hi sl Q I rx hs pl pu q
def tSl(r:V->Option Int->Option Int->Hp->VK->Prop)(te:TE)(tl th:TO):TE:=λσ H Q=>te σ H λx H1=>tl σ H1 λl H2=>th σ H2 λu H3=>r x l u H3 Q
theorem Zm{r:V->Option Int->Option Int->Hp->VK->Prop}(hr:SlR X r)(he:PE X e te)(hl:PO X lo tl)(hu:PO X hi th):PE X (.Subscript e (.Slice lo hi none p2) pos) (tSl r te tl th):=by
 intro aa s σ H Q I h;refine Subscript_ (thn (he aa s σ H _ I h) λv s1 hP=>?_);obtain⟨x,H1,I1,r1,q1⟩:=hP;refine wpAny_Slice (thn (hl aa s1 σ H1 _ I1 q1) λvl s2 ⟨l,H2,I2,pl,q2⟩=>thn (hu aa s2 σ H2 _ I2 q2) λvu s3 hP=>?_);obtain⟨u,H3,I3,pu,q3⟩:=hP;rw[evalPart_none];refine ZT ?_;have I4:Inv X aa σ H3 { s3 with heap:=s3.heap.push { cls:=.type "slice",data:=.fields #[vl,vu,.none] } }:=I3.kept (t':=s3.toks) λb ob q=>aH _ q;obtain⟨T,id,hT,ht,hg⟩:=hr aa { s3 with heap:=s3.heap.push { cls:=.type "slice",data:=.fields #[vl,vu,.none] } } σ H3 x v vl vu l u s3.heap.objs.size Q I4 r1 (Heap.IsSliceOf.new ..) pl pu q3;show wpAny (model X.prog X.w) X.A (subscriptTail e (.Slice lo hi none p2) v (.ref s3.heap.objs.size)) (EP X aa σ Q) X.xe { s3 with heap:=s3.heap.push { cls:=.type "slice",data:=.fields #[vl,vu,.none] } };exact tail_any (ops:=[.ref s3.heap.objs.size,v]) ht hT hg (by with_unfolding_all rfl)
noncomputable def Wv(xs:Ε)(lo hi:Option Int):Ε:=(xs.drop (HT.sIx xs.length 0 lo)).take (HT.sIx xs.length xs.length hi-HT.sIx xs.length 0 lo)
theorem PB(xs:Ε)(lo hi:Option Int):(Wv xs lo hi).length<=xs.length:=by
 unfold Wv;rw[aY,UP];lia
end
noncomputable def ixN(n:Nat)(i:Int):Option Nat:=if 0<=i then(if i<n then some i.toNat else none)else if -(n:Int)<=i then some (i+n).toNat else none
def atI{α:Type}(xs:List α)(i:Int):Option α:=(ixN xs.length i).bind λj=>xs[j]?
theorem UJ{n:Nat}{i:Int}{j:Nat}(h:ixN n i=some j):seqIndex? i n=some j/\j<n/\-(n:Int)<=i/\i<n:=by
 unfold ixN at h;by_cases h0:0<=i
 .rw[ZY h0]at h;by_cases h1:i<n
  .rw[ZY h1]at h;have e:i.toNat=j:=Option.some.inj h;exact⟨by rw[seqIndex_of h0 h1,e],by lia,by lia,h1⟩
  .rw[ZZ h1]at h;cases h
 .rw[ZZ h0]at h;by_cases h1 : -(n:Int)<=i
  .rw[ZY h1]at h;have e:(i+n).toNat=j:=Option.some.inj h;exact⟨by rw[seqIndex_neg (JU h0) h1,e],by lia,h1,by lia⟩
  .rw[ZZ h1]at h;cases h
theorem Kz{α:Type}{xs:List α}{i:Int}{v:α}(h:atI xs i=some v):∃j,seqIndex? i xs.length=some j/\xs[j]?=some v/\j<xs.length/\-(xs.length:Int)<=i/\i<xs.length:=by
 unfold atI at h;cases e:ixN xs.length i with
 |none=>rw[e]at h;cases h
 |some j =>
  rw[e]at h;obtain⟨h1,h2,h3,h4⟩:=UJ e;exact⟨j,h1,h,h2,h3,h4⟩
def sy(b:Expr):Prop:=∀o i,subscripted b false o i=operate [o,i] (getItem o i)
def IxR(X:Cx)(r:R2):Prop :=
 ∀(ar bn:Expr)(aa:Γ)(s:Shared)(σ:St)(H:Hp)(x y:V)(v u:Value)(Q:VK),Inv X aa σ H s->RelV x v->RelV y u->r x y H Q ->
  subscripted bn false v u=operate [v,u] (getItem v u)->wpAny (model X.prog X.w) X.A (subscriptTail ar bn v u) (EP X aa σ Q) X.xe s
def MtR(X:Cx)(id:String)(r:V->Ε->Hp->VK->Prop):Prop :=
 ∀(aa:Γ)(s:Shared)(σ:St)(H:Hp)(x:V)(xs:Ε)(v:Value)(us:Δ)(Q:VK),Inv X aa σ H s->RelV x v->Vals xs us->r x xs H Q ->
  wpAny (model X.prog X.w) X.A (call (.builtin id) (v::us)) (EP X aa σ Q) X.xe s
section
variable{X:Cx}{a b:Expr}{ta tb:TE}{pos:Pos}
theorem IxR.or{r r':R2}(h:IxR X r)(h':IxR X r'):IxR X (λx y H Q=>r x y H Q\/r' x y H Q):=by
 intro ar bn aa s σ H x y v u Q I rx ry q hs;rcases q with q|q
 .exact h ar bn aa s σ H x y v u Q I rx ry q hs
 .exact h' ar bn aa s σ H x y v u Q I rx ry q hs
theorem Jw{r:R2}(hr:IxR X r)(ha:PE X a ta)(hb:PE X b tb)(hs:sy b):PE X (.Subscript a b pos) (tOp r ta tb):=by
 intro aa s σ H Q I h;exact Subscript_ (afK ha hb I h λv u s2 x y H2 I2 rx ry q=>hr a b aa s2 σ H2 x y v u Q I2 rx ry q (hs _ _))
def amQ(K:Frag):R2:=λx y H Q=>∃p xs i v,x=.ref p/\y=.int i/\SqL K H p xs/\atI xs i=some v/\Q v H
def alE(K:Frag):R2:=λx y H Q=>∃p xs i v,x=.ref p/\y=.int i/\SqT K H p xs/\atI xs i=some v/\Q v H
def alD:R2:=λx y H Q=>∃z i c,x=.str z/\y=.int i/\z.length<=sizeLine/\atI z.cps.toList i=some c/\Q (.str ⟨#[c]⟩) H
theorem xq:IxR X (amQ X.K):=by
 intro ar bn aa s σ H x y v u Q I rx ry h hs;obtain⟨p,xs,i,z,rfl,rfl,hq,he,q⟩:=h;cases rx;obtain⟨t,rfl⟩:=ry;obtain⟨its,r,pl,hz⟩:=I.list hq;obtain⟨j,h1,h2,h3,h4,h5⟩:=Kz he;obtain⟨w,ew,eR⟩:=r.get h2;have hl:=r.length;have hn:=uo;have aE:EP X aa σ Q w s:=⟨z,H,I,eR,q⟩;by_cases h0:0<=i
 .have hj:i.toNat=j:=by
   rw[seqIndex_of h0 h5]at h1;exact Option.some.inj h1
  exact item_listR pl.isList h0 (by lia) (by rw[hj];simpa using ew) aE hs
 .have hj:(i+(its.toArray.size:Int)).toNat=j:=by
   rw[seqIndex_neg (JU h0) h4]at h1;rw[aX,<- hl];exact Option.some.inj h1
  exact subscriptTail_builtinR (x:=w) pl.isList.typeIs slot_list_getitem.lookup
   (wpAny_getItem_list_neg (Q:=λr s'=>r=w/\EP X aa σ Q r s') pl.isList (JU h0) (by rw[aX]<;>lia) (by lia) (by rw[hj];simpa using ew) ⟨rfl,aE⟩) hs
theorem ae0:IxR X (alE X.K):=by
 intro ar bn aa s σ H x y v u Q I rx ry h hs;obtain⟨p,xs,i,z,rfl,rfl,hq,he,q⟩:=h;cases rx;obtain⟨t,rfl⟩:=ry;obtain⟨its,r,pl,hz⟩:=I.tuple hq;obtain⟨j,h1,h2,h3,h4,h5⟩:=Kz he;obtain⟨w,ew,eR⟩:=r.get h2;have hl:=r.length;have hn:=uo;have aE:EP X aa σ Q w s:=⟨z,H,I,eR,q⟩;exact subscriptTail_builtinR (x:=w) pl.typeIs slot_tuple_getitem.lookup
  (getItem_tuple (j:=j) (Q:=λr s'=>r=w/\EP X aa σ Q r s') pl (by lia) (by lia) (by rw[aX,<- hl];exact h1) (by simpa using ew) ⟨rfl,aE⟩) hs
theorem adT:IxR X alD:=by
 intro ar bn aa s σ H x y v u Q I rx ry h hs;obtain⟨z,i,c,rfl,rfl,hz,he,q⟩:=h;obtain⟨t,rfl⟩:=rx;obtain⟨t',rfl⟩:=ry;obtain⟨j,h1,h2,h3,h4,h5⟩:=Kz he;have hl:z.cps.toList.length=z.length:=by simp[Str.length]
 rw[hl]at h1 h4 h5;have hn:=uo;exact tail_any (typeIs_str s z t) slot_str_getitem.lookup (getItem_str (c:=c) (by
  have e1:decide (i < -(2^63:Int))=false:=Zp (by lia);have e2:decide (i>=2^63)=false:=Zp (by lia);rw[e1,e2,Bool.or_false]) (by rw[h1];simpa using h2) ⟨.str ⟨#[c]⟩,H,I.tok _,⟨_,rfl⟩,q⟩) hs
theorem RK(its:Δ)(n j:Nat)(u:Value):Obj.mapSeq (·.setIfInBounds j u) { cls:=.type "list",data:=.seq its.toArray n }={ cls:=.type "list",data:=.seq (its.set j u).toArray n }:=by
 simp[Obj.mapSeq]
theorem Inv.lst{aa:Γ}{σ:St}{H:Hp}{s:Shared}{p:Addr}{xs:Ε}(I:Inv X aa σ H s)(h:H p=some (.lst xs)) :
  ∃(its:Δ)(n:Nat),Vals xs its/\s.heap.get? p=some { cls:=.type "list",data:=.seq its.toArray n }/\xs.length<=sizeLine:=by
 obtain⟨z,its,n,r,e⟩:=I.hok p _ h;exact⟨its,n,r,e,z⟩
theorem Inv.lstUpd{aa:Γ}{σ:St}{H:Hp}{s:Shared}{p:Addr}{xs ys:Ε}{its its':Δ}{n n':Nat}{f:Obj->Obj}(I:Inv X aa σ H s)(h:H p=some (.lst xs))
 (ho:s.heap.get? p=some { cls:=.type "list",data:=.seq its.toArray n })(hf:f { cls:=.type "list",data:=.seq its.toArray n }={ cls:=.type "list",data:=.seq its'.toArray n' })(r:Vals ys its')(hz:ys.length<=sizeLine)(t:Nat) :
  Inv X aa σ (upd H p (.lst ys)) { s with heap:=s.heap.update p f,toks:=t }:=by
 have e:(s.heap.update p f).get? p=some { cls:=.type "list",data:=.seq its'.toArray n' }:=by
  rw[Heap.get?_update_self f ho (by rw[hf]<;>rfl),hf]
 refine I.write (x:=p) (e:=p) (by rw[h];trivial) (.inl rfl) (λb u hb q=>(Heap.get?_update_other _ _ (Ne.symm hb)).trans q) ⟨_,e⟩ ?_;exact⟨hz,its',n',r,e⟩
def ag3:V->V->V->Hp->(Hp->Prop)->Prop:=λo i v H Q=>∃p xs k j,o=.ref p/\i=.int k/\H p=some (.lst xs)/\ixN xs.length k=some j/\Q (upd H p (.lst (xs.set j v)))
theorem set_list:agq X ag3:=by
 intro aa s σ H o i v ov iv u Q I ro ri rv h;obtain⟨p,xs,k,j,rfl,rfl,hp,hj,q⟩:=h;cases ro;obtain⟨t,rfl⟩:=ri;obtain⟨its,n,r,ho,hz⟩:=I.lst hp;obtain⟨h1,h2,h3,h4⟩:=UJ hj;have hl:=r.length;have hn:=uo;have I':Inv X aa σ (upd H p (.lst (xs.set j v))) { s with heap:=s.heap.update p (Obj.mapSeq (·.setIfInBounds j u)) } :=
  I.lstUpd hp ho (RK its n j u) (r.set rv j) (by rw[VZ];exact hz) s.toks
 by_cases h0:0<=k
 .have hk:k.toNat=j:=by
   rw[seqIndex_of h0 h4]at h1;exact Option.some.inj h1
  exact PySem.W.ki_setAt ho h0 (by lia) (by rw[aX,<- hl];exact h4) (by rw[hk];exact⟨_,I',q⟩)
 .have hk:(k+(its.toArray.size:Int)).toNat=j:=by
   rw[seqIndex_neg (JU h0) h3]at h1;rw[aX,<- hl];exact Option.some.inj h1
  exact PySem.W.ki_setBack ho (JU h0) (by rw[aX,<- hl];exact h3) (by lia) (by rw[hk];exact⟨_,I',q⟩)
theorem Kq(lo hi:Option Int)(n:Nat):(sliceBounds lo hi none n).1=((HT.sIx n 0 lo:Nat):Int)/\(sliceBounds lo hi none n).2.1=((HT.sIx n n hi:Nat):Int)/\(sliceBounds lo hi none n).2.2=1:=by
 refine⟨?_,?_,rfl⟩
 .cases lo with
  |none=>simp[sliceBounds,HT.sIx]
  |some i =>
   simp only[sliceBounds,HT.sIx,Option.getD_none,show(1:Int)>0 by decide,if_true];by_cases h:i<0
   .simp only[h,if_true]<;>lia
   .simp only[h,if_false]<;>lia
 .cases hi with
  |none=>simp[sliceBounds,HT.sIx]
  |some i =>
   simp only[sliceBounds,HT.sIx,Option.getD_none,show(1:Int)>0 by decide,if_true];by_cases h:i<0
   .simp only[h,if_true]<;>lia
   .simp only[h,if_false]<;>lia
theorem Il(its:Δ)(lo hi:Option Int):slicePick its.toArray lo hi none=((its.drop (HT.sIx its.length 0 lo)).take (HT.sIx its.length its.length hi-HT.sIx its.length 0 lo)).toArray:=by
 obtain⟨h1,h2,h3⟩:=Kq lo hi its.toArray.size;unfold slicePick;rw[h1,h2,h3];simp only[sliceRange_one,pick_run,aX]<;>rfl
def alY(K:Frag):V->Option Int->Option Int->Hp->VK->Prop:=λx lo hi H Q=>∃a xs,x=.ref a/\SqL K H a xs/\∀p,H p=none->Q (.ref p) (upd H p (.lst (Wv xs lo hi)))
theorem acR:SlR X (alY X.K):=by
 intro aa s σ H x v vl vu lo hi sl Q I rx hs pl pu h;obtain⟨a,xs,rfl,hx,q⟩:=h;cases rx;obtain⟨its,r,ht,hz⟩:=I.list hx;have a8:=r.length;refine⟨"list",_,slot_list_getitem.lookup,ht.isList.typeIs,?_⟩;refine wpAny_getItem_list_slice ht.isList hs pl pu .none (by simp) ?_ (by rw[aX]<;>lia);rw[Il,<- a8];refine⟨.ref s.heap.objs.size,_,I.laid (t':=s.toks) (o:=.lst (Wv xs lo hi)) (λb ob q=>aH _ q) (aG _) ?_,rfl,q _ (I.hok.fresh (aG _))⟩;exact⟨aL (PB xs lo hi) hz,_,0,(r.drop (HT.sIx xs.length 0 lo)).take (HT.sIx xs.length xs.length hi-HT.sIx xs.length 0 lo),aW _ rfl⟩
noncomputable def eqV:V->V->Bool
 |.non,.non=>true
 |.bl a,.bl b=>a==b
 |.bl a,.int b=>(if a then 1 else 0)==b
 |.int a,.bl b=>a==(if b then 1 else 0)
 |.int a,.int b=>a==b
 |.str a,.str b=>a==b
 |_,_=>false
theorem Nr:h_ X (.builtin "len") (λxs H Q=>∃p ys,xs=[.ref p]/\(SqL X.K H p ys\/SqT X.K H p ys)/\Q (.int ys.length) H):=by
 intro aa s σ H xs us Q I r h;obtain⟨p,ys,rfl,hq,q⟩:=h;obtain⟨u,rfl,rx⟩:=vals1 r;cases rx;have hn:=uo;rcases hq with hq|hq
 .obtain⟨its,r',pl,hz⟩:=I.list hq;have a8:=r'.length;exact Calls.call_len_list pl.isList (by simp only[aX]<;>lia) ⟨.int ys.length,H,I.tok _,⟨s.toks+1,by rw[aX,a8]⟩,q⟩
 .obtain⟨its,r',pl,hz⟩:=I.tuple hq;have a8:=r'.length;exact len_tuple pl (by simp only[aX]<;>lia) ⟨.int ys.length,H,I.tok _,⟨s.toks+1,by rw[aX,a8]⟩,q⟩
theorem Nb:h_ X (.builtin "len") (λxs H Q=>∃z,xs=[.str z]/\z.length<=sizeLine/\Q (.int z.length) H):=by
 intro aa s σ H xs us Q I r h;obtain⟨z,rfl,hz,q⟩:=h;obtain⟨u,rfl,t,rfl⟩:=vals1 r;have hn:=uo;exact len_str (by lia) ⟨.int z.length,H,I.tok _,⟨_,rfl⟩,q⟩
theorem Nu:h_ X (.type "list") (λxs H Q=>∃p ys,xs=[.ref p]/\(SqL X.K H p ys\/SqT X.K H p ys)/\∀l,H l=none->Q (.ref l) (upd H l (.lst ys))):=by
 intro aa s σ H xs us Q I r h;obtain⟨p,ys,rfl,hq,q⟩:=h;obtain⟨u,rfl,rx⟩:=vals1 r;cases rx;have aE:∀(its:Δ),Vals ys its->ys.length<=sizeLine->∀(h':Heap)(c':Nat),(∀b o',s.heap.get? b=some o'->h'.get? b=some o') ->
   h'.get? s.heap.objs.size=some { cls:=.type "list",dict:=none,data:=.seq its.toArray c',slots:=#[] }->EP X aa σ Q (.ref s.heap.objs.size) { s with heap:=h' }:=λits r' hz h' c' kp e =>
  ⟨.ref s.heap.objs.size,_,I.laid (t':=s.toks) kp (aG _) (show dM X.prog X.w _ h' _ (.lst ys)from⟨hz,its,c',r',e⟩),rfl,q _ (I.hok.fresh (aG _))⟩
 rcases hq with hq|hq
 .obtain⟨its,r',pl,hz⟩:=I.list hq;have a8:=r'.length;obtain⟨o,ho,hc,n,hd⟩:=pl.isList;exact call_list_seq p (.inl rfl) ho hc hd (λh' c' kp e=>aE its r' hz h' c' kp e) (by simp only[aX]<;>lia)
 .obtain⟨its,r',pl,hz⟩:=I.tuple hq;have a8:=r'.length;obtain⟨o,ho,hc,n,hd⟩:=pl;exact call_list_seq p (.inr rfl) ho hc hd (λh' c' kp e=>aE its r' hz h' c' kp e) (by simp only[aX]<;>lia)
theorem I9:h_ X (.type "tuple") (λxs H Q=>∃p ys,xs=[.ref p]/\((SqL X.K H p ys/\∀l,H l=none->Q (.ref l) (upd H l (.tup ys)))\/(SqT X.K H p ys/\Q (.ref p) H))):=by
 intro aa s σ H xs us Q I r h;obtain⟨p,ys,rfl,h⟩:=h;obtain⟨u,rfl,rx⟩:=vals1 r;cases rx;rcases h with⟨hq,q⟩|⟨hq,q⟩
 .obtain⟨its,r',pl,hz⟩:=I.list hq;have a8:=r'.length;refine call_tuple_list pl.isList (λh' kp=>?_) (by simp only[aX]<;>lia);have I1:Inv X aa σ H { s with heap:=h' }:=I.kept (t':=s.toks) kp;have I2:Inv X aa σ (upd H h'.objs.size (.tup ys)) { s with heap:=h'.push { cls:=.type "tuple",data:=.seq its.toArray } } :=
   I1.laid (t':=s.toks) (λb o e=>aH _ e) (aG _) (show dM X.prog X.w _ _ _ (.tup ys)from⟨hz,its,r',IsTup.new _ _⟩)
  exact⟨.ref h'.objs.size,_,I2,rfl,q _ (I1.hok.fresh (aG _))⟩
 .obtain⟨its,r',pl,hz⟩:=I.tuple hq;exact call_tuple_same pl ⟨.ref p,H,I,rfl,q⟩
def tyV(K:Frag)(T:String)(x:V)(H:Hp):Prop:=match x with
 |.str _=>T="str"
 |.int _=>T="int"
 |.ref p=>(T="list"/\∃xs,SqL K H p xs)\/(T="tuple"/\∃o,K.lookup p=some o/\o.cls=.type "tuple"/\o.dict=none) \/
   (T="dict"/\(∃kvs,H p=some (.dK kvs)))\/(T="set"/\∃S n,H p=some (.set S n))
 |_=>False
theorem Yu{aa:Γ}{σ:St}{H:Hp}{s:Shared}{T:String}{x:V}{v:Value}(I:Inv X aa σ H s)(r:RelV x v)(ty:tyV X.K T x H) :
  s.TypeIs v T/\∀a,v=.ref a->∃ob,s.heap.get? a=some ob/\ob.dict=none:=by
 cases x with
 |str z =>
  obtain⟨t,rfl⟩:=r;cases(show T="str" from ty);exact⟨typeIs_str s z t,λ_ e=>nomatch e⟩
 |int i =>
  obtain⟨t,rfl⟩:=r;cases(show T="int" from ty);exact⟨typeIs_int s i t,λ_ e=>nomatch e⟩
 |ref p =>
  cases r;rcases ty with⟨rfl,xs,hq⟩|⟨rfl,o,hk,hc,hd⟩|⟨rfl,hk⟩|⟨rfl,S,n,hk⟩
  .obtain⟨its,_,pl,_⟩:=I.list hq;refine⟨pl.isList.typeIs,λa e=>?_⟩;cases e;obtain⟨o,n,e,c,hd,_⟩:=pl;exact⟨o,e,hd⟩
  .refine⟨⟨o,I.kIn p o hk,hc⟩,λa e=>?_⟩;cases e;exact⟨o,I.kIn _ o hk,hd⟩
  .have z:∃o,s.heap.get? p=some o/\o.ExactDict:=by
    obtain⟨kvs,hk⟩:=hk;obtain⟨_,_,_,_,o,_,_,e,ex,_⟩:=I.hok p _ hk;exact⟨o,e,ex⟩
   obtain⟨o,e,ex⟩:=z;refine⟨⟨o,e,ex.1⟩,λa e2=>?_⟩;cases e2;exact⟨o,e,ex.2.1⟩
  .obtain⟨o,_,_,_,e,ex,_⟩:=I.hok p _ hk;refine⟨⟨o,e,ex.1⟩,λa e2=>?_⟩;cases e2;exact⟨o,e,ex.2.1⟩
 |_=>exact False.elim ty
def ak5(K:Frag)(T:String)(r:V->Ε->Hp->VK->Prop)(to:TE):TE:=λσ H Q=>to σ H λx H1=>tyV K T x H1/\r x [] H1 Q
def tBM(K:Frag)(T:String)(r:V->Ε->Hp->VK->Prop)(to:TE)(t:TA):TE:=λσ H Q=>to σ H λx H1=>tyV K T x H1/\t σ H1 λxs H2=>r x xs H2 Q
variable{o e:Expr}{es:List Expr}{to:TE}{t:TA}{name:Str}{ai ag:Pos}{T id:String}{r:V->Ε->Hp->VK->Prop}
abbrev zw(a b:Pos):Prop:=(a.endLine==b.line)=true
theorem adJ(pa:PlainAttrs T)(slot:Slot T name id)(gX:typeOf (.builtin id)=pure (.type "method_descriptor"))(hm:MtR X id r)(ho:PE X o to)
 (fg:qB X o name:=by rfl)(fc:zw ai ag:=by rfl):PE X (.Call (.Attribute o name ai) [] [] ag) (ak5 X.K T r to):=by
 intro aa s σ H Q I h;refine wpAny_Call_method0_late fg fc (thn (ho aa s σ H _ I h) λv s1 hP=>?_);obtain⟨x,H1,I1,r1,ty,q1⟩:=hP;obtain⟨h1,h2⟩:=Yu I1 r1 ty;exact⟨T,id,pa,slot,gX,h1,h2,Calls.callWith_builtin rfl (PySem.evalArgs_none (hm aa s1 σ H1 x [] v [] Q I1 r1 .nil q1))⟩
theorem ac8(pa:PlainAttrs T)(slot:Slot T name id)(gX:typeOf (.builtin id)=pure (.type "method_descriptor"))(hm:MtR X id r)(ho:PE X o to)(ha:PA X (e::es) t)
 (fg:qB X o name:=by rfl)
 (mE:((backTo ag (starEach (e::es) X.env)).all (λx=>!x.1)&&(backToKw ag (keywordEach [] X.env)).all (λx=>x.1.isSome)
   && decide ((e::es).length+([] : List Keyword).length+(if([] : List Keyword).isEmpty then 0 else 1)<30))=true:=by rfl)
 (fc:zw ai ag:=by rfl)(hs:qo X e es:=by rfl)(g4:qh X ag es:=by rfl) :
  PE X (.Call (.Attribute o name ai) (e::es) [] ag) (tBM X.K T r to t):=by
 intro aa s σ H Q I h;refine wpAny_Call_method_late fg mE fc rfl (thn (ho aa s σ H _ I h) λv s1 hP=>?_);obtain⟨x,H1,I1,r1,ty,q1⟩:=hP;obtain⟨h1,h2⟩:=Yu I1 r1 ty;refine⟨T,id,pa,slot,gX,h1,h2,?_⟩;have hA:=ha ag aa s1 σ H1 _ I1 q1;rw[hs]at hA ⊢;refine Calls.callWith_builtin (by show(false || (backTo ag (starEach es X.env)).any (·.1))=false;rw[g4]<;>rfl) (Calls.evalArgs_plain ?_);exact thn hA λus s2 hP=>by obtain⟨vs,H2,I2,r2,q2⟩:=hP;exact hm aa s2 σ H2 x vs v us Q I2 r1 r2 q2

end
def MtM(X:Cx)(id:String)(r:V->Ε->Hp->VK->Prop):Prop :=
 ∀(aa:Γ)(s:Shared)(σ:St)(H:Hp)(x:V)(xs:Ε)(v:Value)(us:Δ)(Q:VK),Inv X aa σ H s->RelV x v->Vals xs us->r x xs H Q ->
  wpAny (model X.prog X.w) X.A (call (.builtin id) (v::us)) (EP X aa σ Q) X.xe s
theorem Vals.one:∀{x:V}{us:Δ},Vals [x] us->∃u,us=[u]/\RelV x u
 |_,_,.cons r .nil=>⟨_,rfl,r⟩
theorem Vals.two{x y:V}{us:Δ}(h:Vals [x,y] us):∃u v,us=[u,v]/\RelV x u/\RelV y v:=by
 cases h with|cons r t=>cases t with|cons q t=>cases t;exact⟨_,_,rfl,r,q⟩
theorem Vals.zero:∀{us:Δ},Vals [] us->us=[]
 |_,.nil=>rfl
theorem Vals.reverse{xs:Ε}{us:Δ}(h:Vals xs us):Vals xs.reverse us.reverse:=by
 induction h with
 |nil=>exact .nil
 |cons r t ih=>rw[List.reverse_cons,List.reverse_cons];exact Vals.append ih (.cons r .nil)
theorem Vals.rep{xs:Ε}{us:Δ}(h:Vals xs us):∀k:Nat,Vals (List.replicate k xs).flatten (List.replicate k us).flatten
 |0=>.nil
 |k+1=>by
  rw[List.replicate_succ,List.replicate_succ,List.flatten_cons,List.flatten_cons];exact Vals.append h (Vals.rep h k)
theorem foldl_rep(its:Δ):∀(k:Nat)(acc:Δ),
  List.foldl (λx1 x2=>x1++x2) acc.toArray (List.replicate k its.toArray)=(acc++(List.replicate k its).flatten).toArray
 |0,acc=>by simp
 |k+1,acc=>by
  have e:acc.toArray++its.toArray=(acc++its).toArray:=by simp
  have e2:(acc++its)++(List.replicate k its).flatten=acc++(List.replicate (k+1) its).flatten:=by
   rw[List.replicate_succ,List.flatten_cons,WZ]
  rw[<- e2,<- foldl_rep its k (acc++its),<- e,List.replicate_succ,List.foldl_cons]
section
variable{X:Cx}{aa:Γ}{σ:St}{H:Hp}{s:Shared}{l b:Addr}{xs ys zs:Ε}
theorem Inv.lset{its its':Δ}{n:Nat}{f:Array Value->Array Value}{t':Nat}(I:Inv X aa σ H s)(hH:H l=some (.lst xs))
 (e:s.heap.get? l=some { cls:=.type "list",data:=.seq its.toArray n })(hf:f its.toArray=its'.toArray)(hv:Vals ys its')(hz:ys.length<=sizeLine) :
  Inv X aa σ (upd H l (.lst ys)) { s with heap:=s.heap.update l (Obj.mapSeq f),toks:=t' }:=by
 have q:=PySem.IsL.update e f;rw[hf]at q;refine I.write (x:=l) (e:=l) (by rw[hH];exact trivial) (.inl rfl) (λb' u hb hu=>(Heap.get?_update_other s.heap (Obj.mapSeq f) (Ne.symm hb)).trans hu) ⟨_,q⟩ ?_;exact⟨hz,its',_,hv,q⟩
theorem Inv.lnew{its:Δ}{t':Nat}(I:Inv X aa σ H s)(hv:Vals ys its)(hz:ys.length<=sizeLine) :
  Inv X aa σ (upd H s.heap.objs.size (.lst ys)) { s with heap:=s.heap.push { cls:=.type "list",data:=.seq its.toArray },toks:=t' } :=
 I.laid (λ_ _ q=>aH _ q) (aG _) ⟨hz,its,0,hv,aW _ rfl⟩
theorem Inv.fresh(I:Inv X aa σ H s):H s.heap.objs.size=none:=I.hok.fresh (aG _)
theorem Inv.lstM(I:Inv X aa σ H s)(hH:H l=some (.lst xs)):xs.length<=sizeLine/\∃(its:Δ)(n:Nat),Vals xs its/\xs.length=its.length/\s.heap.get? l=some { cls:=.type "list",data:=.seq its.toArray n }:=by
 obtain⟨z,its,n,r,e⟩:=I.hok l _ hH;exact⟨z,its,n,r,r.length,e⟩
theorem ZF{n:Nat}(h:n<=sizeLine):Builtin.List.listTooLong n=false:=by
 unfold Builtin.List.listTooLong;exact Zp (UK h)
end
section
variable{X:Cx}
def ach:V->Ε->Hp->VK->Prop:=λx vs H Q=>∃l xs y,x=.ref l/\vs=[y]/\H l=some (.lst xs)/\xs.length<sizeLine/\Q .non (upd H l (.lst (xs++[y])))
theorem JG:MtM X "list.append" ach:=by
 intro aa s σ H x vs v us Q I rx rv h;obtain⟨l,xs,y,rfl,rfl,hH,hz,q⟩:=h;cases rx;obtain⟨u,rfl,ru⟩:=rv.one;obtain⟨z,its,n,r,hl,e⟩:=I.lstM hH;refine call_meets F.slot_list_append ⟨_,e,rfl⟩ F.entry_list_append (F.args_list_append_2 _ _) (PySem.list_append l its.toArray n u (by rw[aX];lia)) ⟨e,?_⟩;refine⟨.non,_,I.lset (its':=its++[u]) hH e (by simp) (r.append (.cons ru .nil)) ?_,rfl,q⟩;rw[aA,List.length_singleton];exact hz
def XS:V->Ε->Hp->VK->Prop:=λx vs H Q=>∃l xs,x=.ref l/\vs=[]/\H l=some (.lst xs)/\Q .non (upd H l (.lst xs.reverse))
theorem Sd:MtM X "list.reverse" XS:=by
 intro aa s σ H x vs v us Q I rx rv h;obtain⟨l,xs,rfl,rfl,hH,q⟩:=h;cases rx;have hus:=rv.zero;subst hus;obtain⟨z,its,n,r,hl,e⟩:=I.lstM hH;refine call_meets F.slot_list_reverse ⟨_,e,rfl⟩ F.entry_list_reverse (F.args_list_reverse_1 _) (AutoSeq1.list_reverse_list_0 l its.toArray n (by rw[aX];lia)) ⟨e,?_⟩;refine⟨.non,_,I.lset (its':=its.reverse) hH e (by simp) r.reverse ?_,rfl,q⟩;rw[List.length_reverse];omega
def amL:R2:=λx y H Q=>∃l b xs zs,x=.ref l/\y=.ref b/\H l=some (.lst xs)/\H b=some (.lst zs)/\xs.length+zs.length<=sizeLine/\∀p,H p=none->Q (.ref p) (upd H p (.lst (xs++zs)))
theorem adY:OpR X (binaryOp .Add) amL:=by
 intro aa s σ H x y v u Q I rx ry h;obtain⟨l,b,xs,zs,rfl,rfl,hH,hB,hz,q⟩:=h;cases rx;cases ry;obtain⟨z,its,n,r,hl,e⟩:=I.lstM hH;obtain⟨z2,i5,n2,r2,hl2,e2⟩:=I.lstM hB;refine PySem.P.add_list e e2 ?_ (by rw[aX,aX];lia);have ea:its.toArray++i5.toArray=(its++i5).toArray:=by simp
 rw[ea];exact⟨.ref _,_,I.lnew (t':=s.toks) (r.append r2) (by rw[aA];omega),rfl,q _ I.fresh⟩
def akU:R2:=λx y H Q=>∃l k xs,x=.ref l/\y=.int k/\H l=some (.lst xs)/\-(2^63)<=k/\k<2^63/\xs.length*k.toNat<=sizeLine /\
 ∀p,H p=none->Q (.ref p) (upd H p (.lst (List.replicate k.toNat xs).flatten))
theorem len_rep{α:Type}(xs:List α)(k:Nat):(List.replicate k xs).flatten.length=k*xs.length:=by
 induction k with
 |zero=>simp
 |succ k ih=>rw[List.replicate_succ,List.flatten_cons,aA,ih,Nat.succ_mul,Nat.add_comm]
theorem afB:OpR X (binaryOp .Mult) akU:=by
 intro aa s σ H x y v u Q I rx ry h;obtain⟨l,k,xs,rfl,rfl,hH,h1,h2,hz,q⟩:=h;cases rx;obtain⟨t,rfl⟩:=ry;obtain⟨z,its,n,r,hl,e⟩:=I.lstM hH;have a8:its.toArray.size*k.toNat<=sizeLine:=by rw[aX,<- hl];exact hz
 have nh:¬its.toArray.size*k.toNat>(2^63-1)/8:=by
  have:(sizeLine:Nat)<=(2^63-1)/8:=by decide
  lia
 have mB:¬(!Builtin.List.listFitsIndex k)=true:=by
  rw[fitsIndex_both h1 h2];exact bh
 have jp:¬Builtin.List.listTooLong (its.toArray.size*k.toNat)=true:=by
  rw[ZF a8];exact bh
 have mi:List.foldl (λx1 x2=>x1++x2) #[] (List.replicate (if its.toArray.isEmpty=true then 0 else k.toNat) its.toArray)=(List.replicate k.toNat its).flatten.toArray:=by
  have f0:∀m:Nat,List.foldl (λx1 x2=>x1++x2) #[] (List.replicate m its.toArray)=(List.replicate m its).flatten.toArray:=λm=>by
   have:=foldl_rep its m [];rw[List.nil_append]at this;exact this
  rw[f0];cases its with
  |nil=>simp
  |cons a r'=>rw[ZZ (by simp)]
 refine wpAny_binaryOp_repeat_ref (T:="list") (U:="int") (by decide) ⟨_,e,rfl⟩ (λs'=>typeIs_int s' k t) noFill_list_mul F.fills_int_mul F.slot_int_rmul repeat_list F.slot_int_index.lookup
  (call_meets F.slot_int_rmul (typeIs_int s k t) F.entry_int_rmul (F.args_int_rmul_2 _ _) (int___rmul___int_list k t l its.toArray n)
   ⟨e,rfl,⟨_,e,rfl⟩,call_meets F.slot_list_mul ⟨_,e,rfl⟩ F.entry_list_mul (F.args_list_mul_2 _ _) (AutoListH.list___mul___list_int_3 l its.toArray n k t mB nh jp) ⟨e,?_⟩⟩)
 rw[mi];exact⟨.ref _,_,I.lnew (t':=s.toks) (r.rep k.toNat) (by rw[len_rep,Nat.mul_comm];exact hz),rfl,q _ I.fresh⟩
end
end L2
namespace Att
open PySem PySem.W PySem.Calls PyProof.Rows
theorem Dr{P:Params}{h:Heap} : ∀(ns:List Int)(vs:Δ),WellAll P h vs (ns.map WData.int)->IntsAre vs ns:=by
 intro ns
 induction ns with
 |nil =>
  intro vs w;rw[List.map_nil]at w;cases w;exact .nil
 |cons n ns ih =>
  intro vs w;rw[List.map_cons]at w;cases w with
  |cons a b =>
   cases a;exact .cons _ _ (ih _ b)
theorem Wg{l:OpenLaw}{n:Nat}(hn:l.most=some n){P:Params}{h:Heap}{args:List WData}{gz:Δ}
 (eJ:l.row.toRowW.claim.pre args=true)(lI:WellAll P h gz args) :
  ∃a vs ns,gz=[Value.ref a]/\args=[WData.list (ns.map WData.int)]/\h.get? a=some { cls:=.type "list",data:=.seq vs.toArray }/\IntsAre vs ns/\ns.length<=n:=by
 have gh:WShape.hasAll [] args [.list .int]=true:=(pre_splitW eJ).1;have hc:l.pre.holds [] { args:=args }=true:=(pre_splitW eJ).2;obtain⟨d,r,rfl,h1,h2⟩:=hasAllW_cons gh;obtain rfl:=hasAllW_nil h2;obtain⟨xs,rfl,h3⟩:=hasW_list h1;obtain⟨ns,rfl⟩:=items_int h3;have a8:ns.length<=n:=by
  unfold OpenLaw.pre at hc;have h4:(WTm.not (.lt (.lit (.int (n:Int))) (.len (.arg 0)))).holds [] { args:=[.list (ns.map .int)] }=true:=by
   have h4:=(holds_andW hc).1;rw[hn]at h4;exact h4
  have h5:=condW_of h4 (w_not (w_lt w_lit (w_len_list (w_arg rfl))));rw[ak]at h5;refine Up λq=>?_;have q':(n:Int)<((ns.length:Nat):Int):=by omega
  first
   |(rw[Zs q']at h5;exact absurd h5 (by decide))
   |(simp at h5;omega)
 cases lI with
 |cons w1 w2 =>
  cases w2;cases w1 with
  |list ho h7=>exact⟨_,_,ns,rfl,rfl,ho,Dr ns _ h7,a8⟩
theorem V3(l:OpenLaw)(args:List WData):l.row.toRowW.claim.post args (.bool true) args=true :=
 postW_of (r:=l.row.toRowW) (X:=(true==true))
  (show WShape.has [] (.bool true) .bool=true by first|rfl|decide|simp[WShape.has,WShape.arms,WShape.armsAll])
  (show(WTm.eq .res (.lit (.bool true))).value [] { args:=args,res:=some (.bool true),after:=args }=some (.bool (true==true))from w_eq_bool (w_res rfl) w_lit) rfl
theorem PJ{l:OpenLaw}{n:Nat}{q:Program}{loose:Θ}{XP:(Str->Ψ)->Heap->Prop}{YP:World->Heap->Prop}{d:DefRec}
 (hn:l.most=some n)(jS:d.params.defaults=[])
 (call:∀(w:World)(s₀ s₁:Shared)(mg mb:Str->Ψ)(fa:Addr)(o:Obj)(pm cd bP:Value)(a:Addr)(vs:Δ)(ns:List Int),
   Ground q loose [] XP w s₀ mg mb s₁.heap->YP w s₁.heap ->
   s₁.heap.get? fa=some o->o.data=.func (docDef d.name d.params d.body d.scope pm cd bP)->s₁.heap.CodeRec cd d.name->mg d.name=some (.ref fa) ->
   s₁.heap.get? a=some { cls:=.type "list",data:=.seq vs.toArray }->IntsAre vs ns->ns.length<=n->s₁.gens = #[] ->
   codeAny (model l.prog w) callerA (.call (.ref fa) ⟨[.ref a],[]⟩) (λr s'=>r=.ok (.ret (.bool true))/\OldK s₁.heap s'.heap/\s'.os=s₁.os/\AllBare s'.gens) s₁) :
  WalkO q loose XP YP l.row.toRowW d [] (λf vs=>PySem.call f vs):=by
 intro w s₀ s₁ mg mb G Y fa o pm cd bP dV kV ho hd a9 hD gp hg args gz as eJ hlay hrd lI hlo;obtain rfl:dV=.none:=Dflts.none hD jS;obtain rfl:kV=.none:=Dflts.noKw hD;obtain⟨a,vs,ns,rfl,rfl,g5,fe,a8⟩:=Wg hn eJ lI;refine enter_call (codeAny_mono (call w s₀ s₁ mg mb fa o pm cd bP a vs ns G Y ho (fd_plain hd) a9 gp g5 fe a8 hg) λr s' hq=>?_);obtain⟨rfl,h2,h3,h4⟩:=hq;exact⟨.inl ⟨.bool true,.bool true,[],rfl,λ_=>rfl,.bool true,V3 l _,λ_=>⟨List.Pairwise.nil,λ_ hm=>(nomatch hm)⟩⟩,h2,h3,h4⟩
end Att
namespace L2
open PySem PySem.Spec PyProof.Rows
theorem BR:∀{vs:Δ}{ns:List Int},IntsAre vs ns->Vals (ns.map V.int) vs
 |_,_,.nil=>.nil
 |_,_,.cons n t h=>.cons ⟨t,rfl⟩ (BR h)
def Only(H:Hp):Prop:=∀b,H b=none\/∃o xs,H b=some (.frz o (.lst xs))
theorem Yr{P:Program}{w:World}{K:Frag}{mg mb:Str->Ψ}{CX:CXT}{k:Nat}{fa a:Addr}{fd:FuncData}{x:Str}{sp:Sp}{s₁:Shared}{vs:Δ}{ns:List Int}
 (KX:K.In s₁.heap)(eh:s₁.heap.Ns mainGlobals mg)(hb:s₁.heap.Ns builtinsNs mb)(hbb:∀x:Str,x≠"__name__"->mb x=bootBuiltins x)(mn:s₁.heap.NoLimit)(hg:s₁.gens = #[])
 (ha:s₁.heap.get? a=some { cls:=.type "list",data:=.seq vs.toArray })(hi:IntsAre vs ns)(hl:ns.length<=sizeLine)(hr:dF k callerA)
 (F:∀base:Heap,K.In base->base.Ns mainGlobals mg->b_ P w K mg base CX k fa fd [x] sp)(j3:∀(s:Shared)(u:Value),BindsTo s fd ⟨[u],[]⟩ [(x,u)])
 (eM:∀H:Hp,Only H->SqL K H a (ns.map V.int)->sp [.ref a] H (λv _=>v=.bl true) λ_ _ _=>False)
 (nN:∀H e s',CX [] H s₁ (λ_ _ _=>False) e s'->False) :
  codeAny (model P w) callerA (.call (.ref fa) ⟨[.ref a],[]⟩) (λr s'=>r=.ok (.ret (.bool true))/\OldK s₁.heap s'.heap/\s'.os=s₁.os/\AllBare s'.gens) s₁:=by
 have rv:=BR hi;have k9:=hi.length

 have core:∀H:Hp,Only H->SqL K H a (ns.map V.int)->HOk P w H s₁.heap->(∀b,H b≠none->b=a)->(H a≠none->K.lookup a=none) ->
   codeAny (model P w) callerA (.call (.ref fa) ⟨[.ref a],[]⟩) (λr s'=>r=.ok (.ret (.bool true))/\OldK s₁.heap s'.heap/\s'.os=s₁.os/\AllBare s'.gens) s₁:=by
  intro H hO hS hok hA hK;have eC:∀{b:Addr}{o:Obj},s₁.heap.get? b=some o->H b=none->(MJ s₁.heap H).get? b=some o:=λe n=>aay e n;have iP:∀{b:Addr}{o:Obj}{es:Array DictEntry}{ep:Nat},s₁.heap.get? b=some o->o.data=.dict es ep->H b=none:=λ{b o es ep}e d=>by
   cases q:H b with
   |none=>rfl
   |some u =>
    have e':b=a:=hA b (by rw[q];simp);subst e';rw[ha]at e;cases e;have d':Data.seq vs.toArray _=Data.dict es ep:=d;cases d'
  have kf:∀{b:Addr}{m:Str->Ψ},s₁.heap.Ns b m->(MJ s₁.heap H).Ns b m:=λ{b m}⟨o,es,ep,e,d,r⟩=>⟨o,es,ep,eC e (iP e d),d,r⟩;have hKb:K.In (MJ s₁.heap H):=λb o e=>eC (KX b o e) (by
   cases q:H b with
   |none=>rfl
   |some u =>
    have e':b=a:=hA b (by rw[q];simp);subst e';rw[hK (by rw[q];simp)]at e;cases e)
  have hM:Mod K mg (MJ s₁.heap H):=⟨hKb,kf eh,⟨mb,kf hb,hbb⟩,let⟨mc,h1,h2⟩:=mn;⟨mc,kf h1,h2⟩⟩;have e0:O9 P w K mg (MJ s₁.heap H) callerA [] s₁ H:=⟨rfl,hM,λb o e=>acP e,WH (VB _ _),trivial,λb hb=>absurd (show b∈([] : Φ)from hb) (by simp),hok,.of_eq hg⟩;refine codeAny_mono ((F _ hKb (kf eh)).run callerA [] s₁ H ⟨[.ref a],[]⟩ [.ref a] [.ref a] _ _ hr e0 (j3 s₁ (.ref a)) (.cons rfl .nil) (eM H hO hS)) λr s' h=>?_;cases r with
  |error e=>exact(nN H e s' h).elim
  |ok fl =>
   cases fl with
   |next=>exact False.elim h
   |brk=>exact False.elim h
   |cont=>exact False.elim h
   |ret u =>
    obtain⟨v,H',os,bare,un,hok',r',q⟩:=h;have q':v=.bl true:=q;subst q';obtain rfl:u=Value.bool true:=r';refine⟨rfl,OldK.of_keep λb o e=>?_,os,bare⟩;cases q:H b with
    |none=>exact un.keep b o e q (by intro z;exact absurd (show b∈([] : Φ)from z) (by simp)) (by simp)
    |some u =>
     rcases hO b with z|⟨ob,xs,z⟩
     .rw[q]at z;cases z
     .have z2:=un.frzs b ob _ z;obtain⟨e1,_⟩:=hok b _ z;obtain⟨e2,_⟩:=hok' b _ z2;rw[e]at e1;cases e1;exact e2
 cases hk:K.lookup a with
 |some o =>

  have e:=KX a o hk;rw[ha]at e;cases e;refine core (λ_=>none) (λ_=>.inl rfl) (.inr ⟨_,vs.toArray,_,hk,rfl,rfl,rfl,by rw[aX,k9];exact hl,by simpa using rv⟩) (λb u z=>by have z':(none:Option HO)=some u:=z;cases z') (λb z=>absurd rfl z) λz=>absurd rfl z
 |none =>
  refine core (λb=>if b=a then some (.frz { cls:=.type "list",data:=.seq vs.toArray } (.lst (ns.map V.int)))else none) (λb=>?_) (.inl (.inr ⟨{ cls:=.type "list",data:=.seq vs.toArray },ZY rfl⟩)) (λb u z=>?_) (λb z=>?_) λ_=>hk
  .by_cases hb:b=a
   .exact .inr ⟨_,_,ZY hb⟩
   .exact .inl (ZZ hb)
  .by_cases hb:b=a
   .have z':=(ZY hb).symm.trans z;cases z';subst hb;exact⟨ha,by rw[ak];exact hl,vs,_,rv,ha⟩
   .have z':=(ZZ hb).symm.trans z;cases z'
  .by_cases hb:b=a
   .exact hb
   .exact absurd (ZZ hb) z
noncomputable abbrev KOf{K:Frag}{h:Heap}(_:K.In h):Frag:=K
theorem U9{l:PySem.W.OpenLaw}{n k:Nat}{q:Program}{loose:Θ}{XP:(Str->Ψ)->Heap->Prop}{YP:World->Heap->Prop}{d:DefRec}{K:Params->Frag}{CX:World->CXT}{sp:World->Sp}{x:Str}
 (hn:l.most=some n)(im:n<=sizeLine)(jS:d.params.defaults=[])(hr:dF k callerA)
 (hY:∀(w:World)(h:Heap),YP w h->(K w.params).In h)
 (F:∀(w:World)(mg:Str->Ψ)(fa:Addr)(h:Heap),(K w.params).In h->h.Ns mainGlobals mg->mg d.name=some (.ref fa) ->
   ∃fd:FuncData,(∀(s:Shared)(u:Value),BindsTo s fd ⟨[u],[]⟩ [(x,u)]) /\
    ∀base:Heap,(K w.params).In base->base.Ns mainGlobals mg->b_ l.prog w (K w.params) mg base (CX w) k fa fd [x] (sp w))
 (eM:∀(w:World)(H:Hp)(a:Addr)(ns:List Int),ns.length<=n->Only H->SqL (K w.params) H a (ns.map V.int)->sp w [.ref a] H (λv _=>v=.bl true) λ_ _ _=>False)
 (nN:∀(w:World)(H:Hp)(s:Shared)(e:Value)(s':Shared),CX w [] H s (λ_ _ _=>False) e s'->False) :
  PySem.W.WalkO q loose XP YP l.row.toRowW d [] (λf vs=>PySem.call f vs):=by
 refine Att.PJ hn jS λw s₀ s₁ mg mb fa o pm cd bP a vs ns G Y ho hd a9 gp g5 fe a8 hg=>?_;have KX:=hY w _ Y;obtain⟨fd,hb,hF⟩:=F w mg fa _ KX G.T.g gp;exact Yr KX G.T.g G.T.b G.T.builtins G.T.nolimit hg g5 fe (aL a8 im) hr hF hb (λH hO hS=>eM w H a ns a8 hO hS) λH e s'=>nN w H s₁ e s'
end L2

namespace L2
open PySem PySem.Spec PyProof.Rows
abbrev CX0:CXT:=λ_ _ _ _ _ _=>False
abbrev E0:XK:=λ_ _ _=>False
theorem JK{X:Cx} : Passes CX0 X E0:=λ_ _ _ _ _ _ _ h=>h.elim
structure Fun(K:Frag)(x af:Str)(st:Stmt)(f:Addr)(fd:FuncData):Prop where
 ex:∃(oc:Value)(od:Ω)(kV bP pm:Value)(an:Ω)(ah ct:Value)(dq:Array (Ψ)),
  fd=PySem.W.fnOf x af (iC st) (dH st) (bF st) .none kV bP pm an ah ct/\K.lookup f=some ⟨oc,od,.func fd,dq⟩/\codeIn K ah af=true
 kp:keepIn K (.ref f)=true
section
variable{P:Program}{w:World}{K:Frag}{mg:Str->Ψ}{base:Heap}
theorem Fun.ok{x af:Str}{st:Stmt}{f:Addr}{fd:FuncData}{N ps:Θ}{k:Nat}{sp:Sp}(F:Fun K x af st f fd)(S:bK N ps (bF st))(len:∀vs H Q E,sp vs H Q E->vs.length=ps.length)
 (be:∀(ah:Value)(A:Around)(outer:List Env)(s:Shared)(H:Hp)(vs:Ε)(Q:VK)(E:XK),dF k (A.deeper (envOfC af (bF st) s.heap.objs.size f ah))->sp vs H Q E ->
   ∃t,PSs (zR CX0 P w K mg base N af (bF st) f ah A outer s H E).nox (dH st) t/\t { nx:=λ_ H'=>Q .non H',rt:=Q } (start N vs) H):b_ P w K mg base CX0 (k+1) f fd ps sp:=by
 obtain⟨oc,od,kV,bP,pm,an,ah,ct,dq,rfl,lk,a9⟩:=F.ex;refine acY lk a9 S len λA outer s H vs Q E hr eM=>?_;obtain⟨t,h,q⟩:=be ah A outer s H vs Q E hr eM;exact⟨t,h.nox,q⟩
theorem XM{x af:Str}{st:Stmt}{f:Addr}{oc:Value}{od an:Ω}{dq:Array (Ψ)}{kV bP pm ah ct:Value}(l:K.lookup f=some ⟨oc,od,.func (PySem.W.fnOf x af (iC st) (dH st) (bF st) .none kV bP pm an ah ct),dq⟩)
 (c:codeIn K ah af=true)(k:keepIn K (.ref f)=true):Fun K x af st f (PySem.W.fnOf x af (iC st) (dH st) (bF st) .none kV bP pm an ah ct):=⟨⟨oc,od,kV,bP,pm,an,ah,ct,dq,rfl,l,c⟩,k⟩
end
theorem xH{A:Around}{k:Nat}(hr:dF k A):A.units+1<cLine:=Y3 (Nat.add_le_add_left (by decide:1<=64) _) hr.units
section
variable{X:Cx}
noncomputable def qF(sc:Scope)(x:Str):Bool:=(sc.names.lookup x).any λk=>k == .local || k == .cell || k == .free
theorem afs{sc:Scope}{x:Str}(h:qF sc x=true):Vis sc x:=by
 unfold qF at h;unfold Vis;cases e:sc.names.lookup x with
 |none=>rw[e]at h;cases h
 |some k=>rw[e]at h;cases k<;>first|exact .inl rfl|exact .inr (.inl rfl)|exact .inr (.inr rfl)|cases h
theorem pv(i:Nat){x:Str}{pos:Pos}(hN:X.N[i]?=some x:=by rfl)(hv:qF X.env.scope x=true:=by rfl)(hd:qk x:=by decide)
 (a9:qf x:=by decide):PE X (.Name x pos) (akq i):=adS hN (afs hv) hd a9
end
theorem aml{A B:Prop}(h:B):if false=true then A else B:=by
 rw[ZZ bh];exact h
theorem akF{A B:Prop}(h:A):if true=true then A else B:=by
 rw[ZY rfl];exact h
def Same(H H':Hp):Prop:=∀b o,H b=some o->H' b=some o
theorem Same.refl(H:Hp):Same H H:=λ_ _ h=>h
theorem Same.trans{H H1 H2:Hp}(a:Same H H1)(b:Same H1 H2):Same H H2:=λc o h=>b c o (a c o h)
theorem Same.free{H H':Hp}(e:Same H H'){l:Addr}(h:H' l=Option.none):H l=Option.none:=by
 cases q:H l with
 |none=>rfl
 |some o =>
  rw[e l o q]at h;cases h
theorem Same.seq{K:Frag}{H H':Hp}{a:Addr}{xs:Ε}(e:Same H H')(h:SqL K H a xs):SqL K H' a xs:=by
 rcases h with(h|⟨o,h⟩)|h
 .exact .inl (.inl (e _ _ h))
 .exact .inl (.inr ⟨o,e _ _ h⟩)
 .exact .inr h
def Bd(i:Int):Prop:=i.natAbs<2^8000
theorem Bd.log2{i:Int}(h:Bd i):i.natAbs.log2<8000:=by
 by_cases h0:i.natAbs=0
 .rw[h0,Nat.log2_zero];exact U2 _
 .exact(Nat.log2_lt h0).mpr h
theorem Bd.bits{i:Int}(h:Bd i):Builtin.Int.intBits i<=2^20:=by
 have e:(2:Nat)^20=1048576:=by decide
 have:=h.log2;unfold Builtin.Int.intBits;split
 .exact aZ _
 .lia
section
variable{X:Cx}
theorem aa7:OpR X (binaryOp .Mult) (rI (λi j=>Bd i/\Bd j) λi j=>.int (i*j)):=opI λ_ _ _ _ _ _ _ hc q=>mul_int q (.of_bits hc.1.bits hc.2.bits)
theorem YG:OpR X (binaryOp .FloorDiv) (rI (λ_ j=>j≠0/\Bd j) λi j=>.int (i.fdiv j)):=opI λ_ _ _ _ _ _ _ hc q=>floordiv_int hc.1 q (.inl (PyProof.noPylong_of_log2 (by have:=hc.2.log2;exact Ts this (by decide))))
theorem Qi:h_ X (.builtin "isinstance") (λxs H Q=>∃x c cv t b,xs=[x,c]/\((∃T,c=.ty T/\cv=Value.type T)\/∃C,c=.ref C/\cv=Value.ref C)/\Cj X.K H x t/\kitOne X.K t cv=some b/\Q (.bl b) H):=by
 intro aa s σ H xs us Q I r h;obtain⟨x,c,cv,t,b,rfl,rc,ty,e,q⟩:=h;obtain⟨u,v,rfl,ru,rv⟩:=r.two;have e2:v=cv:=by
  rcases rc with⟨T,rfl,rfl⟩|⟨T,rfl,rfl⟩
  .exact rv
  .exact rv
 subst e2;exact Wc I ru ty e λtk=>⟨.bl b,H,I.tok _,rfl,q⟩
theorem Qp:h_ X (.builtin "sorted") (λxs H Q=>∃l ns,xs=[.ref l]/\SqL X.K H l (ns.map V.int)/\ns.length<64/\∀(ms:List Int)p,H p=none->ms.Perm ns->ms.Pairwise (· <= ·)->Q (.ref p) (upd H p (.lst (ms.map V.int)))):=by
 intro aa s σ H xs us Q I r h;obtain⟨l,ns,rfl,hl,h64,q⟩:=h;obtain⟨u,rfl,ru⟩:=r.one;cases ru;obtain⟨its,rv,p,hz⟩:=I.list hl;have hI:=intsAre_of rv;have a8:its.length=ns.length:=by have:=rv.length;simpa using this.symm
 refine sorted_ints (vs:=its) p.isList hI (Y3 (WH a8) h64) λout ns' a1 a2 a3=>?_;obtain⟨e,he⟩:=sortedAll_at s.heap its out;have du:H (s.heap.objs.size+1)=none:=I.hok.fresh (Xs _);refine⟨.ref _,_,I.laid (a:=s.heap.objs.size+1) (o:=.lst (ns'.map V.int)) (t':=s.toks) (λb u e=>sortedAll_old e) (Xs _) ?_,rfl,q ns' _ du a2 a3⟩;refine⟨?_,out.toList,e,BR a1,he⟩;rw[ak,a2.length_eq];rw[ak]at hz;exact hz
end
section
variable{prog:Program}{w:World}{A:Around}{E:Β}{s:Shared}
theorem JX{it t:Addr}{items:Array Value}(g6:t≠it):∀(n i:Nat)(s:Shared)(Q:Δ->Shared->Prop),s.heap.IsListIter it t i->PlainL s.heap t items->i+n<=items.size ->
  (∀h',h'.IsListIter it t (i+n)->Heap.SameBut it s.heap h'->Q ((items.toList.drop i).take n) { s with heap:=h' })->wpAny (model prog w) A (draw (.ref it) n) Q E s
 |0,i,s,Q,hit,_,_,hQ=>by
  show wpAny _ _ (pure []) Q E s;exact ZT (by simpa using hQ s.heap hit (Heap.SameBut.refl ..))
 |n+1,i,s,Q,hit,ht,hle,hQ=>by
  have eK:i<items.size:=by lia
  show wpAny _ _ (pyNext (.ref it) >>= _) Q E s;refine ZU (wpAny_pyNext_list_item hit ht.isList (x:=items[i]) (by simp[eK]) λh₁ hG i7=>?_);have lT:PlainL h₁ t items:=by
   obtain⟨o,k,e,r⟩:=ht;exact⟨o,k,(i7.2 t g6).trans e,r⟩
  refine ZU (wpAny_holding (JX g6 n (i+1) _ _ hG lT (by lia) λh₂ mr hs₂=>ZT ?_));have hd:items.toList.drop i=items[i]::items.toList.drop (i+1):=by simp[QP,eK]
  have:=hQ h₂ (by rw[show i+(n+1)=i+1+n by lia];exact mr) (i7.trans hs₂);rw[hd,List.take_succ_cons]at this;exact this
theorem BK{t:Addr}{items:Array Value}{Q:Δ->Shared->Prop}(hh:A.handled=none)(ht:PlainL s.heap t items)
 (hQ:∀h',Heap.ExtBut s.heap.objs.size s.heap h'->Q items.toList { s with heap:=h' }):wpAny (model prog w) A (unpackItems (.ref t) items.size none) Q E s:=by
 have eK:t≠s.heap.objs.size:=by obtain⟨o,_,ho,_⟩:=ht;exact aQ (aK ho)
 unfold unpackItems;refine ZU ?_
 .unfold notIterableAtAll;refine ZU (wpAny_specialOf ht.isList.typeIs slot_list_iter.lookup ?_);refine ZT ?_;simp only[XW,if_false];refine ZU (wpAny_holding (wpAny_pyIter_list ht.isList ?_));have ht0:PlainL (s.heap.push { cls:=.type "list_iterator",data:=.fields #[.ref t,.int 0 0] }) t items:=by
   obtain⟨o,k,e,r⟩:=ht;exact⟨o,k,aH _ e,r⟩
  refine ZU (wpAny_holding (JX eK items.size 0 _ _ ⟨_,aW _ rfl,rfl,rfl⟩ ht0 (by lia) λh₁ hG i7=>?_));have h7:List.take items.size (List.drop 0 items.toList)=items.toList:=by
   rw[List.drop_zero];exact Zzz (by simp)
  rw[h7];rw[ZZ (by simp)];have lT:PlainL h₁ t items:=by
   obtain⟨o,k,e,r⟩:=ht0;exact⟨o,k,(i7.2 t eK).trans e,r⟩
  refine ZU (wpAny_holding (wpAny_pyNext_list_end hh hG lT.isList (by simp) λh₂ he₂=>?_));simp only[Option.isSome_none,XW,if_false];refine ZT (hQ h₂ λb o hb e=>he₂ b o hb (i7.extBut b o hb (aH _ e)))
theorem Bj{env:Env}{b6:List Expr}{x1}{pos:Pos}{t:Addr}{items:Array Value}{Q:Unit->Shared->Prop}(hh:A.handled=none)(ht:PlainL s.heap t items)
 (hn:(assignEach b6 env).length=items.size)(i8:(assignEach b6 env).findIdx? (·.1)=none)
 (h:∀h',Heap.ExtBut s.heap.objs.size s.heap h'->wpAny (model prog w) A (assignInOrder ((assignEach b6 env).map (·.2)) items.toList) Q E { s with heap:=h' }) :
  wpAny (model prog w) A (assign (.Tuple b6 x1 pos) env (.ref t)) Q E s:=by
 rw[assign_Tuple];refine ZU (wpAny_standAt ?_);unfold unpack;rw[hn,i8];exact ZU (wpAny_holding (BK hh ht h))
end
section
variable{X:Cx}{pos:Pos}
def ags(K:Frag)(n:Nat)(t:TGs):TG:=λv σ H Q=>∃a xs,v=.ref a/\SqL K H a xs/\xs.length=n/\t xs σ H Q
theorem abB{es:List Expr}{k:Nat}{t:TGs}{n:Nat}(hc:X.calm=true)(h:PGs X es t)
 (hn:(assignEach es X.env).length=n:=by rfl)(bE:zb X es:=by rfl):PG X (.Tuple es k pos) (ags X.K n t):=by
 intro aa s σ H v u Q I r hw;obtain⟨a,xs,e1,hq,hl,hw⟩:=hw;subst e1;cases r;obtain⟨its,rv,ht,hz⟩:=I.list hq;refine Bj (I.ok.hd hc) ht (by simp[hn,<- hl,rv.length]) bE λh' hx=>?_;have I1:Inv X aa σ H { s with heap:=h' }:=I.kept (t':=s.toks) λb o e=>hx b o (aQ (aK e)) e;exact h aa _ σ H xs _ Q I1 (by simpa using rv) hw
end
theorem Same.upd{H:Hp}{p:Addr}{o:HO}(hp:H p=none):Same H (upd H p o):=λb u e=>by
 rw[bR (ju e hp)];exact e
section
variable{X:Cx}
theorem IxR.imp{r r':R2}(h:IxR X r)(i:∀x y H Q,r' x y H Q->r x y H Q):IxR X r':=by
 intro b pos aa s σ H x y v u Q I rx ry q hs;exact h _ _ _ _ _ _ _ _ _ _ _ I rx ry (i _ _ _ _ q) hs
theorem h_.imp{f:Value}{r r':Ε->Hp->VK->Prop}(h:h_ X f r)(i:∀xs H Q,r' xs H Q->r xs H Q):h_ X f r':=λaa s σ H xs us Q I rx q=>h aa s σ H xs us Q I rx (i _ _ _ q)
noncomputable def tyS(H:Hp):V->Option String
 |.non=>some "NoneType"
 |.bl _=>some "bool"
 |.int _=>some "int"
 |.str _=>some "str"
 |.ref a=>match H a with
  |some (.lst _)=>some "list"
  |some (.tup _)=>some "tuple"
  |some (.dK _)=>some "dict"
  |_=>none
 |_=>none
theorem aex{K:Frag}{H:Hp}{x:V}{t:String}(h:tyS H x=some t):Cj K H x (.type t):=by
 cases x with
 |non=>cases h;exact .non
 |bl=>cases h;exact .bl _
 |int=>cases h;exact .int _
 |str=>cases h;exact .str _
 |byt=>cases h
 |flt=>cases h
 |ty=>cases h
 |ref a =>
  have h:(match H a with
   |some (.lst _)=>some "list"
   |some (.tup _)=>some "tuple"
   |some (.dK _)=>some "dict"
   |_=>none)=some t:=h
  split at h
  .cases h;exact .lst (by assumption)
  .cases h;exact .tup (by assumption)
  .cases h;exact .dK (by assumption)
  .cases h
noncomputable def Nh(t T:String):Bool:=(t==T) || (t=="bool" && T=="int")
theorem Uq{K:Frag}{t T:String}(ht:t∈["NoneType","bool","int","str","list","tuple","dict"])(hT:T∈["bool","int","str","list","tuple","dict"]):kitOne K (.type t) (.type T)=some (Nh t T):=by
 simp only[YU,VU,or_false]at ht hT;rcases ht with rfl|rfl|rfl|rfl|rfl|rfl|rfl<;>rcases hT with rfl|rfl|rfl|rfl|rfl|rfl<;>with_unfolding_all rfl
theorem aev{H:Hp}{x:V}{t:String}(h:tyS H x=some t):t∈["NoneType","bool","int","str","list","tuple","dict"]:=by
 cases x with
 |non=>cases h;decide
 |bl=>cases h;decide
 |int=>cases h;decide
 |str=>cases h;decide
 |byt=>cases h
 |flt=>cases h
 |ty=>cases h
 |ref a =>
  have h:(match H a with
   |some (.lst _)=>some "list"
   |some (.tup _)=>some "tuple"
   |some (.dK _)=>some "dict"
   |_=>none)=some t:=h
  split at h<;>cases h<;>decide
def amm:Ε->Hp->VK->Prop:=λxs H Q=>∃x T t,xs=[x,.ty T]/\T∈["bool","int","str","list","tuple","dict"]/\tyS H x=some t/\Q (.bl (Nh t T)) H
theorem uK:h_ X (.builtin "isinstance") amm:=Qi.imp λxs H Q hP=>by obtain⟨x,T,t,a,b,c,d⟩:=hP;exact⟨x,.ty T,.type T,.type t,_,a,.inl ⟨T,rfl,rfl⟩,aex c,Uq (aev c) b,d⟩
theorem PG.imp{e:Expr}{t t':TG}(h:PG X e t)(i:∀v σ H Q,t' v σ H Q->t v σ H Q):PG X e t':=λaa s σ H v u Q I r q=>h aa s σ H v u Q I r (i _ _ _ _ q)
def ajH(n:Nat)(t:TGs):TG:=λv σ H Q=>∃a xs,v=.ref a/\H a=some (.tup xs)/\xs.length=n/\t xs σ H Q
theorem abw{es:List Expr}{k:Nat}{t:TGs}{n:Nat}{pos:Pos}(hc:X.calm=true)(h:PGs X es t)(hn:(assignEach es X.env).length=n:=by rfl)(bE:zb X es:=by rfl):PG X (.Tuple es k pos) (ajH n t) :=
 (Yn hc h hn bE).imp λv σ H Q hP=>by obtain⟨a,xs,e1,e2,e3⟩:=hP;exact⟨a,xs,e1,.of e2,e3⟩
def ahJ:Ε->Hp->VK->Prop:=λxs H Q=>∃l ns,xs=[.ref l]/\H l=some (.lst (ns.map V.int))/\ns.length<64/\∀(ms:List Int)p,H p=none->ms.Perm ns->ms.Pairwise (· <= ·)->Q (.ref p) (upd H p (.lst (ms.map V.int)))
theorem V8:h_ X (.builtin "sorted") ahJ:=Qp.imp λxs H Q hP=>by obtain⟨l,ns,a,b,c⟩:=hP;exact⟨l,ns,a,.of b,c⟩
noncomputable def agx:V->Option Bool
 |.bl b=>some b
 |.int i=>some (i != 0)
 |.non=>some false
 |_=>none
theorem acL{K:Frag}{x:V}{H:Hp}{k:Bool}(h:agx x=some k):afo K x H k:=by
 cases x<;>cases h<;>rfl
def akS(ta:TE):TT:=λσ H Q=>ta σ H λx H'=>∃k,agx x=some k/\Q k H'
theorem afu{a:Expr}{ta:TE}(ha:PE X a ta)(he:∀b7,isTrue a X.env b7=(do let v <- b7;standAt a.pos;holding [v] (truthy v))):PT X a (akS ta):=by
 intro aa s σ H Q I h;exact isTrue_plain (thn (ha aa s σ H _ I h) λv s1 hP=>by obtain⟨x,H1,I1,r1,k,e,q1⟩:=hP;exact Xo aa s1 σ H1 x v Q I1 r1 ⟨k,acL e,q1⟩) (he _)
end
def OkF(P:Program)(w:World)(K:Frag)(mg:Str->Ψ)(base:Heap)(k:Nat)(x:Str)(ps:Θ)(sp:Sp):Prop :=
 ∃f fd,b_ P w K mg base CX0 k f fd ps sp/\Binds K fd ps []/\mg x=some (.ref f)/\keepIn K (.ref f)=true
def cL(K:Frag)(mg:Str->Ψ)(x:Str)(st:Stmt)(ps:Θ):Prop :=
 ∃f fd,Fun K x x st f fd/\(∀us:Δ,us.length=ps.length->bindArgs fd ⟨us,[]⟩=pure (ps.zip us))/\mg x=some (.ref f)
theorem cL.ok{P:Program}{w:World}{K:Frag}{mg:Str->Ψ}{base:Heap}{k:Nat}{x:Str}{st:Stmt}{ps:Θ}{sp:Sp}(h:cL K mg x st ps)
 (hf:∀f fd,Fun K x x st f fd->b_ P w K mg base CX0 k f fd ps sp):OkF P w K mg base k x ps sp:=by
 obtain⟨f,fd,a,b,c⟩:=h;exact⟨f,fd,hf f fd a,.all b,c,a.kp⟩
theorem abL{K:Frag}{h:Heap}{mg:Str->Ψ}{x:Str}{st:Stmt}{ps:Θ}{f:Addr}{oc:Value}{od an:Ω}{dq:Array (Ψ)}{kV bP pm ah ct:Value}(X:K.In h)(G:h.Ns mainGlobals mg)
 (a:nsIn K mainGlobals x=some (some (.ref f)))(l:K.lookup f=some ⟨oc,od,.func (PySem.W.fnOf x x (iC st) (dH st) (bF st) .none kV bP pm an ah ct),dq⟩)
 (c:codeIn K ah x=true)(k:keepIn K (.ref f)=true)
 (hb:∀(kV bP pm:Value)(an:Ω)(ah ct:Value)(us:Δ),us.length=ps.length->bindArgs (PySem.W.fnOf x x (iC st) (dH st) (bF st) .none kV bP pm an ah ct) ⟨us,[]⟩=pure (ps.zip us)):cL K mg x st ps :=
 ⟨f,_,XM l c k,hb kV bP pm an ah ct,mg_of X G a⟩
def Uk(K:Frag):Sp:=λvs H Q _=>∃(a:Addr)(ns:List Int),vs=[.ref a]/\SqL K H a (ns.map V.int)/\ns.length<=63/\Only H/\∀H',Q (.bl true) H'
theorem aiU{l:PySem.W.OpenLaw}{k:Nat}{x:Str}{q:Program}{loose:Θ}{XP:(Str->Ψ)->Heap->Prop}{YP:World->Heap->Prop}{d:DefRec}{K:Params->Frag}(hn:l.most=some 63)(jS:d.params.defaults=[])
 (hr:dF k callerA)(hY:∀(w:World)(h:Heap),YP w h->(K w.params).In h)
 (F:∀(w:World)(mg:Str->Ψ)(fa:Addr)(h:Heap),(K w.params).In h->h.Ns mainGlobals mg->mg d.name=some (.ref fa) ->
   ∃st,cL (K w.params) mg d.name st [x]/\∀(base:Heap)(f:Addr)(fd:FuncData),Fun (K w.params) d.name d.name st f fd->b_ l.prog w (K w.params) mg base CX0 k f fd [x] (Uk (K w.params))) :
  PySem.W.WalkO q loose XP YP l.row.toRowW d [] (λf vs=>PySem.call f vs):=by
 refine L2.U9 (n:=63) (k:=k) (x:=x) (CX:=λ_=>CX0) (sp:=λw=>Uk (K w.params)) hn (by decide) jS hr hY (λw mg fa h KX G gp=>?_) (λ_ _ a ns hl hO hS=>⟨a,ns,rfl,hS,hl,hO,λ_=>rfl⟩) λ_ _ _ _ _ z=>z;obtain⟨st,⟨f,fd,hf,hb,hm⟩,ok⟩:=F w mg fa h KX G gp;rw[hm]at gp;have e:f=fa:=by injection gp with z;injection z
 subst e;exact⟨fd,λs u=>.of_eq (hb [u] rfl),λbase _ _=>ok base f fd hf⟩
section
variable{X:Cx}{p pos:Pos}{e:Expr}{es:List Expr}{t:TA}{x:Str}{k:Nat}{ps:Θ}{sp:Sp}
def RD(sp:Sp)(t:TA):TE:=λσ H Q=>t σ H λvs H1=>sp vs H1 Q E0
theorem zE(G:OkF X.prog X.w X.K X.mg X.base k x ps sp)(hr:dF k X.A)(hg:Gl X x)(ha:PA X (e::es) t)(bu:qk x:=by decide)
 (he:qo X e es:=by rfl)(aS:qh X pos es:=by rfl):PE X (.Call (.Name x p) (e::es) [] pos) (RD sp t):=by
 obtain⟨f,fd,F,b,hm,kp⟩:=G;intro aa s σ H Q I h;refine abJ F hr hg hm kp b .nil JK ha bu he aS aa s σ H Q I ?_;show t σ H λvs H1=>sp (vs++[]) H1 Q E0;simp only[List.append_nil];exact h
end
theorem aem(a:Int):(if a<0 then -a else a)=((a.natAbs:Nat):Int):=by split<;>omega
theorem rD(a:Int){b:Int}(h:0<b):Int.fdiv a b=a/b:=Zzy a (XY h)
def TrD(h base:Heap)(e:Addr)(cls:Value)(d:Ω)(fl:Value):Prop :=
 ∃oe vs T oT ts,h.get? e=some oe/\(oe.cls=cls/\oe.dict=d)/\oe.data=.fields vs/\vs[1]?=some (.ref T)/\base.get? T=none/\T≠e/\h.get? T=some oT/\oT.data=.fields ts/\ts[3]?=some fl
def uf(base:Heap)(l:List Env)(e:Addr)(cls:Value)(d:Ω)(fl:Value)(h:Heap):Prop :=
 base.StaysIn h/\base.get? e=none/\h.FunFrames base l/\TrD h base e cls d fl
theorem uf.first{base h:Heap}{l:List Env}{e:Addr}{cls fl:Value}{d:Ω}(x:uf base l e cls d fl h):∃oe vs,h.get? e=some oe/\oe.cls=cls/\oe.dict=d/\oe.data=.fields vs :=
 by obtain⟨_,_,_,oe,vs,_,_,_,he,hc,hd,_⟩:=x;exact⟨oe,vs,he,hc.1,hc.2,hd⟩
section
variable{M:Model}{A:Around}{E:Β}{s:Shared}{base:Heap}{env:Env}{outer l:List Env}{L e:Addr}{cls:Value}{d:Ω}{Q:Unit->Shared->Prop}
theorem Gv(o:Obj)(f:Array Value->Array Value):(Obj.mapFields f o).dict=o.dict:=by
 unfold Obj.mapFields;split<;>rfl
theorem aag{oe:Obj}{vs:Array Value}{head:Value}{fR:Bool}(du:A.frames=some (env::outer))(hl:s.heap.FunFrames base (env::outer))(hf:env.frame=some L)(he:s.heap.get? e=some oe)
 (fm:base.StaysIn s.heap)(fo:base.get? e=none)(hd:oe.data=.fields vs)(hsz:1<vs.size)(h:∀h',uf base (env::outer) e oe.cls oe.dict (rawInt L) h'->s.heap.UpToSlots h'->Q () { s with heap:=h' }) :
  wpAny M A (do let a <- frameOf env;let pl <- entryPlaceOf L fR;let b <- EntryCells.newEntry head a .none (rawInt L) .none pl;setField (.ref e) 1 b) Q E s:=by
 have nofr:e∉(env::outer).filterMap (·.frame):=λz=>by
  obtain⟨_,o,ho,hnf⟩:=hl.mem z;rw[he]at ho;cases ho;exact hnf vs hd
 refine ZU (wpAny_frameOf_fun du hl hf λg hg=>ZU (wpAny_entryPlaceOf λpl aS=>?_));unfold EntryCells.newEntry newFields;refine ZU (wpAny_newObj_type ?_ (aS.sizeOk5 _ _ _ _ _));have eg:g.get? e=some oe:=(hg.2.1 e nofr).trans he;have kg:base.StaysIn g:=λb o q=>(hg.2.1 b λz=>by rw[(hl.mem z).1]at q;cases q).trans (fm b o q);generalize de:({ cls:=.type "traceback",dict:=none,data:=.fields ([head,.ref L,.none,rawInt L,.none]++(if pl.isEmpty then List.replicate 6 Value.none else pl)).toArray } : Obj)=ot;have gT:g.objs.size≠e:=VQ (aK eg);have e2:(g.push ot).get? e=some oe:=aH _ eg;refine wpAny_setField e2 hd hsz (h _ ?_ ?_)
 all_goals
  have d3:=Obj.data_mapFields hd (·.setIfInBounds 1 (Value.ref g.objs.size));have e3:=Heap.get?_update_self (Obj.mapFields (·.setIfInBounds 1 (Value.ref g.objs.size))) e2 (Obj.isFreed_of_fields d3);have keep:∀b o,b≠e->g.get? b=some o->((g.push ot).update e (Obj.mapFields (·.setIfInBounds 1 (Value.ref g.objs.size)))).get? b=some o:=λb o nb q=>by
   rw[Heap.get?_update_other _ _ (Ne.symm nb)];exact aH _ q
  have nr:∀b o,s.heap.get? b=some o->(∀ws,o.data≠.fields ws)->b≠e:=λb o q nf z=>by
   rw[z,he]at q;cases q;exact nf vs hd
 .refine⟨λb o q=>keep b o (λz=>by rw[z,fo]at q;cases q) (kg b o q),fo,hl.of_keeps λb o q nf=>?_,?_⟩
  .obtain⟨sl,z⟩:=hg.2.2 b o q;exact⟨_,keep b _ (nr b o q nf) z,rfl⟩
  .refine⟨_,_,g.objs.size,ot,_,e3,⟨Obj.cls_mapFields _ _,Gv _ _⟩,d3,by simp[hsz],kg.fresh,gT,?_,by rw[<- de],?_⟩
   .rw[Heap.get?_update_other _ _ (Ne.symm gT)];exact aW g (by rw[<- de];rfl)
   .first|(simp;done)|(rcases aS with rfl|⟨_,_,_,_,_,_,_,rfl⟩<;>simp)
 .intro b o q nf;obtain⟨sl,z⟩:=hg.2.2 b o q;exact⟨sl,keep b _ (nr b o q nf) z⟩
theorem RG{oe:Obj}{vs:Array Value}(du:A.frames=some (env::outer))(hl:s.heap.FunFrames base (env::outer))(hf:env.frame=some L)(he:s.heap.get? e=some oe)
 (fm:base.StaysIn s.heap)(fo:base.get? e=none)(hd:oe.data=.fields vs)(h1:vs[1]?=some .none)(h:∀h',uf base (env::outer) e oe.cls oe.dict (rawInt L) h'->s.heap.UpToSlots h'->Q () { s with heap:=h' }) :
  wpAny M A (noteFrame (.ref e) env) Q E s:=by
 unfold noteFrame;simp only[hf];refine ZU (wpAny_field he hd h1 ?_);rw[ZZ (by decide)];exact aag du hl hf he fm fo hd (Array.getElem?_eq_some_iff.mp h1).1 h
theorem Ju(du:A.frames=some (env::outer))(hf:env.frame=some L)(x:uf base (env::outer) e cls d .none s.heap)
 (h:∀h',uf base (env::outer) e cls d (rawInt L) h'->s.heap.UpToSlots h'->Q () { s with heap:=h' }):wpAny M A (noteFrame (.ref e) env) Q E s:=by
 obtain⟨fm,fo,hl,oe,vs,T,oT,ts,he,⟨hc,hdd⟩,hd,h1,nT,gT,hT,gv,h3⟩:=x;subst hc hdd;unfold noteFrame;simp only[hf];refine ZU (wpAny_field he hd h1 ?_);rw[ZY (show(Value.ref T != Value.none)=true from by simp)];refine ZU (wpAny_field hT gv h3 ?_);rw[ZZ (show ¬((Value.none==rawInt L)=true)from by simp[rawInt])];refine ZU (wpAny_setField hT gv (Array.getElem?_eq_some_iff.mp h3).1 ?_);have cc:∀b,b≠T->(s.heap.update T (Obj.mapFields (·.setIfInBounds 3 Value.none))).get? b=s.heap.get? b:=λb hb=>Heap.get?_update_other _ _ (Ne.symm hb);have nr:∀b o,s.heap.get? b=some o->(∀ws,o.data≠.fields ws)->b≠T:=λb o q nf z=>by
  rw[z,hT]at q;cases q;exact nf ts gv
 refine aag (s:={ s with heap:=_ }) du (hl.of_keeps λb o q nf=>⟨o,(cc b (nr b o q nf)).trans q,rfl⟩) hf ((cc e (Ne.symm gT)).trans he)
  (λb o q=>(cc b λz=>by rw[z,nT]at q;cases q).trans (fm b o q)) fo hd (Array.getElem?_eq_some_iff.mp h1).1 λh' y up=>h h' y λb o q nf=>up b o ((cc b (nr b o q nf)).trans q) nf
theorem UL{fl:Value}(x:uf base l e cls d fl s.heap)(h:∀h',uf base l e cls d .none h'->s.heap.UpToSlots h'->Q () { s with heap:=h' }):wpAny M A (setFlight (.ref e) none) Q E s:=by
 obtain⟨fm,fo,hl,oe,vs,T,oT,ts,he,hc,hd,h1,nT,gT,hT,gv,h3⟩:=x;have z3:3<ts.size:=(Array.getElem?_eq_some_iff.mp h3).1;have cc:∀b,b≠T->(s.heap.update T (Obj.mapFields (·.setIfInBounds 3 ((none:Ω).elim Value.none λf=>rawInt f)))).get? b=s.heap.get? b:=λb hb=>Heap.get?_update_other _ _ (Ne.symm hb);have nr:∀b o,s.heap.get? b=some o->(∀ws,o.data≠.fields ws)->b≠T:=λb o q nf z=>by
  rw[z,hT]at q;cases q;exact nf ts gv
 unfold setFlight;refine ZU (wpAny_field he hd h1 ?_);rw[ZY (show(Value.ref T != Value.none)=true from by simp)];refine wpAny_setField hT gv z3 (h _ ⟨λb o q=>(cc b λz=>by rw[z,nT]at q;cases q).trans (fm b o q),fo,hl.of_keeps λb o q nf=>⟨o,(cc b (nr b o q nf)).trans q,rfl⟩,?_⟩ λb o q nf=>⟨o.slots,(cc b (nr b o q nf)).trans q⟩);exact⟨oe,vs,T,_,_,(cc e (Ne.symm gT)).trans he,hc,hd,h1,nT,gT,Heap.get?_update_self _ hT (Obj.isFreed_of_fields (Obj.data_mapFields gv _)),Obj.data_mapFields gv _,by simp[z3]⟩
theorem uf.pop{fl:Value}{h:Heap}(x:uf base (env::outer) e cls d fl h):uf base outer e cls d fl h:=⟨x.1,x.2.1,x.2.2.1.2.2,x.2.2.2⟩
theorem Xi(du:A.frames=some (env::outer))(hf:env.frame=some L)(x:uf base (env::outer) e cls d .none s.heap)
 (h:∀h',uf base outer e cls d .none h'->s.heap.UpToSlots h'->Q () { s with heap:=h' }):wpAny M A (leaving env (.ref e)) Q E s:=by
 unfold leaving;exact ZU (Ju du hf x λh1 y up=>UL y λh2 z kG=>h h2 z.pop (up.trans kG))
theorem W7{h0:Heap}{oe:Obj}{vs:Array Value}(du:A.frames=some (env::outer))(hf:env.frame=some L)(fm:base.StaysIn h0)(hl:h0.FunFrames base (env::outer))(gf:∀b o,h0.get? b=some o->s.heap.get? b=some o)
 (new:h0.get? e=none)(he:s.heap.get? e=some oe)(hd:oe.data=.fields vs)(h1:vs[1]?=some .none)
 (h:∀h',uf base outer e oe.cls oe.dict .none h'->s.heap.UpToSlots h'->Q () { s with heap:=h' }):wpAny M A (leaving env (.ref e)) Q E s:=by
 have fo:base.get? e=none:=by
  cases q:base.get? e with
  |none=>rfl
  |some o=>have:=fm e o q;rw[new]at this;cases this
 unfold leaving;exact ZU (RG du (hl.of_keeps λb o q _=>⟨o,gf b o q,rfl⟩) hf he (λb o q=>gf b o (fm b o q)) fo hd h1 λh1 y up=>UL y λh2 z kG=>h h2 z.pop (up.trans kG))
end
theorem dM.there{P:Program}{w:World}{H:Hp}{h:Heap}{a:Addr}{o:HO}(x:dM P w H h a o):∃ob,h.get? a=some ob:=by
 cases o with
 |lst xs=>obtain⟨_,_,_,_,e⟩:=x;exact⟨_,e⟩
 |tup xs=>obtain⟨_,_,_,o,e,_⟩:=x;exact⟨_,e⟩
 |dK kvs=>obtain⟨_,_,_,_,o,_,_,e,_⟩:=x;exact⟨_,e⟩
 |set S n=>obtain⟨o,_,_,_,e,_⟩:=x;exact⟨_,e⟩
 |ins C dx fs=>obtain⟨_,_,_,e,_⟩:=x;exact⟨_,e⟩
 |own y=>exact x
 |xd fs=>obtain⟨_,⟨_,_,_,e,_⟩,_⟩:=x;exact⟨_,e⟩
 |rng lo hi=>obtain⟨_,_,_,e⟩:=x;exact⟨_,e⟩
 |frz ob u=>obtain⟨e,_⟩:=x;exact⟨_,e⟩
 |tbl ps=>exact⟨_,(show h.get? a=some _ from x)⟩
 |met f y=>exact⟨_,(show h.get? a=some _ from x)⟩
 |ext φ=>obtain⟨_,e,_⟩:=x;exact e
structure Fly(P:Program)(w:World)(l:List Env)(H:Hp)(s:Shared)(a:Addr)(C:Value)(H':Hp)(s':Shared)(B:Heap)(d:Ω):Prop where
 os:s'.os=s.os
 bare:AllBare s'.gens
 new:s.heap.get? a=none
 un:Un (frs l) [] H H' s.heap s'.heap
 hok:HOk P w H' s'.heap
 frf:∀b∈frs l,H' b=none
 fl:uf B l a C d .none s'.heap
 cov:∀b o,s'.heap.get? b=some o->b∉frs l->((∃u,s.heap.get? b=some u)\/∃u,H' b=some u)->B.get? b=some o
section
variable{P:Program}{w:World}{l:List Env}{H H':Hp}{s s':Shared}{a:Addr}{C:Value}{B:Heap}{d:Ω}{h':Heap}
theorem Fly.trk(F:Fly P w l H s a C H' s' B d){b:Addr}{u:HO}{o:Obj}(e:H' b=some u)(q:s'.heap.get? b=some o):B.get? b=some o :=
 F.cov b o q (λz=>by rw[F.frf b z]at e;cases e) (.inr ⟨u,e⟩)
theorem Fly.hok'(F:Fly P w l H s a C H' s' B d)(k:∀b o,B.get? b=some o->h'.get? b=some o):HOk P w H' h':=λb u e =>
 (F.hok b u e).stay (λc v hc q=>k c v (by
  rcases hc with z|z
  .subst z;exact F.trk e q
  .exact F.trk z q)) (λ_ q=>q) λ_ _ q=>q
theorem Fly.un'(F:Fly P w l H s a C H' s' B d)(k:∀b o,B.get? b=some o->h'.get? b=some o)(up:s'.heap.UpToSlots h'):Un (frs l) [] H H' s.heap h':=by
 have nf:∀b∈frs l,∀o,s'.heap.get? b=some o->∀vs,o.data≠.fields vs:=λb hb o e=>by
  obtain⟨_,o',e',d⟩:=F.fl.2.2.1.mem hb;rw[e]at e';cases e';exact d
 refine⟨λb o q n hb hx=>k b o (F.cov b o (F.un.keep b o q n hb hx) hb (.inl ⟨o,q⟩)),λb o q n hb hx=>?_,F.un.free,λb o q hx=>?_,F.un.tups,F.un.frzs,F.un.tbls⟩
 .obtain⟨sl,e⟩:=F.un.slot b o q n hb hx;obtain⟨iL,e'⟩:=up b _ e (nf b hb _ e);exact⟨iL,e'⟩
 .obtain⟨o',e⟩:=F.un.there b o q hx;by_cases hb:b∈frs l
  .obtain⟨iL,e'⟩:=up b _ e (nf b hb _ e);exact⟨_,e'⟩
  .exact⟨o',k b o' (F.cov b o' e hb (.inl ⟨o,q⟩))⟩
end
section
variable{X:Cx}{aa:Γ}{σ:List (Option V)}{H H':Hp}{s s':Shared}{a:Addr}{C:Value}{B:Heap}{d:Ω}{h':Heap}
theorem Inv.flown(I:Inv X aa σ H s)(F:Fly X.prog X.w X.stack H s a C H' s' B d)(k:∀b o,B.get? b=some o->h'.get? b=some o)(up:s'.heap.UpToSlots h'):Inv X aa σ H' { s' with heap:=h' } :=
 I.call' (s':={ s' with heap:=h' }) (ch:=[]) F.os (F.un' k up) (F.hok' k) F.bare λ_ z=>nomatch z
theorem Inv.old(I:Inv X aa σ H s)(hx:X.ex=[]){b:Addr}{o:Obj}(e:X.s₀.heap.get? b=some o):(∃u,s.heap.get? b=some u)/\b≠X.env.locals:=by
 obtain⟨u,q⟩:=I.base.there b o e (by rw[hx];simp);exact⟨⟨u,q⟩,aQ (aR (aK e) I.ok.above)⟩
theorem Inv.nostk(I:Inv X aa σ H s){b:Addr}(h1:b≠X.env.locals)(h2:b∉X.fs):b∉frs X.stack:=λz=>by
 rcases YU.mp (I.stkSub b z)with e|e
 .exact h1 e
 .exact h2 e
theorem Inv.flyOut(I:Inv X aa σ H s)(hx:X.ex=[])(F:Fly X.prog X.w X.stack H s a C H' s' B d)(fl:uf B X.outer a C d .none h')(up:s'.heap.UpToSlots h') :
  Fly X.prog X.w X.outer X.H₀ X.s₀ a C H' { s' with heap:=h' } B d:=by
 have J:=I.flown F fl.1 up;refine⟨J.os,J.bare,?_,by have:=J.base;rw[hx]at this;exact this,J.hok,λb hb=>?_,fl,λb o e hb hc=>?_⟩
 .cases q:X.s₀.heap.get? a with
  |none=>rfl
  |some o =>
   obtain⟨⟨u,z⟩,_⟩:=I.old hx q;rw[F.new]at z;cases z
 .obtain⟨_,o,ho,_⟩:=I.ok.funs.mem hb;exact J.base.free b o ho (I.ok.frf b hb) λz=>I.ok.exfs b z hb
 .rcases hc with⟨u,q⟩|⟨u,q⟩
  .obtain⟨⟨v,z⟩,n⟩:=I.old hx q;obtain⟨o',e'⟩:=F.un.there b v z (by simp);have y:=F.cov b o' e' (I.nostk n hb) (.inl ⟨v,z⟩);have e2:=fl.1 b o' y;rw[show({ s' with heap:=h' } : Shared).heap.get? b=h'.get? b from rfl,e2]at e;cases e;exact y
  .obtain⟨o',e'⟩:=(F.hok b u q).there;have y:=F.trk q e';have e2:=fl.1 b o' y;rw[show({ s' with heap:=h' } : Shared).heap.get? b=h'.get? b from rfl,e2]at e;cases e;exact y
end
def CXO(P:Program)(w:World):CXT:=λl H s E e s'=>∃a C d H' B,e=.ref a/\Fly P w l H s a C H' s' B d/\E C d H'
def abk(X:Cx)(Ex:Value->Ω->L2.St->Hp->Prop):Prop :=
 ∀aa σ H s a C H' s' B d,Inv X aa σ H s->Fly X.prog X.w X.stack H s a C H' s' B d->Ex C d σ H'->X.xe (.ref a) s'
section
variable{P:Program}{w:World}{K:Frag}{mg:Str->Ψ}{base:Heap}{N:Θ}{af:Str}{scope:Scope}{f:Addr}{cd:Value}{A:Around}{outer:List Env}{s:Shared}{H:Hp}{E:XK}
theorem aaK:abk (zR (CXO P w) P w K mg base N af scope f cd A outer s H E) (λC d _ H'=>E C d H'):=by
 intro aa σ H1 s1 a C H' s' B d I F q;show wpAny _ _ (leaving _ (.ref a)) _ _ _;refine Xi (outer:=outer) I.ok.frames rfl F.fl λh' fl up=>?_;exact⟨a,C,d,H',B,rfl,I.flyOut rfl F fl up,q⟩
end
section
variable{P:Program}{w:World}{K:Frag}{mg:Str->Ψ}{base:Heap}
theorem Fun.okX{x af:Str}{st:Stmt}{f:Addr}{fd:FuncData}{N ps:Θ}{k:Nat}{sp:Sp}(F:Fun K x af st f fd)(S:bK N ps (bF st))(len:∀vs H Q E,sp vs H Q E->vs.length=ps.length)
 (be:∀(ah:Value)(A:Around)(outer:List Env)(s:Shared)(H:Hp)(vs:Ε)(Q:VK)(E:XK),dF k (A.deeper (envOfC af (bF st) s.heap.objs.size f ah))->sp vs H Q E ->
   ∃t,PSs (zR (CXO P w) P w K mg base N af (bF st) f ah A outer s H E) (dH st) t/\t { nx:=λ_ H'=>Q .non H',rt:=Q } (L2.start N vs) H):b_ P w K mg base (CXO P w) (k+1) f fd ps sp:=by
 obtain⟨oc,od,kV,bP,pm,an,ah,ct,dq,rfl,lk,a9⟩:=F.ex;exact acY lk a9 S len λA outer s H vs Q E hr eM=>be ah A outer s H vs Q E hr eM
def OkX(P:Program)(w:World)(K:Frag)(mg:Str->Ψ)(base:Heap)(k:Nat)(x:Str)(ps:Θ)(sp:Sp):Prop :=
 ∃f fd,b_ P w K mg base (CXO P w) k f fd ps sp/\Binds K fd ps []/\mg x=some (.ref f)/\keepIn K (.ref f)=true
theorem cL.okX{k:Nat}{x:Str}{st:Stmt}{ps:Θ}{sp:Sp}(h:cL K mg x st ps)
 (hf:∀f fd,Fun K x x st f fd->b_ P w K mg base (CXO P w) k f fd ps sp):OkX P w K mg base k x ps sp:=by
 obtain⟨f,fd,a,b,c⟩:=h;exact⟨f,fd,hf f fd a,.all b,c,a.kp⟩
end
section
variable{X:Cx}{p pos:Pos}{e:Expr}{es:List Expr}{t:TA}{x:Str}{k:Nat}{ps:Θ}{sp:Sp}{Ex:Value->Ω->L2.St->Hp->Prop}
def ael(sp:Sp)(Ex:Value->Ω->L2.St->Hp->Prop)(t:TA):TE:=λσ H Q=>t σ H λvs H1=>sp vs H1 Q λC d H'=>Ex C d σ H'
theorem Pk(G:OkX X.prog X.w X.K X.mg X.base k x ps sp)(hr:dF k X.A)(hg:Gl X x)(hx:abk X Ex)(ha:PA X (e::es) t)(bu:qk x:=by decide)
 (he:qo X e es:=by rfl)(aS:qh X pos es:=by rfl):PE X (.Call (.Name x p) (e::es) [] pos) (ael sp Ex t):=by
 obtain⟨f,fd,F,hb,hm,kp⟩:=G;intro aa s σ H Q I h;refine wpAny_Call_Name_kw (qu I hg hm ?_ bu);refine callWith_K (h₀:=X.base) I.ok.mod.kin kp (thn (ha pos aa s σ H _ I h) λus s1 ⟨vs,H1,I1,r,q⟩=>⟨I1.kIn,?_⟩) he aS;have hl:us.length=ps.length:=by rw[<- r.length];exact F.len _ _ _ _ q
 have cS:=hb s1 us I1.kIn (by simpa using hl);simp only[List.append_nil]at cS;refine wpAny_call (codeAny_mono (F.run X.A X.stack s1 H1 ⟨us,[]⟩ us vs Q _ hr I1.env0 cS r q) λr s' hq=>?_);cases r with
 |error e =>
  obtain⟨a,C,d,H',B,rfl,Fl,q'⟩:=hq;exact hx aa σ H1 s1 a C H' s' B d I1 Fl q'
 |ok fl =>
  cases fl with
  |ret u=>exact I1.after hq
  |next=>exact False.elim hq
  |brk=>exact False.elim hq
  |cont=>exact False.elim hq
end
abbrev bmV:Δ:=[.type "ValueError",.type "Exception",.type "BaseException",.type "object"]
def aeY(K:Frag)(C:Addr):Prop:=excIn K C bmV "ValueError.__new__"=true
theorem aaO{K:Frag}{h:Heap}{C:Addr}(X:K.In h)(q:aeY K C):∃bm N nm qn bs fF sn sub ab col dd k0 k1 k2 k3 k5 mN,h.get? C=some (excClassObj nm qn C N bs bm fF sn sub ab col dd k0 k1 k2 k3 k5 "ValueError.__new__") /\
  h.Ns N mN/\mN "__init__"=none/\OwnTail h bmV bm:=by
 unfold aeY excIn at q;split at q
 .rename_i dd cd sl ho
  split at q
  .rename_i C' bm k0 k1 k2 k3 n k5 hm hs
   simp only[JS,beq_iff_eq,Bool.not_eq_true']at q;obtain⟨⟨⟨⟨⟨rfl,rfl⟩,j1⟩,ht⟩,hok⟩,hni⟩:=q;obtain⟨nm,bs,mro,ns,qn,hd,sn,sub,ab,col,del⟩:=cd;dsimp only at hm j1 hok hni;subst hm j1;have hsl:sl = #[k0,k1,k2,k3,some (.builtin "ValueError.__new__"),k5]:=by
    obtain⟨l⟩:=sl;simp only at hs;rw[hs]
   subst hsl;exact⟨bm,ns,nm,qn,bs,hd,sn,sub,ab,col,dd,k0,k1,k2,k3,k5,_,X _ _ ho,.of_isNs (isNs_of_in X hok),PySem.W.nsMap_none_of_in X hok hni,PySem.W.tail_of_in X ht⟩
  .cases q
 .cases q
noncomputable abbrev Cx.tryc(X:Cx)(pn:Γ)(E:Β):Cx:={ X with pn:=pn,xe:=E }
noncomputable abbrev Cx.marked(X:Cx)(a:Addr)(E:Β):Cx:={ X with A:=X.A.mark (some (.ref a)),calm:=false,xe:=E }
section
variable{X:Cx}{aa dm pn:Γ}{σ:L2.St}{H H':Hp}{s:Shared}{E:Β}{a:Addr}
theorem Cx.Ok.tryc(ok:X.Ok):(X.tryc pn E).Ok:=⟨ok.mod,ok.kind,ok.glob,ok.blt,ok.above,ok.inj,ok.has,ok.cab,ok.hd,ok.frames,ok.stk,ok.exf,ok.bs,ok.bsz,ok.noex,ok.exfs,ok.funs,ok.frf⟩
theorem Cx.Ok.untry(ok:(X.tryc pn E).Ok):X.Ok:=⟨ok.mod,ok.kind,ok.glob,ok.blt,ok.above,ok.inj,ok.has,ok.cab,ok.hd,ok.frames,ok.stk,ok.exf,ok.bs,ok.bsz,ok.noex,ok.exfs,ok.funs,ok.frf⟩
theorem Inv.tryc(I:Inv X aa σ H s):Inv (X.tryc (X.pn++aa) E) [] σ H s:=⟨I.ok.tryc,I.os,I.bare,I.base,I.loc,I.cell,I.free,I.freeC,λp hp=>I.pin p (by simpa using hp),I.hok,I.len⟩
theorem Inv.untry(I:Inv (X.tryc (X.pn++aa) E) dm σ H s):Inv X aa σ H s:=⟨I.ok.untry,I.os,I.bare,I.base,I.loc,I.cell,I.free,I.freeC,λp hp=>I.pin p (U1 _ hp),I.hok,I.len⟩
theorem Cx.Ok.marked(ok:X.Ok):(X.marked a E).Ok:=⟨ok.mod,ok.kind,ok.glob,ok.blt,ok.above,ok.inj,ok.has,ok.cab,λz=>(nomatch z),ok.frames,ok.stk,ok.exf,ok.bs,ok.bsz,ok.noex,ok.exfs,ok.funs,ok.frf⟩
theorem Inv.marked(I:Inv X aa σ H s):Inv (X.marked a E) aa σ H s:=⟨I.ok.marked,I.os,I.bare,I.base,I.loc,I.cell,I.free,I.freeC,I.pin,I.hok,I.len⟩
theorem Inv.unmarked(ok:X.Ok)(I:Inv (X.marked a E) aa σ H s):Inv X aa σ H s:=⟨ok,I.os,I.bare,I.base,I.loc,I.cell,I.free,I.freeC,I.pin,I.hok,I.len⟩
theorem Inv.track{o:HO}(I:Inv X aa σ H s)(hn:H a=none)(ha:X.s₀.heap.get? a=none)(hL:a≠X.env.locals)(hC:∀x c,X.env.cells.lookup x=some c->c≠a)(hp:∀p∈X.pn++aa,p.1≠a)
 (ok:dM X.prog X.w (upd H a o) s.heap a o):Inv X aa σ (upd H a o) s:=by
 have ne:∀b u,H b=some u->b≠a:=λb u e=>ju e hn;have ne0:∀b u,X.s₀.heap.get? b=some u->b≠a:=λb u e z=>by rw[z,ha]at e;cases e
 refine⟨I.ok,I.os,I.bare,⟨I.base.keep,I.base.slot,λb ob e n hx=>by rw[bR (ne0 b ob e)];exact I.base.free b ob e n hx,I.base.there,λb xs e=>?_,λb ob u e=>?_,λb ps e=>?_⟩,I.loc,I.cell,by rw[bR hL.symm];exact I.free,λx c e=>by rw[bR (hC x c e)];exact I.freeC x c e,λp q=>?_,λb u e=>?_,I.len⟩
 .have z:=I.base.tups b xs e;rw[bR (ne b _ z)];exact z
 .have z:=I.base.frzs b ob u e;rw[bR (ne b _ z)];exact z
 .obtain⟨m,z⟩:=I.base.tbls b ps e;exact⟨m,by rw[bR (ne b _ z)];exact z⟩
 .obtain⟨h1,h2,h3⟩:=I.pin p q;exact⟨h1,by rw[bR (hp p q)];exact h2,h3⟩
 .by_cases z:b=a
  .subst z;rw[bW]at e;cases e;exact ok
  .rw[bR z]at e;exact(I.hok b u e).stay (λ_ _ _ q=>q) (λc q=>by rw[bR (ne c _ q)];exact q) λc xs q=>by rw[bR (ne c _ q)];exact q
theorem Inv.unname{M:Model}{A:Around}{E:Β}{i:Nat}{n:Str}{pos:Pos}{Q:Unit->Shared->Prop}(I:Inv X aa σ H s)(hN:X.N.Nodup)(hi:X.N[i]?=some n)(hk:X.env.scope.names.lookup n=some .local)
 (h:∀s',Inv X aa (σ.set i none) H s'->Q () s'):wpAny M A (do bindName X.env n .none;unbindBehindTheSuite X.env n pos) Q E s:=by
 obtain⟨m,hn,hl⟩:=id I.loc;have ff:(X.env.scope.kind == .class || (X.env.scope.kind == .module&&X.env.locals != X.env.globals))=false:=by rw[I.ok.kind];rfl
 have cne:=I.cne;have kx:i<σ.length:=by rw[I.len];exact(ao.mp hi).1
 refine wpAny_nameGoes_keeps hk hn ff λh' v mm hs=>?_;have hok:HOk X.prog X.w H h':=λb ob e=>(I.hok b ob e).stay (λc w' hc q=>(hs.2 c (by
  rintro rfl;rcases hc with rfl|hc
  .rw[I.free]at e;cases e
  .rw[I.free]at hc;cases hc)).trans q) (λ_ q=>q) λ_ _ q=>q
 refine h _ ⟨I.ok,I.os,I.bare,⟨λb o e n' hb hx=>?_,λb o e n' hb hx=>?_,I.base.free,λb o e hx=>?_,I.base.tups,I.base.frzs,I.base.tbls⟩,⟨_,mm,λj y v' e1 e2 e3=>?_⟩,λy c e=>?_,I.free,I.freeC,λp hp=>?_,hok,by simpa using I.len⟩
 .exact(hs.2 b (aQ (aR (aK e) I.ok.above))).trans (I.base.keep b o e n' hb hx)
 .obtain⟨sl,e1⟩:=I.base.slot b o e n' hb hx;exact⟨sl,(hs.2 b (aQ (aR (aK e) I.ok.above))).trans e1⟩
 .obtain⟨o',e1⟩:=I.base.there b o e hx;exact⟨o',(hs.2 b (aQ (aR (aK e) I.ok.above))).trans e1⟩
 .by_cases hj:j=i
  .subst hj;rw[UY kx]at e2;cases e2
  .rw[VW (Ne.symm hj)]at e2;obtain⟨u',r',q⟩:=hl j y v' e1 e2 e3;refine⟨u',r',?_⟩;rcases q with⟨k,e⟩|⟨k,c,e,z⟩
   .refine .inl ⟨k,?_⟩;have:y≠n:=λe=>hj (Hv hN e1 (e ▸ hi));simp[this,e]
   .exact .inr ⟨k,c,e,z.sameBut hs (cne y c e)⟩
 .obtain⟨w',z⟩:=I.cell y c e;exact⟨w',z.sameBut hs (cne y c e)⟩
 .obtain⟨e,n',ne,nf,d⟩:=I.pin p hp;exact⟨(hs.2 p.1 ne).trans e,n',ne,nf,d⟩
end
noncomputable def XO(a C:Addr)(d:Ω):HO:=.ext λh=>∃o,h.get? a=some o/\o.cls=.ref C/\o.dict=d/\∃vs,o.data=.fields vs
theorem Ob{M:Model}{A:Around}{E:Β}{K:Frag}{h:Heap}{g:Array GenState}{d:Drawn}{t:Nat}{os:OsState}{a C D:Addr}{oe:Obj}{Q:Bool->Shared->Prop}{b:Bool}(X:K.In h)
 (qD:mroIn K D (.type "BaseException")=some true)(kH:typeIn K (.ref D)=some (.type "type"))(he:h.get? a=some oe)(hc:oe.cls=.ref C)(qS:mroIn K C (.ref D)=some b)
 (hq:Q b ⟨h,g,d,t,os⟩):wpAny M A (excMatches (.ref a) (.ref D)) Q E ⟨h,g,d,t,os⟩:=by
 have l1:PySem.W.Looks M h (isInstance (.ref D) (.type "tuple")) false:=(PySem.W.looks_typeIn X kH).andThen (PySem.W.Looks.of_pure tc_notTuple);have l2:PySem.W.Looks M h (isType (.ref D)) true:=by
  obtain⟨cdD,hZ,_⟩:=Option.bind_eq_some_iff.mp qD;unfold clsIn at hZ;split at hZ
  .rename_i c' d' cd' iL ho
   intro A' Q' E' s' k q;unfold isType loadHead;exact ZU (wpAny_loadPart (k _ _ (X _ _ ho)) (ZT q))
  .cases hZ
 have l3:PySem.W.Looks M h (isSubtype (.ref D) (.type "BaseException")) true:=looks_mroIn X qD;have l4:PySem.W.Looks M h (isSubtype (.ref C) (.ref D)) b:=looks_mroIn X qS;have l5:PySem.W.Looks M h (typeOf (.ref a)) (.ref C):=by
  intro A' Q' E' s' k q;rw[<- hc]at q;unfold typeOf;exact ZU (wpAny_loadPart (k _ _ he) (ZT q))
 unfold excMatches;refine ZU (l1.at ?_);simp only[XW,if_false];refine ZU (ZT ?_);simp only[List.forIn_cons,List.forIn_nil];unfold isExcClass;refine ZU (ZU (ZU (ZU (l2.at ?_))));simp only[if_true];refine l3.at ?_;simp only[Bool.not_true,XW,if_false];refine ZT (ZT (ZU (l5.at ?_)));refine ZU (ZU (ZU (l4.at ?_)));cases b with
 |true =>
  simp only[if_true];exact ZT (ZT (ZT hq))
 |false =>
  simp only[XW,if_false];exact ZT (ZT (ZT hq))
section
variable{X:Cx}{pos l7 np:Pos}{bz f6:List Stmt}{b₀:Stmt}{n Dn:Str}{D:Addr}{i:Nat}{tb:(Value->Ω->L2.St->Hp->Prop)->TS}{th:TS}
noncomputable def Ends.unset(R:Ends)(i:Nat):Ends:={ nx:=λσ H=>R.nx (σ.set i none) H,rt:=R.rt,bk:=λσ H=>R.bk (σ.set i none) H,ct:=λσ H=>R.ct (σ.set i none) H }
def ae2(K:Frag)(D:Addr)(i:Nat)(tb:(Value->Ω->L2.St->Hp->Prop)->TS)(th:TS):TS:=λR σ H =>
 ∃Ex:Value->Ω->L2.St->Hp->Prop,tb Ex R σ H/\∀C' d σ' H',Ex C' d σ' H'->∃C,C'=.ref C/\mroIn K C (.ref D)=some true /\
  ∀a,H' a=none->th (R.unset i) (σ'.set i (some (.ref a))) (upd H' a (XO a C d))
theorem aan(hN:X.N.Nodup)(hi:X.N[i]?=some n)(gu:X.env.scope.names.lookup n=some .local)(hgD:Gl X Dn)(hmD:X.mg Dn=some (.ref D))(qD:mroIn X.K D (.type "BaseException")=some true)
 (kH:typeIn X.K (.ref D)=some (.type "type"))(bE:X.stack=X.env::X.outer)(du:X.env.frame=some X.env.locals)(hex:X.ex=[])
 (hb:∀pn' E' Ex,abk (X.tryc pn' E') Ex->PSs (X.tryc pn' E') bz (tb Ex))(hh:∀a E',PSs (X.marked a E') (b₀::f6) th)(bu:qk Dn:=by decide) :
  PS X (.Try bz [.ExceptHandler (some (.Name Dn np)) (some n) (b₀::f6) l7] [] [] pos) (ae2 X.K D i tb th):=by
 intro aa s σ H R I h;obtain⟨Ex,h1,h2⟩:=h;refine wpAny_Try_except ?_;have ia:∀{Y:Cx}{pn:Γ}{f:Flow}{s':Shared},(∀{σ':L2.St}{H':Hp},Inv Y pn σ' H' s'->Inv X aa σ' H' s')->SP Y pn R f s'->SP X aa R f s':=λ{Y pn f s'}k q=>by
  cases f with
  |next=>obtain⟨σ',H',J,z⟩:=q;exact⟨σ',H',k J,z⟩
  |brk=>obtain⟨σ',H',J,z⟩:=q;exact⟨σ',H',k J,z⟩
  |cont=>obtain⟨σ',H',J,z⟩:=q;exact⟨σ',H',k J,z⟩
  |ret u=>obtain⟨v,σ',H',J,z⟩:=q;exact⟨v,σ',H',k J,z⟩
 refine wpAny_mono (hb (X.pn++aa) _ Ex ?_ [] s σ H R I.tryc h1) (λf s1 q=>?_) λ_ _ z=>z
 rotate_left
 .have q':=ia (λJ=>J.untry) q;cases f with
  |next=>exact wpAny_execs_nil q'
  |brk=>exact q'
  |cont=>exact q'
  |ret u=>exact q'
 intro dm σ1 H1 s1 a C' H' s' B d J F ex;have J0:Inv X aa σ1 H1 s1:=J.untry;obtain⟨C,rfl,qS,k⟩:=h2 C' d σ1 H' ex;have F0:Fly X.prog X.w X.stack H1 s1 a (.ref C) H' s' B d:=F;have fl0:uf B (X.env::X.outer) a (.ref C) d .none s'.heap:=by rw[<- bE];exact F0.fl
 show wpAny _ _ (noteFrame (.ref a) X.env) _ _ _;refine Ju (outer:=X.outer) (L:=X.env.locals) (I.ok.frames.trans (by rw[bE])) du fl0 λh₄ hJ sm₄=>?_;refine UL hJ λh₅ nX sm₅=>?_;have J5:Inv X aa σ1 H' { s' with heap:=h₅ }:=J0.flown F0 nX.1 (sm₄.trans sm₅);obtain⟨oe,vs,he,ff,_,hd⟩:=nX.first;refine wpAny_handleBy_cons (codeAny_handlers_test ?_) (by intro q;cases q);refine qu (X:=X.marked a (λ_ _=>False)) J5.marked hgD hmD ?_ bu;refine Ob (K:=X.K) J5.kIn qD kH he ff qS ?_;show codeAny _ _ _ _ _;refine codeAny_handlers_suite_as ?_;refine UL nX λh₆ fl₆ sm₆=>?_;have J6:Inv X aa σ1 H' { s' with heap:=h₆ }:=J0.flown F0 fl₆.1 ((sm₄.trans sm₅).trans sm₆);obtain⟨oe6,vs6,ky,j2,hda,mT⟩:=fl₆.first;have na:H' a=none:=by
  cases q:H' a with
  |none=>rfl
  |some u =>
   obtain⟨o',e'⟩:=(F0.hok a u q).there;have y:=F0.trk q e';rw[F0.fl.2.1]at y;cases y
 have ns:X.s₀.heap.get? a=none:=by
  cases q:X.s₀.heap.get? a with
  |none=>rfl
  |some o =>
   obtain⟨⟨u,z⟩,_⟩:=J0.old hex q;rw[F0.new]at z;cases z
 have nL:a≠X.env.locals:=λz=>by
  obtain⟨m,⟨o,es,ep,e,dd,_⟩,_⟩:=J6.loc;rw[<- z]at e;have e':h₆.get? a=some o:=e;rw[ky]at e';cases e';rw[mT]at dd;cases dd
 have nC:∀x c,X.env.cells.lookup x=some c->c≠a:=λx c e z=>by
  obtain⟨v,o,e',dd⟩:=J6.cell x c e;rw[z]at e';have e2:h₆.get? a=some o:=e';rw[ky]at e2;cases e2;rw[mT]at dd;cases dd
 have nP:∀p∈X.pn++aa,p.1≠a:=λp hp z=>by
  have:=(J0.pin p hp).1;rw[z,F0.new]at this;cases this
 have okx:dM X.prog X.w (upd H' a (XO a C d)) h₆ a (XO a C d):=⟨⟨oe6,ky,j2,hda,vs6,mT⟩,⟨oe6,ky⟩,λg1 g2 ⟨o,e1,e2⟩ kk=>⟨o,kk o e1,e2⟩⟩;have J7:Inv X aa σ1 (upd H' a (XO a C d)) { s' with heap:=h₆ }:=J6.track na ns nL nC nP okx;refine rK (X:=X.marked a (λ_ _=>False)) J7.marked hN hi (.inl gu) (v:=.ref a) rfl (λs8 J8=>?_) (.inr gu);have J8':Inv X aa (σ1.set i (some (.ref a))) (upd H' a (XO a C d)) s8:=J8.unmarked I.ok;refine wpAny_mono (hh a _ aa s8 _ _ _ J8'.marked (k a na)) (λf s9 q=>?_) λ_ _ z=>z;cases f with
 |next =>
  obtain⟨σ',H2,J9,z⟩:=q;exact(J9.unmarked I.ok).unname hN hi gu λie ib=>⟨_,_,ib,z⟩
 |brk =>
  obtain⟨σ',H2,J9,z⟩:=q;exact(J9.unmarked I.ok).unname hN hi gu λie ib=>⟨_,_,ib,z⟩
 |cont =>
  obtain⟨σ',H2,J9,z⟩:=q;exact(J9.unmarked I.ok).unname hN hi gu λie ib=>⟨_,_,ib,z⟩
 |ret u =>
  obtain⟨v,σ',H2,J9,rv,z⟩:=q;exact(J9.unmarked I.ok).unname hN hi gu λie ib=>⟨v,_,_,ib,rv,z⟩
end
structure Vv(K:Frag)(C:Addr):Prop where
 ga:findIn K (.ref C) "__getattribute__"=some (some (.builtin "BaseException.__getattribute__"))
 gn:findIn K (.ref C) "__getattr__"=some none
 cl:findIn K (.ref C) "__class__"=some (some (.builtin "object.__class__"))
 mo:mroIn K C (.type "object")=some true
 mb:mroIn K C (.type "BaseException")=some true
section
variable{prog:Program}{w:World}{A:Around}{E:Β}{h:Heap}{g:Array GenState}{d:Drawn}{t:Nat}{os:OsState}{a C:Addr}{o:Obj}{K:Frag}
theorem Aq{M:Model}(hx:h.get? a=some o)(hc:o.cls=.ref C):PySem.W.Looks M h (typeOf (.ref a)) (.ref C):=by
 intro A' Q' E' s' k q;rw[<- hc]at q;unfold typeOf;exact ZU (wpAny_loadPart (k _ _ hx) (ZT q))
theorem Kf{M:Model}{f':Value}{Q:Unit->Shared->Prop}(X:K.In h)(T:Vv K C)(hx:h.get? a=some o)(hc:o.cls=.ref C)(hq:Q () ⟨h,g,d,t,os⟩) :
  wpAny M A (checkBuiltinCall "BaseException.__getattribute__" ⟨[.ref a,f'],[]⟩) Q E ⟨h,g,d,t,os⟩:=by
 have hk:builtinKind "BaseException.__getattribute__"=some .slot:=by decide +kernel
 have g3:splitId "BaseException.__getattribute__"=some ("BaseException","__getattribute__"):=by decide +kernel
 have ha:=F.args_bexc_ga (.ref a) f';have LT:=Aq (M:=M) hx hc;have LB:=looks_mroIn (M:=M) X T.mb;simp only[checkBuiltinCall,hk,g3];refine ZU ?_;unfold isInstance
 repeat (first|with_reducible refine LT.at ?_|with_reducible refine LB.at ?_|(with_reducible refine wpAny_loadPart_at hx ?_;rw[hc])|wp_step)
 exact hq
end
noncomputable def ug(cells:List (Str×Addr)):List (Str×NameKind)->List (Str×Addr)->List (Str×Addr)
 |[],acc=>acc
 |(n,k)::r,acc=>ug cells r (if k == .free then(n,(cells.lookup n).getD 0)::acc else acc)
theorem Ti{scope:Scope}{env:Env}(h:∀y∈scope.names,y.2=.free->∃c,env.cells.lookup y.1=some c):closureFor scope env=pure (ug env.cells scope.names []):=by
 unfold closureFor;have go:∀(l:List (Str×NameKind))(acc:List (Str×Addr)),(∀y∈l,y.2=.free->∃c,env.cells.lookup y.1=some c) ->
   (forIn l acc (λ(x:Str×NameKind)(r:List (Str×Addr))=>if(x.2==NameKind.free)=true then(do let a <- cellOf env x.1;pure (ForInStep.yield ((x.1,a)::r)))else pure (ForInStep.yield r)):Sem (List (Str×Addr)))=pure (ug env.cells l acc):=by
  intro l
  induction l with
  |nil=>intro acc _;rfl
  |cons y r ih =>
   intro acc hy;obtain⟨n,k⟩:=y;rw[List.forIn_cons];by_cases hk:k=.free
   .subst hk;obtain⟨c,hc⟩:=hy (n,.free) aO rfl;have e1:cellOf env n=pure c:=by unfold cellOf;rw[show env.cells.lookup n=some c from hc]
    simp only[beq_self_eq_true,if_true,e1,pure_bind];rw[ih _ λz hz=>hy z (aJ _ hz)];show pure _=pure (ug env.cells r (if(NameKind.free==NameKind.free)=true then(n,(env.cells.lookup n).getD 0)::acc else acc));rw[show env.cells.lookup n=some c from hc]
    rfl
   .have hb:(k==NameKind.free)=false:=by simpa using hk
    simp only[hb,XW,if_false,pure_bind];rw[ih _ λz hz=>hy z (aJ _ hz)];show pure _=pure (ug env.cells r (if(k==NameKind.free)=true then(n,(env.cells.lookup n).getD 0)::acc else acc));rw[hb]
    rfl
 have e:=go scope.names [] h;show(forIn scope.names [] (λ(x:Str×NameKind)(r:List (Str×Addr))=>if(x.2==NameKind.free)=true then(do let a <- cellOf env x.1;pure (ForInStep.yield ((x.1,a)::r)))else pure (ForInStep.yield r)):Sem (List (Str×Addr))) >>= (λcs=>pure cs)=_;rw[e]
 rfl
theorem QC{cells:List (Str×Addr)} : ∀{names:List (Str×NameKind)}{acc:List (Str×Addr)}{x:Str}{c:Addr},(∀y∈names,y.2=.free->∃c,cells.lookup y.1=some c)->(x,c)∈ug cells names acc->(x,c)∈acc\/cells.lookup x=some c
 |[],_,_,_,_,h=>.inl h
 |(n,k)::r,acc,x,c,hf,h=>by
  unfold ug at h;rcases QC (λy hy=>hf y (aJ _ hy)) h with z|z
  .by_cases hk:k=.free
   .subst hk;simp only[beq_self_eq_true,if_true]at z;rcases YU.mp z with e|e
    .obtain⟨c',dk⟩:=hf (n,.free) aO rfl;cases e;rw[show cells.lookup n=some c' from dk];exact .inr rfl
    .exact .inl e
   .have hb:(k==NameKind.free)=false:=by simpa using hk
    simp only[hb,XW,if_false]at z;exact .inl z
  .exact .inr z
theorem Qw{cells:List (Str×Addr)} : ∀{names:List (Str×NameKind)}{acc:List (Str×Addr)}{x:Str},((x,NameKind.free)∈names\/∃c,(x,c)∈acc)->∃c,(x,c)∈ug cells names acc
 |[],_,_,h=>by
  rcases h with h|h
  .cases h
  .exact h
 |(n,k)::r,acc,x,h=>by
  unfold ug;refine Qw ?_;rcases h with h|⟨c,h⟩
  .rcases YU.mp h with e|e
   .cases e;exact .inr ⟨_,by simp only[beq_self_eq_true,if_true];exact aO⟩
   .exact .inl e
  .refine .inr ⟨c,?_⟩;split
   .exact aJ _ h
   .exact h
theorem o_{α:Type}{x:Str}{c:α} : ∀{l:List (Str×α)},(x,c)∈l->∃c',l.lookup x=some c'
 |(y,d)::r,h=>by
  rw[List.lookup_cons];cases hb:x==y with
  |true=>exact⟨d,rfl⟩
  |false =>
   rcases YU.mp h with e|e
   .cases e;simp at hb
   .exact o_ e
section
variable{X:Cx}{bg iter:Expr}{x:Str}{px pos:Pos}{scope:Scope}{wi:TI}{te:TE}
theorem Inv.nostk'{aa:Γ}{σ:L2.St}{H:Hp}{s:Shared}(I:Inv X aa σ H s){b:Addr}(h1:b≠X.env.locals)(h2:b∉X.fs):b∉frs X.stack:=λz=>by
 rcases YU.mp (I.stkSub b z)with e|e
 .exact h1 e
 .exact h2 e
theorem zj{env:Env} : ∀{names:List (Str×NameKind)}{y:Str},(names.map λ(n,k)=>if(k==NameKind.free&&env.scope.kind == .function&&env.kindOf n==some .cell)then(n,NameKind.cell)else(n,k)).lookup y=some .cell \/
  (names.map λ(n,k)=>if(k==NameKind.free&&env.scope.kind == .function&&env.kindOf n==some .cell)then(n,NameKind.cell)else(n,k)).lookup y=some .free->(∀z∈names,z.2≠.cell)->(y,NameKind.free)∈names
 |[],y,h,_=>by rcases h with h|h<;>cases h
 |(n,k)::r,y,h,hc=>by
  have ih:=@zj env r y;simp only[List.map_cons]at h;by_cases hcond:(k==NameKind.free&&env.scope.kind == .function&&env.kindOf n==some .cell)=true
  .rw[ZY hcond]at h;simp only[List.lookup_cons]at h;cases hb:y==n with
   |true =>
    have hk:k=.free:=by
     simp only[JS,beq_iff_eq]at hcond;exact hcond.1.1
    have:y=n:=by simpa using hb
    subst this hk;exact aO
   |false =>
    rw[hb]at h;exact aJ _ (ih h λz hz=>hc z (aJ _ hz))
  .rw[ZZ hcond]at h;simp only[List.lookup_cons]at h;cases hb:y==n with
   |true =>
    rw[hb]at h;have:y=n:=by simpa using hb
    subst this;rcases h with h|h
    .exact absurd (Option.some.inj h) (hc (y,k) aO)
    .have:k=.free:=Option.some.inj h;subst this;exact aO
   |false =>
    rw[hb]at h;exact aJ _ (ih h λz hz=>hc z (aJ _ hz))
end
section
variable{X:Cx}
def eqF:Ε->Ε->Bool
 |[],[]=>true
 |x::xs,y::ys=>eqV x y&&eqF xs ys
 |_,_=>false
theorem Inv.tupIs{aa:Γ}{σ:L2.St}{H:Hp}{s:Shared}{a:Addr}{xs:Ε}(I:Inv X aa σ H s)(h:H a=some (.tup xs)):∃its,Vals xs its/\IsTup s.heap a its.toArray/\s.heap.IsTuple a its.toArray:=by
 obtain⟨its,rv,ht,_⟩:=I.tuple (SqT.of h);exact⟨its,rv,ht,ht⟩
theorem Inv.lstIs{aa:Γ}{σ:L2.St}{H:Hp}{s:Shared}{a:Addr}{xs:Ε}(I:Inv X aa σ H s)(h:H a=some (.lst xs)):∃its,Vals xs its/\s.heap.IsList a its.toArray:=by
 obtain⟨its,rv,ht,_⟩:=I.list (SqL.of h);exact⟨its,rv,ht.isList⟩
end
open PySem.SeqAt in
section
variable{X:Cx}
structure PSB(X:Cx)(st:Stmt)(t:TS):Prop where
 out:PS X st t
structure abF(X:Cx)(b:List Stmt)(t:TS):Prop where
 out:PSs X b t
theorem Ws{st:Stmt}{rest:List Stmt}{t u:TS}(h1:PSB X st t)(h2:abF X rest u):abF X (st::rest) (WW t u):=⟨uL h1.out h2.out⟩
end
section
variable{P:Program}{w:World}{K:Frag}{mg:Str->Ψ}{base:Heap}
theorem Fun.okB{x af:Str}{st:Stmt}{f:Addr}{fd:FuncData}{N ps:Θ}{k:Nat}{sp:Sp}(F:Fun K x af st f fd)(S:bK N ps (bF st))(len:∀vs H Q E,sp vs H Q E->vs.length=ps.length)
 (be:∀(ah:Value)(A:Around)(outer:List Env)(s:Shared)(H:Hp)(vs:Ε)(Q:VK)(E:XK),dF k (A.deeper (envOfC af (bF st) s.heap.objs.size f ah))->sp vs H Q E ->
   ∃t,abF (zR CX0 P w K mg base N af (bF st) f ah A outer s H E).nox (dH st) t/\t { nx:=λ_ H'=>Q .non H',rt:=Q } (L2.start N vs) H):b_ P w K mg base CX0 (k+1) f fd ps sp :=
 F.ok S len λah A outer s H vs Q E hr eM=>let⟨t,h1,h2⟩:=be ah A outer s H vs Q E hr eM;⟨t,h1.out,h2⟩
end
mutual
inductive Shows(H:Hp):V->PyData->Prop
 |non:Shows H .non .none
 |bl (b:Bool):Shows H (.bl b) (.bool b)
 |int (i:Int):Shows H (.int i) (.int i)
 |str (x:Str):Shows H (.str x) (.str x)
 |lst {a:Addr}{xs:Ε}{ds:List PyData} : H a=some (.lst xs)->d7 H xs ds->Shows H (.ref a) (.list ds)
 |tup {a:Addr}{xs:Ε}{ds:List PyData} : H a=some (.tup xs)->d7 H xs ds->Shows H (.ref a) (.tuple ds)
inductive d7(H:Hp):Ε->List PyData->Prop
 |nil:d7 H [] []
 |cons {x:V}{xs:Ε}{d:PyData}{ds:List PyData} : Shows H x d->d7 H xs ds->d7 H (x::xs) (d::ds)
end
mutual
theorem Shows.same{H H':Hp}(S:Same H H'):∀{x:V}{d:PyData},Shows H x d->Shows H' x d
 |_,_,.non=>.non
 |_,_,.bl b=>.bl b
 |_,_,.int i=>.int i
 |_,_,.str x=>.str x
 |_,_,.lst e h=>.lst (S _ _ e) (d7.same S h)
 |_,_,.tup e h=>.tup (S _ _ e) (d7.same S h)
theorem d7.same{H H':Hp}(S:Same H H'):∀{xs:Ε}{ds:List PyData},d7 H xs ds->d7 H' xs ds
 |_,_,.nil=>.nil
 |_,_,.cons h t=>.cons (Shows.same S h) (d7.same S t)
end
theorem d7.ints(H:Hp):∀ns:List Int,d7 H (ns.map V.int) (ns.map PyData.int)
 |[]=>.nil
 |n::ns=>.cons (.int n) (d7.ints H ns)
section
variable{X:Cx}{aa:Γ}{σ:L2.St}{H:Hp}{s:Shared}
mutual
theorem Inv.reads(I:Inv X aa σ H s):∀{x:V}{d:PyData}{v:Value},Shows H x d->RelV x v->∃as,Reads s.heap v d as
 |_,_,_,.non,r=>by cases r;exact⟨_,.none⟩
 |_,_,_,.bl b,r=>by cases r;exact⟨_,.bool b⟩
 |_,_,_,.int i,r=>by obtain⟨t,rfl⟩:=r;exact⟨_,.int i t⟩
 |_,_,_,.str x,r=>by obtain⟨t,rfl⟩:=r;exact⟨_,.str x t⟩
 |_,_,_,.lst e h,r=>by
  cases r;obtain⟨its,rv,⟨o,ho,hc,n,hd⟩⟩:=I.lstIs e;obtain⟨as,q⟩:=Inv.readsAll I h rv;exact⟨_,.list ho hc hd q⟩
 |_,_,_,.tup e h,r=>by
  cases r;obtain⟨its,rv,_,⟨o,ho,hc,n,hd⟩⟩:=I.tupIs e;obtain⟨as,q⟩:=Inv.readsAll I h rv;exact⟨_,.tuple ho hc hd q⟩
theorem Inv.readsAll(I:Inv X aa σ H s):∀{xs:Ε}{ds:List PyData}{vs:Δ},d7 H xs ds->Vals xs vs->∃as,ReadsAll s.heap vs ds as
 |_,_,_,.nil,r=>by cases r;exact⟨_,.nil⟩
 |_,_,_,.cons h t,r=>by
  cases r with
  |cons r1 r2 =>
   obtain⟨a,q1⟩:=Inv.reads I h r1;obtain⟨b,q2⟩:=Inv.readsAll I t r2;exact⟨_,.cons q1 q2⟩
end
def aiX:Ε->Hp->VK->Prop:=λxs H Q=>∃(l:Addr)(ns:List Int),xs=[.ref l]/\H l=some (.lst (ns.map V.int))/\Q (.int ns.sum) H
theorem W9(hc:X.calm=true):h_ X (.builtin "sum") aiX:=by
 intro aa s σ H xs us Q I r h;obtain⟨l,ns,rfl,hl,q⟩:=h;obtain⟨u,rfl,ru⟩:=r.one;cases ru;obtain⟨its,rv,p⟩:=I.lstIs hl;have hI:=intsAre_of rv;obtain⟨xs,e⟩:=hI.allInts.items;have hn:=hI.numsOf;rw[show its=its.toArray.toList from rfl,e,nums_intItems]at hn;rw[e]at p;refine sum_intListG (I.ok.hd hc) p λh' tk t' k=>⟨.int ns.sum,H,I.kept k,?_,q⟩;rw[preSum_eq,Zzz (by simp),hn];exact⟨_,rfl⟩
end
section
variable{X:Cx}
def tM(t:TE):TE:=λσ H Q=>∃R:VK,t σ H R/\∀x H',R x H'->Q x H'
def tMA(t:TA):TA:=λσ H Q=>∃R:Ε->Hp->Prop,t σ H R/\∀x H',R x H'->Q x H'
theorem PE.mono{a:Expr}{t:TE}(h:PE X a t):PE X a (tM t):=λaa s σ H Q I ⟨R,h1,h2⟩ =>
 thn (h aa s σ H R I h1) λv s' hP=>by obtain⟨x,H',I',r,q⟩:=hP;exact⟨x,H',I',r,h2 x H' q⟩
theorem PA.mono{es:List Expr}{t:TA}(h:PA X es t):PA X es (tMA t):=λpos aa s σ H Q I ⟨R,h1,h2⟩ =>
 thn (h pos aa s σ H R I h1) λv s' hP=>by obtain⟨x,H',I',r,q⟩:=hP;exact⟨x,H',I',r,h2 x H' q⟩
theorem PE.imp{a:Expr}{t t':TE}(h:PE X a t)(i:∀σ H Q,t' σ H Q->t σ H Q):PE X a t':=λaa s σ H Q I q=>h aa s σ H Q I (i σ H Q q)
def akO(to:TE)(t:TA):TE:=λσ H Q=>to σ H λx H1=>∃l xs,x=.ref l/\H1 l=some (.lst xs)/\t σ H1 λvs H2=>∃y ys,vs=[y]/\H2 l=some (.lst ys)/\ys.length<sizeLine/\Q .non (upd H2 l (.lst (ys++[y])))
abbrev qr(X:Cx)(a:Pos)(e:Expr):Prop:=((backTo a (starEach [e] X.env)).all (λx=>!x.1)&&(backToKw a (keywordEach [] X.env)).all (λx=>x.1.isSome)&&decide ([e].length+([] : List Keyword).length+(if([] : List Keyword).isEmpty then 0 else 1)<30))=true
theorem RM{o e:Expr}{to:TE}{t:TA}{ai ag:Pos}(ho:PE X o to)(ha:PA X [e] t)(hb:attributeBase o "append" X.env (eval o X.env)=eval o X.env:=by rfl)
 (hf:qr X ag e:=by rfl)
 (hl:zw ai ag:=by rfl)(hs:qo X e []:=by rfl)(hp:qh X ag []:=by rfl) :
  PE X (.Call (.Attribute o "append" ai) [e] [] ag) (akO to t):=by
 refine(ac8 PySem.F.plainAttrs_list PySem.F.slot_list_append PySem.F.type_list_append JG ho.mono ha.mono hb hf hl hs hp).imp λσ H Q h=>?_;refine⟨_,h,?_⟩;rintro x H1 ⟨l,xs,rfl,hx,h2⟩;refine⟨.inl ⟨rfl,_,SqL.of hx⟩,_,h2,?_⟩;rintro vs H2 ⟨y,ys,rfl,hy,hz,q⟩;exact⟨l,ys,y,rfl,rfl,hy,hz,q⟩
def ae5:Ε->Hp->VK->Prop:=λxs H Q=>∃p ys,xs=[.ref p]/\H p=some (.lst ys)/\∀l,H l=none->Q (.ref l) (upd H l (.lst ys))
theorem Ss:h_ X (.type "list") ae5:=Nu.imp λxs H Q hP=>by obtain⟨p,ys,a,b,c⟩:=hP;exact⟨p,ys,a,.inl (.of b),c⟩
end
mutual
theorem Sx:∀ns:List Int,PyData.canLayAll0 (ns.map PyData.int)=true
 |[]=>rfl
 |n::ns=>by
  rw[List.map_cons];unfold PyData.canLayAll0;rw[Sx ns];rfl
end
inductive FL(H:Hp):Ε->List Ξ->Prop
 |nil:FL H [] []
 |cons {p:Addr}{f:Ξ}{xs:Ε}{fs:List Ξ} : H p=some (.tup [.int f.1,.int f.2])->FL H xs fs->FL H (.ref p::xs) (f::fs)
noncomputable def Its(x:Str):It:=⟨λi _=>i<x.cps.size,λi H v H'=>H'=H/\∃c,x.cps[i]?=some c/\v=.str ⟨#[c]⟩,λi _=>i=x.cps.size⟩
theorem Oo{P:Program}{w:World}{K:Frag}{tg:Expr}(it:Addr)(x:Str)(t:Tok)(ty:String)(gX : ["enumerate","zip","dict_itemiterator","dict_reverseitemiterator","odict_iterator","itertools.zip_longest","itertools.pairwise"].contains ty=false)
 (W:∀A:Around,A.handled=none->Walks P w A it [it] [it] x.cps.size (SignAt x) (λi h=>h.IsStrIter it ty x t i))
 (i9:∀(A:Around)(i:Nat)(s:Shared)(Q:Β)(E:Β),s.heap.IsStrIter it ty x t i->Q (.ref it) s->wpAny (model P w) A (pyIter (.ref it)) Q E s):Turn P w K tg (Its x) [it] it (λi h=>h.IsStrIter it ty x t i) where
 mem:=by simp
 obj:=λi h st b hb=>by
  have e:b=it:=by simpa using hb
  subst e;obtain⟨o,ho,_,hd⟩:=st;exact⟨o,ho,λv z=>by rw[hd]at z;cases z⟩
 keep:=λi h h' st k=>let⟨o,ho,r⟩:=st;⟨o,k it (by simp) o ho,r⟩
 item:=by
  intro X hP hw hK hc i aa s σ H E I hf st hg;subst hP hw hK;obtain⟨f0,f1,f2,f3,f4,f5⟩:=hf it (by simp);refine(W X.A (I.ok.hd hc)).item i s _ _ hg st λv h' tk hv di kk=>?_;obtain⟨c,u,hx,rfl⟩:=hv;have I1:Inv X aa σ H { s with heap:=h',toks:=tk }:=I.turned (λb o hb e=>kk b o (by simpa using hb) e) f0 f1 f3 f4 f5;obtain⟨o,ho,hV,hd⟩:=id di;exact⟨_,rfl,Qo (s:={ s with heap:=h',toks:=tk }) ho hV hd gX ⟨.str ⟨#[c]⟩,H,I1,⟨u,rfl⟩,⟨rfl,c,hx,rfl⟩,di,λb hb=>(hf b hb).1⟩⟩
 done:=by
  intro X hP hw hK hc i aa s σ H E I hf st hg;subst hP hw hK;obtain⟨f0,f1,f2,f3,f4,f5⟩:=hf it (by simp);have my:i=x.cps.size:=hg;subst my;exact(W X.A (I.ok.hd hc)).done s _ _ st λh' tk kk=>⟨rfl,I.turned (λb o hb e=>kk b o (by simpa using hb) e) f0 f1 f3 f4 f5⟩
 self:=i9
section
variable{X:Cx}{tg:Expr}
def alG(te:TE):TI:=λσ H R=>te σ H λv H1=>∃x,v=.str x/\R (Its x) H1
theorem afG{l:Expr}{tl:TE}(hl:PE X l tl):PI X tg l (alG tl):=by
 intro aa s σ H R I h;refine thn (hl aa s σ H _ I h) λv s1 hP=>?_;obtain⟨x,H1,I1,r1,y,ey,q⟩:=hP;subst ey;obtain⟨t,rfl⟩:=r1;have fp:∀b∈[s1.heap.objs.size],Di X aa H1 b:=λb hb=>by
  have e:b=s1.heap.objs.size:=by simpa using hb
  subst e;exact I1.fpOk (aG _) (I1.hok.fresh (aG _))
 have k:∀o:Obj,Inv X aa σ H1 { s1 with heap:=s1.heap.push o }:=λo=>I1.kept (t':=s1.toks) λb ob z=>aH _ z;cases ha:y.cps.all (· < 128)
 .exact wpAny_pyIter_wide ha ⟨s1.heap.objs.size,[s1.heap.objs.size],_,Its y,H1,rfl,k _,Oo _ y t "str_iterator" (by decide) (λA hA=>Walks.strWide hA _ y t) (λA i s Q E st h=>wpAny_pyIter_striter_wide st h),⟨_,aW _ rfl,rfl,rfl⟩,fp,q⟩
 .exact wpAny_pyIter_ascii ha ⟨s1.heap.objs.size,[s1.heap.objs.size],_,Its y,H1,rfl,k _,Oo _ y t "str_ascii_iterator" (by decide) (λA hA=>Walks.strAscii hA _ y t) (λA i s Q E st h=>wpAny_pyIter_striter_ascii st h),⟨_,aW _ rfl,rfl,rfl⟩,fp,q⟩
end
noncomputable def Dp(x:Str)(lo hi:Option Int):Str:=⟨((x.cps.toList.drop (HT.sIx x.length 0 lo)).take (HT.sIx x.length x.length hi-HT.sIx x.length 0 lo)).toArray⟩
theorem strIdx(lo hi:Option Int)(n:Nat):Builtin.Str.strSliceIndices lo hi 1 n=(List.range (HT.sIx n n hi-HT.sIx n 0 lo)).map (HT.sIx n 0 lo + ·):=by
 rw[<- sliceRange_one];unfold Builtin.Str.strSliceIndices;have h1:∀(o:Option Int)(d:Nat),d<=n->(match o with
   |none=>(d:Int)
   |some i=>(let i:=if i<0 then i+(n:Int)else i;if(1:Int)>0 then max 0 (min i n)else max (-1) (min i (n-1))))=((HT.sIx n d o:Nat):Int):=by
  intro o d hd;cases o with
  |none=>rfl
  |some i =>
   simp only[HT.sIx,show(1:Int)>0 by decide,if_true];by_cases h:i<0
   .simp only[h,if_true]<;>lia
   .simp only[h,if_false]<;>lia
 have e1:=h1 lo 0 (aZ _);have e2:=h1 hi n (aG _);simp only[show(1:Int)>0 by decide,if_true]at e1 e2 ⊢;rw[<- e1,<- e2]
 rfl
theorem acz(x:Str)(lo hi:Option Int):(⟨((Builtin.Str.strSliceIndices lo hi 1 x.length).filterMap (x.cps[·]?)).toArray⟩ : Str)=Dp x lo hi:=by
 rw[strIdx,pick_run];rfl
theorem RZ(x:Str)(lo hi:Option Int)(h:(Builtin.Str.strSliceIndices lo hi 1 x.length).length=x.length):Dp x lo hi=x:=by
 rw[strIdx,ak,WJ]at h;have h2:=HT.ad2 x.length x.length (aG _) hi;unfold Dp;have hx:x.length=x.cps.size:=rfl;have e:x.cps.toList.length=x.length:=by simp[hx]
 by_cases z:x.length=0
 .have:x.cps.toList=[]:=List.length_eq_zero_iff.mp (Eq.trans e z);rw[this];obtain⟨⟨l⟩⟩:=x;simp at this;subst this;simp
 .have e0:HT.sIx x.length 0 lo=0:=by lia
  rw[e0,List.drop_zero,Zzz (by lia)]
def aly:V->Option Int->Option Int->Hp->VK->Prop:=λx lo hi H Q=>∃y,x=.str y/\y.length<=sizeLine/\Q (.str (Dp y lo hi)) H
theorem part_of{v:Value}{o:Option Int}(h:IsPart v o):∃l:Option (Int×Tok),v=partValue l/\l.map (·.1)=o:=by
 cases h with
 |none=>exact⟨none,rfl,rfl⟩
 |int i t=>exact⟨some (i,t),rfl,rfl⟩
theorem afW{X:Cx} : SlR X aly:=by
 intro aa s σ H x v vl vu lo hi sl Q I rx hs pl pu h;obtain⟨y,rfl,hz,q⟩:=h;obtain⟨t,rfl⟩:=rx;obtain⟨l,rfl,el⟩:=part_of pl;obtain⟨u,rfl,eu⟩:=part_of pu;refine⟨"str",_,F.slot_str_getitem.lookup,typeIs_str s y t,wpAny_getItem_str_slice (l:=l) (u:=u) (st:=none) hs rfl ?_⟩;unfold sliceMade slicePicked;rw[el,eu];split
 .rename_i hw
  have kn:=(Bool.and_eq_true_iff.mp hw).2;rw[beq_iff_eq]at kn;have e:=RZ y lo hi kn;rw[e]at q;exact⟨.str y,H,I,⟨t,rfl⟩,q⟩
 .have e:=acz y lo hi;refine⟨?_,.str (Dp y lo hi),H,I.tok _,⟨s.toks,?_⟩,q⟩
  .refine aL ?_ hz;refine aL (WH (ZH Str.length e)) ?_;show((y.cps.toList.drop _).take _).toArray.size<=y.cps.size;rw[aX,aY,UP,Array.length_toList];lia
  .rw[<- e];rfl
section
variable{X:Cx}
def aiN:R2:=λx y H Q=>∃i j,x=.str i/\y=.str j/\i.length+j.length<=sizeLine/\Q (.str (i++j)) H
theorem aaS:OpR X (binaryOp .Add) aiN:=Rk
def amV:R2:=λx y H Q=>∃i j,x=.str i/\y=.str j/\Q (.bl (!decide (j.cps.toList<i.cps.toList))) H
theorem adF:OpR X (compareOp .LtE) amV:=by
 intro aa s σ H x y v u Q I rx ry h;obtain⟨i,j,rfl,rfl,q⟩:=h;obtain⟨t,rfl⟩:=rx;obtain⟨t',rfl⟩:=ry;exact PySem.P.le_str (cR I q rfl)
theorem OpR.imp{f:Value->Value->Sem Value}{r r':R2}(h:OpR X f r)(i:∀x y H Q,r' x y H Q->r x y H Q):OpR X f r':=λaa s σ H x y v u Q I rx ry q=>h aa s σ H x y v u Q I rx ry (i _ _ _ _ q)
theorem JC:∀{bs:List Bool}{us:Δ},Vals (bs.map V.bl) us->∀(i:Nat)(v:Value),us[i]?=some v->∃b,bs[i]?=some b/\v=.bool b
 |[],_,.nil,i,v,h=>by cases i<;>cases h
 |b::bs,_,.cons r t,0,v,h=>by
  rw[List.getElem?_cons_zero]at h;cases h;exact⟨b,rfl,r⟩
 |b::bs,_,.cons r t,i+1,v,h=>by
  rw[List.getElem?_cons_succ]at h;exact JC t i v h
def aji:Ε->Hp->VK->Prop:=λxs H Q=>∃(l:Addr)(bs:List Bool),xs=[.ref l]/\H l=some (.lst (bs.map V.bl))/\Q (.bl (bs.all id)) H
theorem t_:∀bs:List Bool,((List.range bs.length).all λi=>(bs[i]?).getD true)=bs.all id
 |[]=>rfl
 |b::bs=>by
  rw[List.length_cons,List.range_succ_eq_map,List.all_cons,List.all_map,List.all_cons];have:=t_ bs;simp only[Function.comp_def,List.getElem?_cons_succ,List.getElem?_cons_zero,Option.getD_some,id]at this ⊢;rw[this]
theorem V5(hc:X.calm=true):h_ X (.builtin "all") aji:=by
 intro aa s σ H xs us Q I r h;obtain⟨l,bs,rfl,hl,q⟩:=h;obtain⟨u,rfl,ru⟩:=r.one;cases ru;obtain⟨its,rv,p⟩:=I.lstIs hl;have eK:l<s.heap.objs.size:=by obtain⟨_,e,_⟩:=p;exact aK e
 refine call_all_walk (wpAny_pyIter_list p ?_);refine⟨s.heap.objs.size,[s.heap.objs.size,l],[s.heap.objs.size],its.toArray.size,_,_,λi=>(bs[i]?).getD true,rfl,Walks.list (A:=X.A.in1) (I.ok.hd hc) _ l (aQ eK) its.toArray,
  ⟨⟨_,aW _ rfl,rfl,rfl⟩,p.push _⟩,λi v s' Q' E' hP hQ=>?_,λh' tk hk=>?_⟩
 .obtain⟨b,e,rfl⟩:=JC rv i v (by simpa using hP);simp only[e,Option.getD_some]at hQ;exact wpAny_truthy_bool hQ
 .have e:((List.range its.toArray.size).all λi=>(bs[i]?).getD true)=bs.all id:=by
   rw[aX,<- rv.length,ak];exact t_ bs
  refine⟨.bl (bs.all id),H,I.kept (t':=tk) λb o q=>hk b o (λhm=>?_) (aH _ q),?_,q⟩
  .rw[YR.mp hm]at q;exact X9 _ (aK q)
  .rw[e];rfl
def tSM(r:V->Ε->Hp->VK->Prop)(to:TE)(t:TA):TE:=λσ H Q=>to σ H λx H1=>(∃y,x=.str y)/\t σ H1 λvs H2=>r x vs H2 Q
theorem agi{o e:Expr}{to:TE}{t:TA}{name:Str}{id:String}{r:V->Ε->Hp->VK->Prop}{ai ag:Pos}(slot:Slot "str" name id)(gX:typeOf (.builtin id)=pure (.type "method_descriptor"))(hm:MtM X id r)(ho:PE X o to)(ha:PA X [e] t)
 (hb:qB X o name:=by rfl)
 (hf:qr X ag e:=by rfl)
 (hl:zw ai ag:=by rfl)(hs:qo X e []:=by rfl)(hp:qh X ag []:=by rfl) :
  PE X (.Call (.Attribute o name ai) [e] [] ag) (tSM r to t):=by
 refine(ac8 PySem.F.plainAttrs_str slot gX hm ho.mono ha hb hf hl hs hp).imp λσ H Q h=>?_;refine⟨_,h,?_⟩;rintro x H1 ⟨⟨y,rfl⟩,h2⟩;exact⟨rfl,h2⟩
theorem ZD{x:Str}{v:V}{pos:Pos}(hg:Gl X x)(hm:∃u,X.mg x=some u/\RelV v u)(hd:qk x:=by decide):PE X (.Name x pos) (tC v):=by
 obtain⟨u,h1,h2⟩:=hm;exact Uz hg h1 h2 hd
theorem Xp{st:Stmt}{t:TS}(h1:PSB X st t):abF X [st] t:=⟨rY h1.out⟩
end
noncomputable def hid(y:Str):Str:=Str.ofString "?"++y
def J3(xs:Θ)(N:Θ):Θ:=N.map λy=>if y∈xs then hid y else y
def Cx.compG(X:Cx)(N':Θ)(scope:Scope)(xs:Θ)(C:Addr)(s₀:Shared)(H₀:Hp)(ex:Φ)(pn:Γ):Cx :=
 { X with env:=compEnvC scope (ug X.env.cells scope.names []) C X.env,N:=xs++N',s₀:=s₀,H₀:=H₀,outer:=X.stack,ex:=ex,fn:=λ_=>false,pn:=pn,xe:=λ_ _=>False }
def PTs(X:Cx)(az:List Expr)(tc:TT):Prop:=∀(aa:Γ)(s:Shared)(σ:L2.St)(H:Hp)(Q:Bool->Hp->Prop),Inv X aa σ H s->tc σ H Q ->
 wpAny (model X.prog X.w) X.A (forIn az true λc r=>if r=true then do let ok <- isTrue c X.env (eval c X.env);pure (ForInStep.yield ok)else pure (ForInStep.yield r)) (λb s'=>∃H',Inv X aa σ H' s'/\Q b H') X.xe s
def akL:TT:=λ_ H Q=>Q true H
theorem acI{X:Cx} : PTs X [] akL:=λ_ _ _ H _ I q=>wpAny_tests_nil ⟨H,I,q⟩
theorem abf{X:Cx}{c:Expr}{tc:TT}(h:PT X c tc):PTs X [c] tc:=λaa s σ H Q I q=>wpAny_tests_one (h aa s σ H Q I q)
def qy(wi:TI)(n:Nat)(gt:TG)(tc:TT)(te:TE):TE:=λσ H Q=>wi σ H λJ H1=>∀D,H1 D=none->∃W:Nat->Nat->Ε->Hp->Prop,(∃m,W 0 m [] (upd H1 D (.lst [])))/\∀i m ys Hc,W i m ys Hc ->
 (J.stop i Hc/\Q (.ref D) Hc)\/(J.go i Hc/\∀x H',J.yld i Hc x H'->∀pre:L2.St,pre.length=n->gt x (pre++σ) H' λσ2 H2=>∃b8:L2.St,b8.length=n/\σ2=b8++σ/\tc σ2 H2 λb H3 =>
  match b with
  |true=>te σ2 H3 λy H4=>ys.length<sizeLine/\H4 D=some (.lst ys)/\∃m',m'<m/\W (i+1) m' (ys++[y]) (upd H4 D (.lst (ys++[y])))
  |false=>∃m',m'<m/\W (i+1) m' ys H3)
def Cx.compE(X:Cx)(ext:Addr->List (Str×Addr))(fn:Str->Bool)(N':Θ)(scope:Scope)(xs:Θ)(C:Addr)(s₀:Shared)(H₀:Hp)(ex:Φ)(pn:Γ):Cx :=
 { X with env:=compEnvC scope (ext C++ug X.env.cells scope.names []) C X.env,N:=xs++N',s₀:=s₀,H₀:=H₀,outer:=X.stack,ex:=ex,fn:=fn,pn:=pn,xe:=λ_ _=>False }
structure QH(X:Cx)(scope:Scope)(xs:Θ)(ext:Addr->List (Str×Addr))(fn:Str->Bool):Prop where
 new:∀{M:Model}{A:Around}{E:Β}{s:Shared}{globals:Addr}{bS:List (Str×Addr)}{af:Str}{outer:Env}{Q:Env->Shared->Prop},(∀g,g.Ns s.heap.objs.size (λx=>([] : List (Str×Value)).reverse.lookup x)->(∀y c,(ext s.heap.objs.size).lookup y=some c->g.IsCell c none)->(∀b o,s.heap.get? b=some o->g.get? b=some o)->Q (newEnv scope s.heap.objs.size globals (ext s.heap.objs.size++bS) af none .none (some outer) builtinsNs) { s with heap:=g,toks:=s.toks+([] : List (Str×Value)).length }) ->
  wpAny M A (newFunctionEnv scope globals bS [] af none .none (some outer)) Q E s
 up:∀C y c,(ext C).lookup y=some c->C<c
 one:∀C y z c,(ext C).lookup y=some c->(ext C).lookup z=some c->y=z
 nw:∀C y,fn y=true->∃c,(ext C).lookup y=some c
 off:∀C y,y∉xs->(ext C).lookup y=none
 kd:∀C y,((relabel scope X.env).names.lookup y=some .cell\/(relabel scope X.env).names.lookup y=some .free)->(∃c,(ext C).lookup y=some c)\/(y,NameKind.free)∈scope.names
theorem ahj{X:Cx}{scope:Scope}{xs:Θ}(hk:scope.kind=.function)(cy:∀y∈scope.names,y.2≠.cell):QH X scope xs (λ_=>[]) (λ_=>false) :=
 ⟨λhQ=>wpAny_newFunctionEnv cy (by intro y hy;simp at hy) (λg eh hsb=>hQ g eh (λ_ _ z=>(nomatch z)) λb o e=>(hsb.2 b (aQ (aK e))).trans (aH _ e)) hk,λ_ _ _ z=>(nomatch z),λ_ _ _ _ z=>(nomatch z),λ_ _ z=>(nomatch z),λ_ _ _=>rfl,λ_ _ e=>.inr (zj e cy)⟩
section
variable{X:Cx}{bg iter:Expr}{pos:Pos}{scope:Scope}{wi:TI}{te:TE}
theorem JB{ext:Addr->List (Str×Addr)}{fn:Str->Bool}{use:Option (Value->Sem Unit)}{post:Β}{Qv:VK}{aa:Γ}{s:Shared}{σ:L2.St}{H:Hp}{pp:Pos}{xs N':Θ}{tg:Expr}{az:List Expr}{gt:TG}{tc:TT}(E:QH X scope xs ext fn)(hc:X.calm=true)(gh:J3 xs X.N=N')(cf:scope.kind=.function)(cx:∀y∈scope.names,y.2=.local->scope.names.lookup y.1=some .local)
 (ce:∀y∈scope.names,y.2=.free->X.env.kindOf y.1=some .cell\/X.env.kindOf y.1=some .free)(fb:∀y∈X.N,y∉xs->(relabel scope X.env).names.lookup y≠some .local)(hq:∀y∈X.N,y∈xs->(relabel scope X.env).names.lookup (hid y)=none)(hi:PI X tg iter wi)
 (hg:∀C s₀ H₀ ex pn,PG (X.compE ext fn N' scope xs C s₀ H₀ ex pn) tg gt)(ht:∀C s₀ H₀ ex pn,PTs (X.compE ext fn N' scope xs C s₀ H₀ ex pn) az tc)(he:∀C s₀ H₀ ex pn,PE (X.compE ext fn N' scope xs C s₀ H₀ ex pn) bg te)(hs:qV X iter)(I:Inv X aa σ H s)(h:qy wi xs.length gt tc te σ H Qv)
 (oj:∀(C D:Addr)(Hc:Hp)(s6:Shared)(m:Str->Ψ)(fl:Flow),s6.heap.Ns C m->Inv X aa σ Hc s6->Di X aa Hc C->Qv (.ref D) Hc->compPost (model X.prog X.w) X.A X.xe use post (.ref D) C (.ok fl) s6) :
  wpAny (model X.prog X.w) X.A (comprehension (.ListComp bg [⟨tg,iter,az,0⟩] scope pos) scope X.env pp (newList []) false (eval iter X.env) use) post X.xe s:=by
 have du:∀y∈scope.names,y.2=.free->∃c,X.env.cells.lookup y.1=some c:=λy hy e=>I.ok.has y.1 (ce y hy e);refine wpAny_comprehension_free (use:=use) (Q:=post) rfl hs (Ti du) cf cx (thn (hi aa s σ H _ I h) λv s1 h1=>thn h1 λlh s2 h2=>?_);obtain⟨it,fp,tn,J,H2,e,I2,T,f7,f2,R⟩:=h2;subst e;have nD:H2 s2.heap.objs.size=none:=I2.hok.fresh (aG _);obtain⟨W,⟨m0,w0⟩,eQ⟩:=R s2.heap.objs.size nD;refine wpAny_newObj_type ?_ (by show 0<=sizeLine;exact aZ _);have I3:Inv X aa σ (upd H2 s2.heap.objs.size (.lst [])) { s2 with heap:=s2.heap.push { cls:=.type "list",dict:=none,data:=.seq ([] : Δ).toArray } }:=I2.lnew (t':=s2.toks) (ys:=[]) (its:=[]) .nil (aZ _);have kU:∀b o,s2.heap.get? b=some o->(s2.heap.push { cls:=.type "list",dict:=none,data:=.seq ([] : Δ).toArray }).get? b=some o:=λb o e=>aH _ e;generalize hs3:({ s2 with heap:=s2.heap.push { cls:=.type "list",dict:=none,data:=.seq ([] : Δ).toArray } } : Shared)=s3 at I3 ⊢;have ic:tn 0 s3.heap:=T.keep _ _ _ f7 λb _ o e=>by rw[<- hs3];exact kU b o e
 generalize hH3:upd H2 s2.heap.objs.size (.lst [])=H3 at I3 w0;have f3:∀b∈fp,Di X aa H3 b:=λb hb=>by
  obtain⟨a1,a2⟩:=f2 b hb;refine⟨?_,a2⟩;obtain⟨o,e,_⟩:=T.obj _ _ f7 b hb;rw[<- hH3,bR (aQ (aK e))];exact a1
 refine E.new λg eh hV kg=>?_;have clm:∀{y:Str}{c:Addr},(ug X.env.cells scope.names []).lookup y=some c->X.env.cells.lookup y=some c:=λ{y c}e=>by
  rcases QC du (PySem.mem_of_lookup e)with z|z
  .cases z
  .exact z
 have gd:∀{y:Str},(ext s3.heap.objs.size).lookup y=none->((relabel scope X.env).names.lookup y=some .cell\/(relabel scope X.env).names.lookup y=some .free)->(X.env.kindOf y=some .cell\/X.env.kindOf y=some .free)/\∃c,(ext s3.heap.objs.size++ug X.env.cells scope.names []).lookup y=some c/\X.env.cells.lookup y=some c:=λ{y}ny e=>by
  rcases E.kd s3.heap.objs.size y e with⟨c,z⟩|z
  .rw[ny]at z;cases z
  .obtain⟨c,dk⟩:=Qw (cells:=X.env.cells) (acc:=[]) (.inl z);obtain⟨c,dk⟩:=o_ dk;exact⟨ce _ z rfl,c,by rw[List.lookup_append,ny];exact dk,clm dk⟩
 have kb:∀{y:Str}{c:Addr},(ext s3.heap.objs.size++ug X.env.cells scope.names []).lookup y=some c->(ext s3.heap.objs.size).lookup y=some c\/X.env.cells.lookup y=some c:=λ{y c}e=>by
  rw[List.lookup_append]at e;cases hy:(ext s3.heap.objs.size).lookup y with
  |some d=>rw[hy]at e;exact .inl e
  |none=>rw[hy]at e;exact .inr (clm e)
 have cll:∀{y z c},(ext s3.heap.objs.size).lookup z=some c->¬X.env.cells.lookup y=some c:=λ{y z c}e1 e=>by
  obtain⟨v,o,h1,_⟩:=I3.cell y c e;exact X9 _ (Ts (aK h1) (E.up _ _ _ e1))
 have k6:∀b∈fp,b<s3.heap.objs.size:=λb hb=>by
  obtain⟨o,e,_⟩:=T.obj _ _ ic b hb;exact aK e
 have nst:∀b∈fp,b∉frs X.stack:=λb hb=>I3.nostk' (f3 b hb).2.1 (f3 b hb).2.2.1;have cfp:∀b∈fp,∀y c,(ext s3.heap.objs.size++ug X.env.cells scope.names []).lookup y=some c->c≠b:=λb hb y c e=>by
  rcases kb e with z|z
  .exact VQ (Ts (k6 b hb) (E.up _ _ _ z))
  .exact(f3 b hb).2.2.2.2.1 y c z
 generalize hX:X.compE ext fn N' scope xs s3.heap.objs.size s3 H3 fp (X.pn++aa)=Y;have ok':Y.Ok:=by
  subst hX;exact⟨I3.ok.mod,cf,I3.ok.glob,I3.ok.blt,aG _,λy z c h1 h2=>by
    rcases kb h1 with e1|e1<;>rcases kb h2 with e2|e2
    .exact E.one _ _ _ _ e1 e2
    .exact absurd e2 (cll e1)
    .exact absurd e1 (cll e2)
    .exact I3.ok.inj y z c e1 e2,λy hy=>by
    cases hz:(ext s3.heap.objs.size).lookup y with
    |some c=>exact⟨c,List.lookup_append.trans (by rw[hz];rfl)⟩
    |none=>exact let⟨_,c,q,_⟩:=gd hz hy;⟨c,q⟩,λy c jI e=>by
    obtain⟨d,z⟩:=E.nw s3.heap.objs.size y jI;have e:(ext s3.heap.objs.size++ug X.env.cells scope.names []).lookup y=some c:=e;rw[List.lookup_append,z]at e;cases e;exact Y2 (E.up _ _ _ z),I3.ok.hd,I3.ok.frames,.inl rfl,
   λb hb=>⟨aQ (k6 b hb),cfp b hb⟩,I3.bs,aL I3.ok.bsz I3.sz,λb o e hb=>by
    rcases(f3 b hb).2.2.2.1 with z|z
    .exact I3.ok.noex b o e z
    .exact absurd (aR (aR (aK e) I3.ok.bsz) z) (X9 _),nst,I3.stack,I3.stkFree⟩
 have J4:∀tk,Inv Y [] (List.replicate xs.length none++σ) H3 { s3 with heap:=g,toks:=tk }:=λtk=>by
  subst hX;refine⟨ok',rfl,I3.bare,Un.kept kg,⟨_,eh,λi y v e1 e2 e3=>?_⟩,λy c e=>?_,I3.hok.fresh (aG _),λy c e=>(kb e).elim (λz=>I3.hok.fresh (Y2 (E.up _ _ _ z))) (I3.freeC y c),λp hp=>?_,I3.hok.kept kg,?_⟩
  .by_cases jv:i<xs.length
   .rw[aF (by rw[aN];exact jv),X0,ZY jv]at e2;cases e2
   .obtain⟨j,rfl⟩ : ∃j,i=xs.length+j:=⟨i-xs.length,by lia⟩;have e0:N'[j]?=some y:=by
     have e1:(xs++N')[xs.length+j]?=some y:=e1;rw[aD (X2 _ _)]at e1;rw[show xs.length+j-xs.length=j by exact Tk _ _]at e1;exact e1
    have kB:σ[j]?=some (some v):=by
     rw[aD (by rw[aN];exact X2 _ _),aN]at e2;rw[show xs.length+j-xs.length=j by exact Tk _ _]at e2;exact e2
    rw[<- gh]at e0;obtain⟨y0,fS,ey⟩ : ∃y0,X.N[j]?=some y0/\(if y0∈xs then hid y0 else y0)=y:=by
     unfold J3 at e0;rw[aq]at e0;cases hz:X.N[j]? with
     |none=>rw[hz]at e0;cases e0
     |some y0=>rw[hz]at e0;exact⟨y0,rfl,Option.some.inj e0⟩
    have e3:(relabel scope X.env).names.lookup y=some .local\/(relabel scope X.env).names.lookup y=some .cell\/(relabel scope X.env).names.lookup y=some .free:=e3;have ne:¬y0∈xs:=λz=>by
     rw[ZY z]at ey;subst ey;rw[hq y0 (aC fS) z]at e3;rcases e3 with z|z|z<;>cases z
    rw[ZZ ne]at ey;subst ey;have e3':(relabel scope X.env).names.lookup y0=some .cell\/(relabel scope X.env).names.lookup y0=some .free:=by
     rcases e3 with z|z
     .exact absurd z (fb y0 (aC fS) ne)
     .exact z
    obtain⟨kd,c,hV,kA⟩:=gd (E.off _ _ ne) e3';obtain⟨m,_,hl⟩:=I3.loc;obtain⟨u,r,lk⟩:=hl j y0 v fS kB (.inr kd);refine⟨u,r,.inr ⟨e3',c,hV,?_⟩⟩;rcases lk with⟨k1,_⟩|⟨_,c',q1,o,q2,q3⟩
    .exfalso;have k1':X.env.kindOf y0=some .local:=k1;rcases kd with k2|k2<;>rw[k1']at k2<;>cases k2
    .rw[kA]at q1;cases q1;exact⟨o,kg _ _ q2,q3⟩
  .rcases kb e with z|z
   .exact⟨none,hV y c z⟩
   .obtain⟨v,o,q2,q3⟩:=I3.cell y c z;exact⟨v,o,kg _ _ q2,q3⟩
  .have d6:p∈X.pn++aa:=by simpa[Cx.compE]using hp
   obtain⟨a1,a2,a3,a4,a5⟩:=I3.pin p d6;exact⟨kg _ _ a1,a2,aQ (aK a1),I3.nostk' a3 a4,a5⟩
  .show(List.replicate xs.length none++σ).length=(xs++N').length;have gu:N'.length=X.N.length:=by rw[<- gh];unfold J3;rw[ak]
   rw[aA,aN,aA,I3.len,gu]
 have nV:∀{Hc:Hp},(∀b∈fp,Hc b=none)->∀b∈fp,Di Y [] Hc b:=λ{Hc}hn b hb=>by
  subst hX;exact⟨hn b hb,aQ (k6 b hb),nst b hb,.inl hb,cfp b hb,λp hp=>(f3 b hb).2.2.2.2.2 p (by simpa[Cx.compE]using hp)⟩
 have gV:∀s4:Shared,s4={ s3 with heap:=g,toks:=s3.toks+([] : List (Str×Value)).length } ->
   codeAny (model X.prog X.w) X.A (.compLoop (.ListComp bg [⟨tg,iter,az,0⟩] scope pos) 0 (.ref it) (.ref s2.heap.objs.size) Y.env) (compPost (model X.prog X.w) X.A X.xe use post (.ref s2.heap.objs.size) s3.heap.objs.size) s4:=by
  rintro s4 rfl;have YP:Y.prog=X.prog/\Y.w=X.w/\Y.K=X.K/\Y.calm=X.calm/\Y.A=X.A/\Y.env.locals=s3.heap.objs.size:=by subst hX;exact⟨rfl,rfl,rfl,rfl,rfl,rfl⟩
  obtain⟨y1,y2,y3,y4,y5,y6⟩:=YP;have he':PE Y bg te:=by subst hX;exact he _ _ _ _ _
  have my:PG Y tg gt:=by subst hX;exact hg _ _ _ _ _
  have ht':PTs Y az tc:=by subst hX;exact ht _ _ _ _ _
  have kc:Y.xe=λ_ _=>False:=by subst hX;rfl
  have yb:∀{Hc:Hp}{w':L2.St}{pn:Γ}{s':Shared},Inv Y pn w' Hc s'->Un (frs X.stack) fp H3 Hc s3.heap s'.heap:=λ{Hc w' pn s'}Z=>by
   have:=Z.base;subst hX;exact this
  have yos:∀{Hc:Hp}{w':L2.St}{pn:Γ}{s':Shared},Inv Y pn w' Hc s'->s'.os=s3.os:=λ{Hc w' pn s'}Z=>by
   have:=Z.os;subst hX;exact this
  refine codeAny_loop rfl (λn s'=>∃i ys Hc,∃w':L2.St,w'.length=xs.length/\Inv Y [] (w'++σ) Hc s'/\tn i s'.heap/\(∀b∈fp,Hc b=none)/\W i n ys Hc) (λn s5 hI=>?_) m0 ⟨0,[],H3,List.replicate xs.length none,aN,J4 _,T.keep _ _ _ ic λb _ o e=>kg b o e,λb hb=>(f3 b hb).1,w0⟩;obtain⟨i,ys,Hc,w',kn,Z,stc,frc,wc⟩:=hI;show wpAny _ _ ((compTurn (.ListComp bg [⟨tg,iter,az,0⟩] scope pos) 0 (.ref it) (.ref s2.heap.objs.size) Y.env).onRaise (λz=>do noteFrame z Y.env;theTreesLotGoes z)) _ _ s5;refine wpAny_noted (wpAny_noRaise ?_);rw[compTurn_list];show wpAny (model X.prog X.w) X.A _ _ _ _;rcases eQ i n ys Hc wc with⟨stop,qn⟩|⟨go,step⟩
  .have hd:=T.done Y y1 y2 y3 (y4.trans hc) i [] s5 (w'++σ) Hc (λ_ _=>False) Z (nV frc) stc stop;rw[y5]at hd;refine ZU (wpAny_standAt (ZU (thn hd λr s6 hP=>?_)));obtain⟨hr,Z6⟩:=hP;subst hr;refine ZT ?_;obtain⟨m,ja,_⟩:=Z6.loc;rw[y6]at ja;have u6:=yb Z6;have hok:HOk X.prog X.w Hc s6.heap:=by
    have z:=Z6.hok;rw[y1,y2]at z;exact z
   have cn:Hc s3.heap.objs.size=none:=by
    have z:=Z6.free;rw[y6]at z;exact z
   have I6:Inv X aa σ Hc s6:=I3.call' (s':=s6) (ch:=fp) (yos Z6) u6 hok Z6.bare λb hb=>⟨(f3 b hb).2.2.2.1,(f3 b hb).2.1,(f3 b hb).2.2.2.2.1,(f3 b hb).2.2.2.2.2⟩;have fC:Di X aa Hc s3.heap.objs.size:=I3.fpOk (aG _) cn;exact oj _ _ Hc s6 m _ ja I6 fC qn
  .have hd:=T.item Y y1 y2 y3 (y4.trans hc) i [] s5 (w'++σ) Hc (λ_ _=>False) Z (nV frc) stc go;rw[y5]at hd;refine ZU (wpAny_standAt (ZU (thn hd λr s6 hP=>?_)));obtain⟨u,hr,h6⟩:=hP;subst hr;refine ZU (thn h6 λ_ s7 hP=>?_);obtain⟨xv,H7,Z7,r7,yl,kK,fr7⟩:=hP;have Z7':=Z7.pinned (nV fr7) (T.obj _ _ kK);have bE:=my _ s7 _ H7 xv u _ Z7' r7 (step xv H7 yl w' kn);rw[y1,y2,y5,kc]at bE;refine ZU (thn bE λ_ s8 hP=>?_);obtain⟨σ8,H8,Z8,pre,eJ,e8,q8⟩:=hP;subst e8;have hte:=ht' _ s8 _ H8 _ Z8 q8;rw[y1,y2,y5,kc]at hte;have aE:∀{m':Nat}{iA:Ε}{H9:Hp}{s9:Shared},Inv Y ([]++Hs fp s7.heap) (pre++σ) H9 s9->m'<n->W (i+1) m' iA H9->∃m,m<n/\∃i ys Hc,∃w':L2.St,w'.length=xs.length/\Inv Y [] (w'++σ) Hc s9/\tn i s9.heap/\(∀b∈fp,Hc b=none)/\W i m ys Hc:=λ{m' iA H9 s9}Z9 jn w9 =>
    ⟨m',jn,i+1,iA,H9,pre,eJ,Z9.unpinned,T.keep _ _ _ kK λb hb o e=>(Z9.pin (b,o) (aP _ (aP _ (pP hb e)))).1,λb hb=>by
     obtain⟨o,e,_⟩:=T.obj _ _ kK b hb;exact(Z9.pin (b,o) (aP _ (aP _ (pP hb e)))).2.1,w9⟩
   refine ZU (thn hte λok s9 hP=>?_);obtain⟨H9,Z9,q9⟩:=hP;cases ok with
   |false =>
    obtain⟨m',jn,w9⟩:=q9;exact ZT ⟨rfl,aE Z9 jn w9⟩
   |true =>
    have hel:=he' _ s9 _ H9 _ Z9 q9;rw[y1,y2,y5,kc]at hel;refine ZU (ZU (thn hel λev ie hP=>?_));obtain⟨yv,H10,Z10,r10,hz,nK,m',jn,w10⟩:=hP;have nE:=JG (X:=Y) _ ie _ H10 (.ref s2.heap.objs.size) [yv] (.ref s2.heap.objs.size) [ev] (λ_ Hf=>Hf=upd H10 s2.heap.objs.size (.lst (ys++[yv]))) Z10 rfl (.cons r10 .nil) ⟨_,ys,yv,rfl,rfl,nK,hz,rfl⟩;rw[y1,y2,y5,kc]at nE;refine ZU (thn nE λav s11 hP=>?_);obtain⟨_,H11,Z11,_,e11⟩:=hP;subst e11;exact ZT (ZT ⟨rfl,aE Z11 jn w10⟩)
 have mM:Y.env=compEnvC scope (ext s3.heap.objs.size++ug X.env.cells scope.names []) s3.heap.objs.size X.env:=by subst hX;rfl
 rw[mM]at gV;exact codeAny_compStart_list (gV _ rfl) (T.self _ 0 _ _ _ (T.keep _ _ _ ic λb _ o e=>kg b o e) (gV _ rfl))
theorem Q6{ext:Addr->List (Str×Addr)}{fn:Str->Bool}{xs N':Θ}{tg:Expr}{az:List Expr}{gt:TG}{tc:TT}(E:QH X scope xs ext fn)(hc:X.calm=true)(gh:J3 xs X.N=N')(cf:scope.kind=.function)(cx:∀y∈scope.names,y.2=.local->scope.names.lookup y.1=some .local)
 (ce:∀y∈scope.names,y.2=.free->X.env.kindOf y.1=some .cell\/X.env.kindOf y.1=some .free)(fb:∀y∈X.N,y∉xs->(relabel scope X.env).names.lookup y≠some .local)(hq:∀y∈X.N,y∈xs->(relabel scope X.env).names.lookup (hid y)=none)(hi:PI X tg iter wi)
 (hg:∀C s₀ H₀ ex pn,PG (X.compE ext fn N' scope xs C s₀ H₀ ex pn) tg gt)(ht:∀C s₀ H₀ ex pn,PTs (X.compE ext fn N' scope xs C s₀ H₀ ex pn) az tc)(he:∀C s₀ H₀ ex pn,PE (X.compE ext fn N' scope xs C s₀ H₀ ex pn) bg te)(hs:qV X iter) :
  PE X (.ListComp bg [⟨tg,iter,az,0⟩] scope pos) (qy wi xs.length gt tc te):=by
 intro aa s σ H Q I h;rw[eval_ListComp];exact JB E hc gh cf cx ce fb hq hi hg ht he hs I h λC D Hc s6 m fl hn I6 fC q=>⟨m,hn,λh' l0=>⟨.ref D,Hc,I6.turned (it:=C) (h':=h') (t':=s6.toks) (λb o hb e=>(l0.2 b hb).trans e) fC.1 fC.2.1 fC.2.2.2.1 fC.2.2.2.2.1 fC.2.2.2.2.2,rfl,q⟩⟩
end
section
variable{κ:Type}[DecidableEq κ]
noncomputable def Gi(kvs:List (κ×V))(k:κ):Option V:=(kvs.find? λkv=>decide (kv.1=k)).map (·.2)
noncomputable def putK(kvs:List (κ×V))(k:κ)(v:V):List (κ×V) :=
 if(kvs.any λkv=>decide (kv.1=k))=true then kvs.map (λkv=>if kv.1=k then(kv.1,v)else kv)else kvs++[(k,v)]
theorem Rb{p:κ×V}{r:List (κ×V)}{k:κ}(e:p.1=k):Gi (p::r) k=some p.2:=by simp[Gi,List.find?_cons,e]
theorem Hi{p:κ×V}{r:List (κ×V)}{k:κ}(e:¬p.1=k):Gi (p::r) k=Gi r k:=by simp[Gi,List.find?_cons,e]
theorem Pz(kvs:List (κ×V))(k:κ)(v:V):(putK kvs k v).length<=kvs.length+1:=by
 unfold putK;split
 .rw[ak];exact Xs _
 .rw[aA,List.length_cons,List.length_nil];exact aG _
theorem um.isSome_eq{o:Option V}{u:Ψ}(r:um o u):o.isSome=u.isSome:=by
 cases o with
 |none=>cases u with
  |none=>rfl
  |some _=>exact(show False from r).elim
 |some _=>cases u with
  |none=>exact(show False from r).elim
  |some _=>rfl
theorem um.getD{o:Option V}{u:Ψ}{d:V}{d':Value}(r:um o u)(rd:RelV d d'):RelV (o.getD d) (u.getD d'):=by
 cases o with
 |none=>cases u with
  |none=>exact rd
  |some _=>exact(show False from r).elim
 |some _=>cases u with
  |none=>exact(show False from r).elim
  |some _=>exact r
theorem KV.val{kvs:List (κ×V)}{vs:List (κ×Value)}(r:KV kvs vs)(k:κ):um (Gi kvs k) (valueAt vs k):=by
 unfold KV at r
 induction r with
 |nil=>exact True.intro
 |@cons p q ps qs h t ih =>
  obtain⟨h1,h2⟩:=h;by_cases e:p.1=k
  .have e':q.1=k:=h1.symm.trans e;have b:valueAt (q::qs) k=some q.2:=by simp[valueAt,List.find?_cons,e']
   rw[Rb e,b];exact h2
  .have e':¬q.1=k:=λz=>e (h1.trans z);have b:valueAt (q::qs) k=valueAt qs k:=by simp[valueAt,List.find?_cons,e']
   rw[Hi e,b];exact ih
theorem KV.any{kvs:List (κ×V)}{vs:List (κ×Value)}(r:KV kvs vs)(k:κ):(kvs.any λkv=>decide (kv.1=k))=vs.any λkv=>decide (kv.1=k):=by
 unfold KV at r
 induction r with
 |nil=>rfl
 |cons h t ih=>rw[List.any_cons,List.any_cons,ih,h.1]
theorem KV.repl{kvs:List (κ×V)}{vs:List (κ×Value)}(r:KV kvs vs)(k:κ){y:V}{u:Value}(ry:RelV y u) :
  KV (kvs.map λkv=>if kv.1=k then(kv.1,y)else kv) (vs.map λkv=>if kv.1=k then(kv.1,u)else kv):=by
 unfold KV at r ⊢
 induction r with
 |nil=>exact .nil
 |@cons p q ps qs h t ih =>
  rw[List.map_cons,List.map_cons];refine .cons ?_ ih;obtain⟨h1,h2⟩:=h;by_cases e:p.1=k
  .rw[ZY e,ZY (h1.symm.trans e)];exact⟨h1,ry⟩
  .rw[ZZ e,ZZ (λz=>e (h1.trans z))];exact⟨h1,h2⟩
theorem KV.put{kvs:List (κ×V)}{vs:List (κ×Value)}(r:KV kvs vs)(k:κ){y:V}{u:Value}(ry:RelV y u):KV (putK kvs k y) (stored vs k u):=by
 unfold putK stored;rw[r.any k];by_cases e:(vs.any λkv=>decide (kv.1=k))=true
 .rw[ZY e,ZY e];exact r.repl k ry
 .rw[ZZ e,ZZ e];exact Paired.snoc r ⟨rfl,ry⟩
theorem KV.length{kvs:List (κ×V)}{vs:List (κ×Value)}(r:KV kvs vs):kvs.length=vs.length:=Paired.length r
end
theorem Ql{P:Program}{w:World}{k:Key}{u:Value}(r:RelV (kV k) u):(iR P w).is k u=true:=by
 cases k with
 |inl i=>obtain⟨t,e⟩:=(show ∃t,u=Value.int i t from r);subst e;exact QL P w i t
 |inr x=>obtain⟨t,e⟩:=(show ∃t,u=Value.str x t from r);subst e;exact Om P w x t
section
variable{P:Program}{w:World}{H:Hp}{h:Heap}{a:Addr}
theorem ajb{u:HO}(ok:HOk P w H h)(e:Rd H a u):dM P w H h a u:=e.ok ok
theorem GP{kvs:List (Key×V)}(ok:HOk P w H h)(e:Rd H a (.dK kvs)):kvs.length<=sizeLine/\(a==sysModules)=false/\∃vs,KV kvs vs/\h.DictOf (iR P w) a vs :=
 show dM P w H h a (.dK kvs)from ajb ok e
theorem air{kvs:List (Key×V)}(ok:HOk P w H h)(e:H a=some (.dK kvs)):kvs.length<=sizeLine/\(a==sysModules)=false/\∃vs,KV kvs vs/\h.DictOf (iR P w) a vs:=GP ok (.inl e)
end
def Ce(H:Hp)(a:Addr)(y:V)(r:Option V):Prop :=
 (∃kvs k,Rd H a (.dK kvs)/\y=kV k/\r=Gi kvs k)\/False
def ahO(H:Hp)(a:Addr)(y v:V)(H':Hp):Prop :=
 (∃kvs k,H a=some (.dK kvs)/\y=kV k/\kvs.length<sizeLine/\H'=upd H a (.dK (putK kvs k v)))\/False
theorem Ce.k{H:Hp}{a:Addr}{kvs:List (Key×V)}{k:Key}(e:H a=some (.dK kvs)):Ce H a (kV k) (Gi kvs k):=.inl ⟨kvs,k,.inl e,rfl,rfl⟩
section
variable{X:Cx}{aa:Γ}{σ:St}{H:Hp}{s:Shared}{a:Addr}{y v:V}{u r:Value}{o:Option V}{A:Around}{E:Β}
theorem Inv.big(I:Inv X aa σ H s):sysModules<s.heap.objs.size:=by
 have h:mainGlobals<s.heap.objs.size:=(I.mod.glob.keeps I.bk).lt;exact Ts (by decide) h
theorem W_{Q:Β}(hu:A.units+1<cLine)(I:Inv X aa σ H s)(g:Ce H a y (some v))(ry:RelV y u)(h:∀w' s',Inv X aa σ H s'->RelV v w'->Q w' s') :
  wpAny (model X.prog X.w) A (getItem (.ref a) u) Q E s:=by
 rcases g with⟨kvs,k,e,ey,l⟩|hF
 .subst ey;obtain⟨z,hd,vs,rel,dd⟩:=GP I.hok e;obtain⟨w',hw,eR⟩:=um.some_of (v:=v) (o:=valueAt vs k) (by rw[l];exact rel.val k);exact wpAny_getItem_of (Ql ry) dd.mapOf hw (h w' _ (I.tok _) eR)
 .exact hF.elim
theorem akE{Q:Β}(hu:A.units+1<cLine)(I:Inv X aa σ H s)(g:Ce H a y o)(ry:RelV y u)(h:∀s',Inv X aa σ H s'->Q (.bool o.isSome) s') :
  wpAny (model X.prog X.w) A (compareOp .In u (.ref a)) Q E s:=by
 rcases g with⟨kvs,k,e,ey,l⟩|hF
 .subst ey;obtain⟨z,hd,vs,rel,dd⟩:=GP I.hok e;refine wpAny_in_of (Ql ry) hd dd.mapOf ?_;rw[<- (rel.val k).isSome_eq,<- l];exact h _ (I.tok _)
 .exact hF.elim
theorem abA{Q:Β}(hu:A.units+1<cLine)(I:Inv X aa σ H s)(g:Ce H a y o)(ry:RelV y u)(h:∀s',Inv X aa σ H s'->Q (.bool (!o.isSome)) s') :
  wpAny (model X.prog X.w) A (compareOp .NotIn u (.ref a)) Q E s:=by
 rcases g with⟨kvs,k,e,ey,l⟩|hF
 .subst ey;obtain⟨z,hd,vs,rel,dd⟩:=GP I.hok e;refine wpAny_notIn_of (Ql ry) hd dd.mapOf ?_;rw[<- (rel.val k).isSome_eq,<- l];exact h _ (I.tok _)
 .exact hF.elim
theorem acK{h':Heap}{t':Nat}{ob:HO}(I:Inv X aa σ H s)(mu:Mut (H a))(hs:Heap.SameBut a s.heap h')(he:∃q,h'.get? a=some q)(new:dM X.prog X.w (upd H a ob) h' a ob) :
  Inv X aa σ (upd H a ob) { s with heap:=h',toks:=t' } :=
 I.write (x:=a) (e:=a) mu (.inl rfl) (λb q hb z=>(hs.2 b hb).trans z) he new
theorem afI{P:Program}{w:World}{H':Hp}{h':Heap}{kvs:List (Key×V)}{vs:List (Key×Value)}(z:kvs.length<=sizeLine)(hd:(a==sysModules)=false)(rel:KV kvs vs)(dd:h'.DictOf (iR P w) a vs) :
  dM P w H' h' a (.dK kvs):=⟨z,hd,vs,rel,dd⟩
theorem Wq{H':Hp}{Q:Unit->Shared->Prop}(hu:A.units+1<cLine)(I:Inv X aa σ H s)(g:ahO H a y v H')(ry:RelV y u)(rv:RelV v r)(h:∀s',Inv X aa σ H' s'->Q () s') :
  wpAny (model X.prog X.w) A (setItem (.ref a) u r) Q E s:=by
 rcases g with⟨kvs,k,e,ey,l,eH⟩|hF
 .subst ey eH;obtain⟨z,hd,vs,rel,dd⟩:=air I.hok e;have hz:vs.length<=sizeLine:=by rw[<- rel.length];exact z
  have hl:(putK kvs k v).length<=sizeLine:=by have:=Pz kvs k v;lia
  refine wpAny_setItem_pairs (hsz:=hz) (Ql ry) dd λh' oy hs=>h _ ?_;have he:∃q,h'.get? a=some q:=by obtain⟨q,_,_,hq,_⟩:=oy;exact⟨q,hq⟩
  exact acK I (by rw[e];exact True.intro) hs he (afI hl hd (rel.put k rv) oy)
 .exact hF.elim
end
def adU(i:Expr):Prop:=∀ov iv,subscripted i false ov iv=operate [ov,iv] (getItem ov iv)
theorem abr{prog:Program}{w:World}{A:Around}{E:Β}{s:Shared}{env:Env}{ar bn:Expr}{pos:Pos}{T id:String}{Q:Β}
 (hl:typeLookup (.type T) "__getitem__"=pure (some (.builtin id)))(hs:adU bn)
 (h:wpAny (model prog w) A (eval ar env) (λo s₁=>wpAny (model prog w) A (eval bn env) (λi s₂=>s₂.TypeIs o T/\wpAny (model prog w) A (getItem o i) Q E s₂) E s₁) E s) :
  wpAny (model prog w) A (eval (.Subscript ar bn pos) env) Q E s:=by
 refine Subscript_ (wpAny_mono h (λo s₁ h₁=>wpAny_mono h₁ (λi s₂ h₂=>?_) λ_ _ x=>x) λ_ _ x=>x);obtain⟨hT,h₂⟩:=h₂;unfold subscriptTail;refine ZU ?_;rw[getitemInPython_of_ne hT.not_modules];refine ZU (wpAny_specialOf hT hl ?_);have aE:wpAny (model prog w) A (subscripted bn false o i) (λr s₃=>wpAny (model prog w) A (letTemporaryGo ar o r >>= λ_=>pure r) Q E s₃) E s₂:=by
  rw[hs o i];exact wpAny_operating (wpAny_mono h₂ (λr s₃ h₃=>ZU (wpAny_letTemporaryGo (ZT h₃))) λ_ _ x=>x)
 first
  |exact ZT (ZU aE)
  |exact ZU (ZT (ZU aE))
  |exact ZU aE
theorem Q8{X:Cx}{aa:Γ}{σ:St}{H:Hp}{s:Shared}{a:Addr}{y:V}{o:Option V}(I:Inv X aa σ H s)(g:Ce H a y o):s.TypeIs (.ref a) "dict":=by
 rcases g with⟨kvs,k,e,_,_⟩|hF
 .obtain⟨_,_,vs,_,dd⟩:=GP I.hok e;exact dd.typeIs
 .exact hF.elim
def ag9(td ty:TE):TE:=λσ H Q=>td σ H λx H1=>ty σ H1 λy H2=>∃a v,x=.ref a/\Ce H2 a y (some v)/\Q v H2
def ame(ty td:TE):TE:=λσ H Q=>ty σ H λy H1=>td σ H1 λx H2=>∃a o,x=.ref a/\Ce H2 a y o/\Q (.bl o.isSome) H2
def ab9(ty td:TE):TE:=λσ H Q=>ty σ H λy H1=>td σ H1 λx H2=>∃a o,x=.ref a/\Ce H2 a y o/\Q (.bl (!o.isSome)) H2
def agf(td ty tv:TE):TS:=λD σ H=>tv σ H λv H1=>td σ H1 λx H2=>ty σ H2 λy H3=>∃a H4,x=.ref a/\ahO H3 a y v H4/\D.nx σ H4
section
variable{X:Cx}{o i e ar:Expr}{pos aI ax:Pos}{td ty tv:TE}
theorem aaX(hu:X.A.units+1<cLine)(ho:PE X o td)(hi:PE X i ty)(hs:adU i):PE X (.Subscript o i pos) (ag9 td ty):=by
 intro aa s σ H Q I h;refine abr PySem.F.slot_dict_getitem.lookup hs (thn (ho aa s σ H _ I h) λu s1 ⟨x,H1,I1,rx,q1⟩=>thn (hi aa s1 σ H1 _ I1 q1) λiv s2 hP=>?_);obtain⟨y,H2,I2,ry,a,v,ex,g,q2⟩:=hP;subst ex;obtain rfl:u=Value.ref a:=rx;exact⟨Q8 I2 g,W_ hu I2 g ry λw' s3 I3 eR=>⟨v,H2,I3,eR,q2⟩⟩
theorem ae7(hu:X.A.units+1<cLine)(hi:PE X i ty)(ho:PE X o td):PC X .In i o (ame ty td):=by
 intro aa s σ H Q I h;refine thn (hi aa s σ H _ I h) λiv s1 ⟨y,H1,I1,ry,q1⟩=>thn (ho aa s1 σ H1 _ I1 q1) λu s2 hP=>?_;obtain⟨x,H2,I2,rx,a,ov,ex,g,q2⟩:=hP;subst ex;obtain rfl:u=Value.ref a:=rx;exact akE hu I2 g ry λs3 I3=>⟨.bl ov.isSome,H2,I3,rfl,q2⟩
theorem VF(hu:X.A.units+1<cLine)(hi:PE X i ty)(ho:PE X o td):PC X .NotIn i o (ab9 ty td):=by
 intro aa s σ H Q I h;refine thn (hi aa s σ H _ I h) λiv s1 ⟨y,H1,I1,ry,q1⟩=>thn (ho aa s1 σ H1 _ I1 q1) λu s2 hP=>?_;obtain⟨x,H2,I2,rx,a,ov,ex,g,q2⟩:=hP;subst ex;obtain rfl:u=Value.ref a:=rx;exact abA hu I2 g ry λs3 I3=>⟨.bl (!ov.isSome),H2,I3,rfl,q2⟩
theorem acE(hu:X.A.units+1<cLine)(ho:PE X o td)(hi:PE X i ty)(hv:PE X ar tv)(hs:swapsWith ar (some (.Subscript o i aI)) pos.line X.env=pure false) :
  PS X (.Assign [.Subscript o i aI] ar pos) (agf td ty tv):=by
 intro aa s σ H D I h;refine wpAny_Assign_Subscript (thn (hv aa s σ H _ I h) λr s1 ⟨v,H1,I1,rv,q1⟩=>thn (ho aa s1 σ H1 _ I1 q1) λu s2 ⟨x,H2,I2,rx,q2⟩=>thn (hi aa s2 σ H2 _ I2 q2) λiv s3 hP=>?_) hs;obtain⟨y,H3,I3,ry,a,H4,ex,g,q3⟩:=hP;subst ex;obtain rfl:u=Value.ref a:=rx;exact Wq hu I3 g ry rv λs4 I4=>⟨σ,H4,I4,q3⟩
end
theorem Zb{P:Program}{w:World}{H:Hp}(h:Heap)(hb:sysModules<h.objs.size):dM P w H (h.push { cls:=.type "dict",data:=.dict #[] }) h.objs.size (.dK []) :=
 ⟨aZ _,beq_eq_false_iff_ne.mpr (Ne.symm (aQ hb)),[],.nil,Heap.DictOf.new h⟩
def afL:TE:=λ_ H Q=>∀p,H p=none->Q (.ref p) (upd H p (.dK []))
section
variable{X:Cx}{pos:Pos}
theorem Yi:PE X (.Dict [] [] pos) afL:=λaa s σ H Q I h =>
 wpAny_Dict_empty ⟨.ref s.heap.objs.size,_,I.laid (a:=s.heap.objs.size) (o:=.dK []) (t':=s.toks) (λ_ _ q=>aH _ q) (aG _) (Zb s.heap I.big),rfl,h _ (I.hok.fresh (aG _))⟩
end
abbrev VV:List (V×V)->List (Value×Value)->Prop:=Paired λp q=>RelV p.1 q.1/\RelV p.2 q.2
structure M2(X:Cx)(o:Expr)(m:Str)(ai:Pos)(e f:Expr)(ag:Pos):Prop where
 base:qB X o m
 few:((backTo ag (starEach [e,f] X.env)).all (λx=>!x.1)&&(backToKw ag (keywordEach [] X.env)).all (λx=>x.1.isSome)
  && decide (([e,f] : List Expr).length+([] : List Keyword).length+(if([] : List Keyword).isEmpty then 0 else 1)<30))=true
 line:zw ai ag
 trees:backTo ag (starEach [e,f] X.env)=[(false,eval e X.env),(false,eval f X.env)]
def IsD(H:Hp)(a:Addr):Prop:=(∃kvs,Rd H a (.dK kvs))\/False
theorem afr{X:Cx}{aa:Γ}{σ:St}{H:Hp}{s:Shared}{a:Addr}(I:Inv X aa σ H s)(d:IsD H a) :
  s.TypeIs (.ref a) "dict"/\(∀b,Value.ref a=.ref b->∃ob,s.heap.get? b=some ob/\ob.dict=none)/\(a==sysModules)=false:=by
 rcases d with⟨kvs,e⟩|hF
 .obtain⟨_,hd,vs,_,dd⟩:=GP I.hok e;refine⟨dd.typeIs,λb q=>?_,hd⟩;cases q;obtain⟨ob,_,_,h1,h2,_⟩:=dd;exact⟨ob,h1,h2.2.1⟩
 .exact hF.elim
section
variable{X:Cx}{aa:Γ}{σ:St}{H:Hp}{s:Shared}{a:Addr}{y d:V}{u r:Value}{o:Option V}{A:Around}{E:Β}
theorem afd{Q:Β}(hu:A.units+1<cLine)(I:Inv X aa σ H s)(g:Ce H a y o)(ry:RelV y u)(rd:RelV d r)(h:∀w' s',Inv X aa σ H s'->RelV (o.getD d) w'->Q w' s') :
  wpAny (model X.prog X.w) A (call (.builtin "dict.get") [.ref a,u,r]) Q E s:=by
 rcases g with⟨kvs,k,e,ey,l⟩|hF
 .subst ey;obtain⟨z,hd,vs,rel,dd⟩:=GP I.hok e;refine call_meetsIn PySem.F.slot_dict_get dd.typeIs PySem.F.entry_dict_get (PySem.F.args_dict_get_3 _ _ _) (meets_dict_get_default (iR X.prog X.w) a (Ql ry) hd r) ⟨_,dd.mapOf,h _ _ (I.tok _) ?_⟩;rw[l];exact(rel.val k).getD rd
 .exact hF.elim
end
def afb(td ty tx:TE):TE:=λσ H Q=>td σ H λx H1=>∃a,x=.ref a/\IsD H1 a/\ty σ H1 λy H2=>tx σ H2 λz H3=>∃o,Ce H3 a y o/\Q (o.getD z) H3
section
variable{X:Cx}{o e f:Expr}{ai ag:Pos}{td ty tx:TE}
theorem Zj(hu:X.A.units+1<cLine)(ho:PE X o td)(he:PE X e ty)(hf:PE X f tx)(m:M2 X o "get" ai e f ag):PE X (.Call (.Attribute o "get" ai) [e,f] [] ag) (afb td ty tx):=by
 intro aa s σ H Q I h;refine wpAny_Call_method m.base m.few m.line PySem.F.plainAttrs_dict PySem.F.slot_dict_get PySem.F.type_dict_get (thn (ho aa s σ H _ I h) λu s1 hP=>?_);obtain⟨x,H1,I1,rx,a,ex,d,q1⟩:=hP;subst ex;obtain rfl:u=Value.ref a:=rx;obtain⟨t1,t2,_⟩:=afr I1 d;refine⟨t1,t2,?_⟩;rw[m.trees];refine Calls.callWith_builtin rfl (Calls.evalArgs_plain (Calls.spliced_cons (thn (he aa s1 σ H1 _ I1 q1) λiv s2 ⟨y,H2,I2,ry,q2⟩ =>
  Calls.spliced_cons (thn (hf aa s2 σ H2 _ I2 q2) λfv s3 ⟨z,H3,I3,rz,ov,g,q3⟩=>Calls.spliced_nil ?_))))
 exact afd hu I3 g ry rz λw' s4 I4 eR=>⟨_,H3,I4,eR,q3⟩
end
def Itk(a:Addr)(o:Obj)(kvs:List (Key×V)):It:=⟨λi H=>H a=some (.frz o (.dK kvs))/\i<kvs.length,λi H v H'=>H'=H/\∃k y,kvs[i]?=some (k,y)/\v=kV k,λi H=>H a=some (.frz o (.dK kvs))/\i=kvs.length⟩
theorem ajS{P:Program}{w:World}{k:Key}{u:Value}(h:(iR P w).is k u=true):RelV (kV k) u:=by
 have h:zX k u=true:=h;cases k with
 |inl i =>
  cases u<;>simp[zX,Value.isInt]at h
  .subst h;exact⟨_,rfl⟩
 |inr x =>
  cases u<;>simp[zX,Value.isStrOf]at h
  .subst h;exact⟨_,rfl⟩
theorem KV.at{κ:Type}{kvs:List (κ×V)}{vs:List (κ×Value)}(r:KV kvs vs):∀{i:Nat}{k:κ}{y:V},kvs[i]?=some (k,y)->∃u,vs[i]?=some (k,u)/\RelV y u:=by
 unfold KV at r
 induction r with
 |nil=>intro i k y h;cases h
 |@cons p q ps qs h t ih =>
  intro i k y e;cases i with
  |zero =>
   rw[List.getElem?_cons_zero]at e;cases e;obtain⟨q1,q2⟩:=q;obtain⟨h1,h2⟩:=h;cases h1;exact⟨q2,rfl,h2⟩
  |succ i =>
   rw[List.getElem?_cons_succ]at e ⊢;exact ih e
theorem VR{P:Program}{w:World}{K:Frag}{tg:Expr}(it a:Addr)(o:Obj)(kvs:List (Key×V))(vs:List (Key×Value))(ep:Nat)(rel:KV kvs vs)(hD:∀h:Heap,h.get? a=some o->h.DictAt (iR P w) a vs ep) :
  Turn P w K tg (Itk a o kvs) [it] it (λi h=>h.IsKeyIter it a i vs.length ep) where
 mem:=by simp
 obj:=λi h st b hb=>by
  have e:b=it:=by simpa using hb
  subst e;obtain⟨o,ho,_,hd⟩:=st;exact⟨o,ho,λv z=>by rw[hd]at z;cases z⟩
 keep:=λi h h' st k=>let⟨o,ho,r⟩:=st;⟨o,k it (by simp) o ho,r⟩
 item:=by
  intro X hP hw hK hc i aa s σ H E I hf st hg;subst hP hw hK;obtain⟨hg,eK⟩:=hg;obtain⟨ho,_⟩:=(show dM X.prog X.w H s.heap a (.frz o (.dK kvs))from I.hok a _ hg);obtain⟨f0,f1,f2,f3,f4,f5⟩:=hf it (by simp);obtain⟨⟨k,y⟩,hx⟩ : ∃p,kvs[i]?=some p:=⟨kvs[i],by simp[eK]⟩;obtain⟨u,hu,ru⟩:=rel.at hx;refine wpAny_pyNext_dict_item st (hD _ ho) hu λck h' g7 di sb=>?_;have I1:Inv X aa σ H { s with heap:=h' }:=I.turned (t':=s.toks) (λb ob hb e=>(sb.2 b hb).trans e) f0 f1 f3 f4 f5;obtain⟨oi,e,c,d⟩:=id di;exact⟨ck,rfl,Qo (s:={ s with heap:=h' }) e c d (by decide) ⟨kV k,H,I1,ajS g7,⟨rfl,k,y,hx,rfl⟩,di,λb hb=>(hf b hb).1⟩⟩
 done:=by
  intro X hP hw hK hc i aa s σ H E I hf st hg;subst hP hw hK;obtain⟨hg,rfl⟩:=hg;obtain⟨ho,_⟩:=(show dM X.prog X.w H s.heap a (.frz o (.dK kvs))from I.hok a _ hg);obtain⟨f0,f1,f2,f3,f4,f5⟩:=hf it (by simp);have hl:=rel.length;exact wpAny_pyNext_dict_end (I.ok.hd hc) st (hD _ ho) (by simp;exact WH (Eq.symm hl)) λh' eb=>⟨rfl,I.turned (t':=s.toks) (λb ob hb e=>eb b ob hb e) f0 f1 f3 f4 f5⟩
 self:=λ_ _ _ _ _ st h=>wpAny_pyIter_keyiter st h
section
variable{X:Cx}{tg:Expr}
def agI(te:TE):TI:=λσ H R=>te σ H λx H1=>∃a kvs,x=.ref a/\H1 a=some (.dK kvs)/\∀o,R (Itk a o kvs) (upd H1 a (.frz o (.dK kvs)))
theorem aaN{l:Expr}{tl:TE}(hl:PE X l tl):PI X tg l (agI tl):=by
 intro aa s σ H R I h;refine thn (hl aa s σ H _ I h) λv s1 hP=>?_;obtain⟨x,H1,I1,r1,a,kvs,ex,ha,q⟩:=hP;subst ex;cases r1;have ok:=(show dM X.prog X.w H1 s1.heap a (.dK kvs)from I1.hok a _ ha);obtain⟨z,hd,vs,rel,o,es,ep,e,ex,ed,ek,epr,en⟩:=ok;have hD:∀h:Heap,h.get? a=some o->h.DictAt (iR X.prog X.w) a vs ep:=λh e=>⟨o,es,e,ex,ed,ek,epr,en⟩;have I2:Inv X aa σ (upd H1 a (.frz o (.dK kvs))) s1:=by
  have:=I1.write (x:=a) (e:=a) (o:=.frz o (.dK kvs)) (h':=s1.heap) (t':=s1.toks) (by rw[ha];exact True.intro) (.inl rfl) (λb u hb z=>z) ⟨o,e⟩ ⟨e,z,hd,vs,rel,o,es,ep,e,ex,ed,ek,epr,en⟩;exact this
 refine wpAny_pyIter_dict hd (hD _ e) ?_;refine⟨s1.heap.objs.size,[s1.heap.objs.size],_,Itk a o kvs,_,rfl,I2.kept (t':=s1.toks) λb ob z=>aH _ z,VR _ a o kvs vs ep rel hD,⟨_,aW _ rfl,rfl,rfl⟩,λb hb=>?_,q o⟩;have e:b=s1.heap.objs.size:=by simpa using hb
 subst e;exact I2.fpOk (aG _) (I2.hok.fresh (aG _))
def tMG(g:TG):TG:=λv σ H Q=>∃R:L2.St->Hp->Prop,g v σ H R/\∀σ' H',R σ' H'->Q σ' H'
def tMT(t:TT):TT:=λσ H Q=>∃R:Bool->Hp->Prop,t σ H R/\∀b H',R b H'->Q b H'
theorem PG.mono{e:Expr}{g:TG}(h:PG X e g):PG X e (tMG g):=λaa s σ H v u Q I r hP=>by obtain⟨R,h1,h2⟩:=hP;exact thn (h aa s σ H v u R I r h1) λ_ s' hP=>by obtain⟨σ',H',I',q⟩:=hP;exact⟨σ',H',I',h2 σ' H' q⟩
theorem PTs.mono{az:List Expr}{t:TT}(h:PTs X az t):PTs X az (tMT t):=λaa s σ H Q I hP=>by obtain⟨R,h1,h2⟩:=hP;exact thn (h aa s σ H R I h1) λb s' hP=>by obtain⟨H',I',q⟩:=hP;exact⟨H',I',h2 b H' q⟩
end
structure Dd(K:Frag)(B:Addr)(m:Str)(f:Addr):Prop where
 ga:specialIn K (.ref B) "__getattribute__"=some (some (.builtin "type.__getattribute__"))
 rd:readsIn K B (.type "type")=true
 at_:findCls K (.ref B) (.type "type") m=some (.val (.ref f))
 hd:handedIn (.ref f)=true
 kp:keepIn K (.ref f)=true
section
variable{X:Cx}{k:Nat}{f B:Addr}{fd:FuncData}{ps:Θ}{sp:Sp}{c5:Ε}{ds:Δ}{x m:Str}{p pos ai:Pos}{e:Expr}{es:List Expr}{t:TA}{Ex:Value->Ω->L2.St->Hp->Prop}
theorem Dd.get{aa:Γ}{σ:L2.St}{H:Hp}{s:Shared}{pl:Sem Bool}{A:Around}{E:Β}{Q:Value×Δ->Shared->Prop}(c:Dd X.K B m f)(I:Inv X aa σ H s)(h:∀t,Q (.ref f,[]) { s with toks:=t }) :
  wpAny (model X.prog X.w) A (getMethod (.ref B) m pl) Q E s :=
 method_cls I.kIn c.ga (cls_value I.kIn c.rd c.at_ c.hd (h _))
theorem ab0{pl:Sem Bool}(c:Dd X.K B m f)(F:b_ X.prog X.w X.K X.mg X.base CX0 k f fd ps sp)(hr:dF k X.A)(hg:Gl X x)(hm:X.mg x=some (.ref B))(hb:Binds X.K fd ps [])(ha:PA X (e::es) t)(bu:qk x:=by decide)
 (bE:qo X e es:=by rfl)(aS:qh X pos es:=by rfl)
 (ht:eval (.Call (.Attribute (.Name x p) m ai) (e::es) [] pos) X.env=(do
   let ov <- eval (.Name x p) X.env
   standAt ai.atName
   let(f,first) <- holding [ov] (getMethod ov m pl)
   callWith pos f first (backTo pos (starEach (e::es) X.env)) (backToKw pos (keywordEach [] X.env))):=by rfl) :
  PE X (.Call (.Attribute (.Name x p) m ai) (e::es) [] pos) (RD sp t):=by
 intro aa s σ H Q I h;refine methodCall_KW (pl:=pl) (qu I hg hm (c.get I λtk=>?_) bu) ht;refine callWith_K (first:=[]) (h₀:=X.base) I.ok.mod.kin c.kp (thn (ha pos aa _ σ H _ (I.tok tk) h) λus s2 ⟨vs,H2,I2,r,q2⟩=>⟨I2.kIn,?_⟩) bE aS;exact KY (us:=us) (vs:=vs) F hr hb .nil JK I2 r (by rw[List.append_nil];exact q2)
end
theorem Same.tup{K:Frag}{H H':Hp}{a:Addr}{xs:Ε}(e:Same H H')(h:SqT K H a xs):SqT K H' a xs:=by
 rcases h with(h|⟨o,h⟩)|h
 .exact .inl (.inl (e _ _ h))
 .exact .inl (.inr ⟨o,e _ _ h⟩)
 .exact .inr h
mutual
inductive iu(K:Frag)(H:Hp):V->PyData->Prop
 |non:iu K H .non .none
 |bl (b:Bool):iu K H (.bl b) (.bool b)
 |int (i:Int):iu K H (.int i) (.int i)
 |str (x:Str):iu K H (.str x) (.str x)
 |lst {a:Addr}{xs:Ε}{ds:List PyData} : H a=some (.lst xs)->dY K H xs ds->iu K H (.ref a) (.list ds)
 |tup {a:Addr}{xs:Ε}{ds:List PyData} : SqT K H a xs->dY K H xs ds->iu K H (.ref a) (.tuple ds)
inductive dY(K:Frag)(H:Hp):Ε->List PyData->Prop
 |nil:dY K H [] []
 |cons {x:V}{xs:Ε}{d:PyData}{ds:List PyData} : iu K H x d->dY K H xs ds->dY K H (x::xs) (d::ds)
end
mutual
theorem iu.same{K:Frag}{H H':Hp}(S:Same H H'):∀{x:V}{d:PyData},iu K H x d->iu K H' x d
 |_,_,.non=>.non
 |_,_,.bl b=>.bl b
 |_,_,.int i=>.int i
 |_,_,.str x=>.str x
 |_,_,.lst e h=>.lst (S _ _ e) (dY.same S h)
 |_,_,.tup e h=>.tup (S.tup e) (dY.same S h)
theorem dY.same{K:Frag}{H H':Hp}(S:Same H H'):∀{xs:Ε}{ds:List PyData},dY K H xs ds->dY K H' xs ds
 |_,_,.nil=>.nil
 |_,_,.cons h t=>.cons (iu.same S h) (dY.same S t)
end
section
variable{X:Cx}{aa:Γ}{σ:L2.St}{H:Hp}{s:Shared}
mutual
theorem Inv.readsK(I:Inv X aa σ H s):∀{x:V}{d:PyData}{v:Value},iu X.K H x d->RelV x v->∃as,Reads s.heap v d as
 |_,_,_,.non,r=>by cases r;exact⟨_,.none⟩
 |_,_,_,.bl b,r=>by cases r;exact⟨_,.bool b⟩
 |_,_,_,.int i,r=>by obtain⟨t,rfl⟩:=r;exact⟨_,.int i t⟩
 |_,_,_,.str x,r=>by obtain⟨t,rfl⟩:=r;exact⟨_,.str x t⟩
 |_,_,_,.lst e h,r=>by
  cases r;obtain⟨its,rv,⟨o,ho,hc,n,hd⟩⟩:=I.lstIs e;obtain⟨as,q⟩:=Inv.readsAllK I h rv;exact⟨_,.list ho hc hd q⟩
 |_,_,_,.tup e h,r=>by
  cases r;obtain⟨its,rv,⟨o,ho,hc,n,hd⟩,_⟩:=I.tuple e;obtain⟨as,q⟩:=Inv.readsAllK I h rv;exact⟨_,.tuple ho hc hd q⟩
theorem Inv.readsAllK(I:Inv X aa σ H s):∀{xs:Ε}{ds:List PyData}{vs:Δ},dY X.K H xs ds->Vals xs vs->∃as,ReadsAll s.heap vs ds as
 |_,_,_,.nil,r=>by cases r;exact⟨_,.nil⟩
 |_,_,_,.cons h t,r=>by
  cases r with
  |cons r1 r2 =>
   obtain⟨a,q1⟩:=Inv.readsK I h r1;obtain⟨b,q2⟩:=Inv.readsAllK I t r2;exact⟨_,.cons q1 q2⟩
end
def ae3(K:Frag)(neg:Bool):R2:=λx y H Q=>∃d e,iu K H x d/\iu K H y e/\SeqAt.shaped d=true/\SeqAt.shaped e=true/\Q (.bl (if neg then !PyData.eqv d e else PyData.eqv d e)) H
theorem adN(hu:X.A.units+64<cLine):OpR X (compareOp .Eq) (ae3 X.K false):=by
 intro aa s σ H x y v u Q I rx ry h;obtain⟨d,e,hd,he,sd,se,q⟩:=h;obtain⟨as,ra⟩:=I.readsK hd rx;obtain⟨bs,rb⟩:=I.readsK he ry;exact SeqAt.compareEq_shaped ra rb sd se hu ⟨.bl _,H,I,rfl,q⟩
theorem afq(hu:X.A.units+64<cLine):OpR X (compareOp .NotEq) (ae3 X.K true):=by
 intro aa s σ H x y v u Q I rx ry h;obtain⟨d,e,hd,he,sd,se,q⟩:=h;obtain⟨as,ra⟩:=I.readsK hd rx;obtain⟨bs,rb⟩:=I.readsK he ry;exact SeqAt.compareNe_shaped ra rb sd se hu ⟨.bl _,H,I,rfl,q⟩
end
section
variable{X:Cx}
def aaV(K:Frag):Ε->Hp->VK->Prop:=λxs H Q=>∃p T ys,xs=[.ref p,.ty T]/\T∈["bool","int","str","list","tuple","dict"]/\SqT K H p ys/\Q (.bl (Nh "tuple" T)) H
theorem Ph:h_ X (.builtin "isinstance") (aaV X.K):=by
 intro aa s σ H xs us Q I r h;obtain⟨p,T,ys,rfl,hT,hp,q⟩:=h;obtain⟨u,v,rfl,ru,rv⟩:=r.two;cases ru;cases rv;obtain⟨its,rvs,⟨o,ho,hc,n,hd⟩,_⟩:=I.tuple hp;refine kia_one (kitx_tuple (a:=p)) I.kIn ⟨o,ho,hc⟩ (Uq (K:=X.K) (t:="tuple") (by decide) hT) (λz=>nomatch z) λtk=>⟨.bl _,H,I.tok _,rfl,q⟩
end
def OkI(P:Program)(w:World)(K:Frag)(mg:Str->Ψ)(base:Heap)(CX:CXT)(k:Nat)(f:Addr)(ps:Θ)(sp:Sp):Prop:=∃fd,b_ P w K mg base CX k f fd ps sp/\Binds K fd ps []
def xu(K:Frag)(x af:Str)(st:Stmt)(ps:Θ)(f:Addr):Prop:=∃fd,Fun K x af st f fd/\∀us:Δ,us.length=ps.length->bindArgs fd ⟨us,[]⟩=pure (ps.zip us)
theorem xu.ok{P:Program}{w:World}{K:Frag}{mg:Str->Ψ}{base:Heap}{CX:CXT}{k:Nat}{x af:Str}{st:Stmt}{ps:Θ}{f:Addr}{sp:Sp}(h:xu K x af st ps f)(hf:∀fd,Fun K x af st f fd->b_ P w K mg base CX k f fd ps sp):OkI P w K mg base CX k f ps sp :=
 by obtain⟨fd,a,b⟩:=h;exact⟨fd,hf fd a,.all b⟩
theorem aa9{K:Frag}{x af:Str}{st:Stmt}{ps:Θ}{f:Addr}{oc:Value}{od an:Ω}{dq:Array (Ψ)}{kV bP pm ah ct:Value}
 (l:K.lookup f=some ⟨oc,od,.func (PySem.W.fnOf x af (iC st) (dH st) (bF st) .none kV bP pm an ah ct),dq⟩)(c:codeIn K ah af=true)(k:keepIn K (.ref f)=true)
 (hb:∀(kV bP pm:Value)(an:Ω)(ah ct:Value)(us:Δ),us.length=ps.length->bindArgs (PySem.W.fnOf x af (iC st) (dH st) (bF st) .none kV bP pm an ah ct) ⟨us,[]⟩=pure (ps.zip us)):xu K x af st ps f :=
 ⟨_,XM l c k,hb kV bP pm an ah ct⟩
section
variable{X:Cx}{k:Nat}{f C B:Addr}{ps:Θ}{sp:Sp}{x m:Str}{p pos ai:Pos}{e o:Expr}{es:List Expr}{ta:TE}{t:TA}{Ex:Value->Ω->L2.St->Hp->Prop}
def ZR(C:Addr)(m:Str)(sp:Sp)(ta:TE)(t:TA):TE:=λσ H Q=>ta σ H λx H1=>∃a dx fs,x=.ref a/\H1 a=some (.ins C dx fs)/\fs.lookup m=none/\t σ H1 λvs H2=>sp (x::vs) H2 Q E0
noncomputable abbrev zg(X:Cx):=OkI X.prog X.w X.K X.mg X.base
theorem X4{pl:Sem Bool}(he:PE X o ta)(c:Cls X.K C)(hm:Meth X.K C m f)(G:zg X CX0 k f ps sp)(hr:dF k X.A)(ha:PA X (e::es) t)
 (bE:qo X e es:=by rfl)(aS:qh X pos es:=by rfl)
 (ht:eval (.Call (.Attribute o m ai) (e::es) [] pos) X.env=(do
   let ov <- eval o X.env
   standAt ai.atName
   let(f,first) <- holding [ov] (getMethod ov m pl)
   callWith pos f first (backTo pos (starEach (e::es) X.env)) (backToKw pos (keywordEach [] X.env))):=by rfl) :
  PE X (.Call (.Attribute o m ai) (e::es) [] pos) (ZR C m sp ta t):=by
 obtain⟨fd,F,hb⟩:=G;refine(abo (pl:=pl) he.mono c hm F hr hb .nil JK ha.mono bE aS ht).imp λσ H Q h=>⟨_,h,?_⟩;rintro x H1 ⟨a,dx,fs,h1,h2,h3,h4⟩;refine⟨a,dx,fs,h1,h2,h3,_,h4,λvs H2 q=>?_⟩;show sp (x::(vs++[])) H2 Q E0;rw[List.append_nil];exact q
theorem V9{pl:Sem Bool}(he:PE X o ta)(c:Cls X.K C)(hm:Meth X.K C m f)(G:zg X CX0 k f ps sp)(hr:dF k X.A)
 (ht:eval (.Call (.Attribute o m ai) [] [] pos) X.env=(do
   let ov <- eval o X.env
   standAt ai.atName
   let(f,first) <- holding [ov] (getMethod ov m pl)
   callWith pos f first (backTo pos (starEach [] X.env)) (backToKw pos (keywordEach [] X.env))):=by rfl) :
  PE X (.Call (.Attribute o m ai) [] [] pos) (ZR C m sp ta afO):=by
 obtain⟨fd,F,hb⟩:=G;refine(ZK (pl:=pl) he.mono c hm F hr hb .nil JK ht).imp λσ H Q h=>⟨_,h,?_⟩;rintro x H1 ⟨a,dx,fs,h1,h2,h3,h4⟩;exact⟨a,dx,fs,h1,h2,h3,h4⟩
theorem aas{D:Addr}{pos:Pos}(hg:Gl X x)(hm:X.mg x=some (.ref D))(hd:qk x:=by decide):PE X (.Name x pos) (tC (.ref D)):=Uz hg hm rfl hd
end
theorem J_{h:Heap}{o ob:Obj}{b:Addr}(e:(h.push o).get? b=some ob)(hs:b≠h.objs.size):h.get? b=some ob:=by
 obtain⟨e1,e2⟩:=Heap.get?_some_iff.mp e;refine Heap.get?_some_iff.mpr ⟨?_,e2⟩;cases h;simpa[Heap.push,Array.getElem?_push,hs]using e1
section
variable{X:Cx}
theorem Qy:∀{ys:Θ}{vs:Δ},Vals (ys.map V.str) vs->StrsAre vs ys
 |[],_,h=>by cases h;exact .nil
 |y::ys,_,h=>by
  rw[List.map_cons]at h;cases h with
  |cons a b =>
   obtain⟨t,rfl⟩:=a;exact .cons y t (Qy b)
def rJoin:V->Ε->Hp->VK->Prop:=λx vs H Q=>∃a l ys,x=.str a/\vs=[.ref l]/\H l=some (.lst (ys.map V.str))/\(ys.map (·.length)).sum+ys.length*a.length<=16777216/\Q (.str (Txt.join a ys)) H
theorem aaQ:MtM X "str.join" rJoin:=by
 intro aa s σ H x vs v us Q I rx rv h;obtain⟨a,l,ys,rfl,rfl,hl,hz,q⟩:=h;obtain⟨t,rfl⟩:=rx;obtain⟨u,rfl,ru⟩:=rv.one;cases ru;obtain⟨_,its,n,r,_,e⟩:=I.lstM hl;exact join_list ⟨_,e,rfl,n,rfl⟩ (by simpa using Qy r) hz λt' k=>⟨.str _,H,I.tok _,⟨_,rfl⟩,q⟩
end
section
variable{X:Cx}{bg iter:Expr}{pos:Pos}{scope:Scope}{wi:TI}{te:TE}
theorem aaB{ext:Addr->List (Str×Addr)}{fn:Str->Bool}{i0:Nat}{y0:Str}{py b9:Pos}{xs N':Θ}{tg:Expr}{az:List Expr}{gt:TG}{tc:TT}(E:QH X scope xs ext fn)(hc:X.calm=true)(gh:J3 xs X.N=N')(cf:scope.kind=.function)(cx:∀y∈scope.names,y.2=.local->scope.names.lookup y.1=some .local)
 (ce:∀y∈scope.names,y.2=.free->X.env.kindOf y.1=some .cell\/X.env.kindOf y.1=some .free)(fb:∀y∈X.N,y∉xs->(relabel scope X.env).names.lookup y≠some .local)(hq:∀y∈X.N,y∈xs->(relabel scope X.env).names.lookup (hid y)=none)(hi:PI X tg iter wi)
 (hg:∀C s₀ H₀ ex pn,PG (X.compE ext fn N' scope xs C s₀ H₀ ex pn) tg gt)(ht:∀C s₀ H₀ ex pn,PTs (X.compE ext fn N' scope xs C s₀ H₀ ex pn) az tc)(he:∀C s₀ H₀ ex pn,PE (X.compE ext fn N' scope xs C s₀ H₀ ex pn) bg te)(fA:PG X (.Name y0 py) (xW i0))(fx:swapsWith (.ListComp bg [⟨tg,iter,az,0⟩] scope pos) (some (.Name y0 py)) b9.line X.env=pure true)(hs:qV X iter) :
  PS X (.Assign [.Name y0 py] (.ListComp bg [⟨tg,iter,az,0⟩] scope pos) b9) (abM (qy wi xs.length gt tc te) (xW i0)):=by
 intro aa s σ H D0 I h;have h:qy wi xs.length gt tc te σ H (λx H1=>xW i0 x σ H1 D0.nx):=h;rw[exec_Assign_Name_used _ _ _ _ fx];refine ZU (wpAny_standAt (ZU ?_));show wpAny _ X.A (comprehension (.ListComp bg [⟨tg,iter,az,0⟩] scope pos) scope X.env _ (newList []) false (eval iter X.env) (some (assign (.Name y0 py) X.env)) >>= λ_=>_) _ _ s;refine ZU (wpAny_mono (JB (use:=some (assign (.Name y0 py) X.env)) (post:=λ_ s'=>SP X aa D0 .next s') E hc gh cf cx ce fb hq hi hg ht he hs I h λC D Hc s6 m fl ja I6 fC qn=>?_) (λ_ s' hq=>ZT (ZT hq)) λ_ _ e=>e);obtain⟨oc,es,ep,ho,mP,_⟩:=id ja;have I7:=I6.pinned (fp:=[C]) (λb hb=>by rw[YR.mp hb];exact fC) λb hb=>by
  rw[YR.mp hb];exact⟨oc,ho,λv z=>by rw[mP]at z;cases z⟩
 show wpAny _ X.A (assign (.Name y0 py) X.env _) _ _ s6;refine thn (fA _ s6 σ Hc (.ref D) _ D0.nx I7 rfl qn) λ_ s7 hP=>?_;obtain⟨σ7,H7,Z7,q7⟩:=hP;have pn7:=Z7.pin (C,oc) (aP _ (aP _ (pP (by simp) ho)));refine⟨m,ja.at' λo e=>?_,λh' l0=>⟨σ7,H7,Z7.unpinned.turned (it:=C) (h':=h') (t':=s7.toks) (λb o hb e=>(l0.2 b hb).trans e) pn7.2.1 fC.2.1 fC.2.2.2.1 fC.2.2.2.2.1 fC.2.2.2.2.2,q7⟩⟩;rw[ho]at e;cases e;exact pn7.1
end
section
variable{X:Cx}{aa:Γ}{σ:L2.St}{H:Hp}{s:Shared}{h':Heap}
theorem Inv.turnedL{t':Nat}{ch:Φ}(I:Inv X aa σ H s)(k:∀b o,b∉ch->s.heap.get? b=some o->h'.get? b=some o)(hf:∀b∈ch,Di X aa H b):Inv X aa σ H { s with heap:=h',toks:=t' }:=by
 have iX:∀b u,H b=some u->b∉ch:=λb u e z=>by rw[(hf b z).1]at e;cases e
 refine I.step (g':=s.gens) (d':=s.drawn) (ch:=ch) (λb hb=>⟨(hf b hb).2.2.2.1,(hf b hb).2.1,(hf b hb).2.2.2.2.1,(hf b hb).2.2.2.2.2⟩) (λb o _ _ hc e _=>k b o hc e) (λb o _ _ hc e _=>⟨o.slots,k b o hc e⟩) (λ_ _ _ _ n=>n) (λb o hc e=>⟨o,k b o hc e⟩) (λ_ _ e=>e) (λ_ _ _ e=>e) (λb ps e=>⟨#[],by rw[e];simp⟩) (λm hm=>?_) (λb u e=>?_) I.bare
 .obtain⟨o,es,ep,ho,r⟩:=hm;exact⟨o,es,ep,k _ o (λz=>(hf _ z).2.1 rfl) ho,r⟩
 .refine(I.hok b u e).stay (λc v hc q=>k c v ?_ q) (λ_ q=>q) λ_ _ q=>q;rcases hc with z|z
  .rw[z];exact iX b u e
  .exact iX c _ z
end
def Itz(a b:Addr):It:=⟨λi H=>∃xs ys,H a=some (.lst xs)/\H b=some (.lst ys)/\i<xs.length/\i<ys.length,λi H v H'=>∃xs ys x y t,H a=some (.lst xs)/\H b=some (.lst ys)/\xs[i]?=some x/\ys[i]?=some y/\H t=none/\v=.ref t/\H'=upd H t (.tup [x,y]),λi H=>∃xs ys,H a=some (.lst xs)/\H b=some (.lst ys)/\(xs.length<=i\/ys.length<=i)⟩
theorem oY{h g:Heap}{a l:Addr}{i:Nat}(x:h.IsListIter a l i)(k:∀o,h.get? a=some o->g.get? a=some o):g.IsListIter a l i:=by obtain⟨o,e,r⟩:=x;exact⟨o,k o e,r⟩
theorem K3{xs:Ε}{vs:Δ} : Vals xs vs->∀{i:Nat}{x:V},xs[i]?=some x->∃u,vs[i]?=some u/\RelV x u:=by
 intro h
 induction h with
 |nil=>intro i x e;cases e
 |cons a b ih =>
  intro i x e;cases i with
  |zero=>rw[List.getElem?_cons_zero]at e;cases e;exact⟨_,rfl,a⟩
  |succ i=>rw[List.getElem?_cons_succ]at e ⊢;exact ih e
theorem aaH{P:Program}{w:World}{K:Frag}{b6:List Expr}{x1}{pos:Pos}(z TI TO i1 i2 l1 l2:Addr)(D:ZipApart z TI TO i1 i2 l1 l2) :
  Turn P w K (.Tuple b6 x1 pos) (Itz l1 l2) [z,TI,TO,i1,i2] z (λi h=>IsZip h z TI TO .none/\IsPair h TI (.ref i1) (.ref i2)/\(∃p q,IsPair h TO p q)/\h.IsListIter i1 l1 i/\h.IsListIter i2 l2 i) where
 mem:=by simp
 obj:=by
  rintro i h ⟨s1,s2,⟨p,q,s3⟩,⟨o4,s4,_,d4⟩,⟨o5,s5,_,d5⟩⟩ b hb;simp only[YU,VU,or_false]at hb;rcases hb with rfl|rfl|rfl|rfl|rfl
  .exact⟨_,s1,λv e=>by cases e⟩
  .exact⟨_,s2,λv e=>by cases e⟩
  .exact⟨_,s3,λv e=>by cases e⟩
  .exact⟨_,s4,λv e=>by rw[d4]at e;cases e⟩
  .exact⟨_,s5,λv e=>by rw[d5]at e;cases e⟩
 keep:=λi h h' ⟨s1,s2,⟨p,q,s3⟩,s4,s5⟩ k=>⟨k z (by simp) _ s1,k TI (by simp) _ s2,⟨p,q,k TO (by simp) _ s3⟩,oY s4 (k i1 (by simp)),oY s5 (k i2 (by simp))⟩
 item:=by
  intro X hP hw hK hc i aa s σ H E I hf st hg;subst hP hw hK;obtain⟨s1,s2,⟨p,q,s3⟩,s4,s5⟩:=st;obtain⟨xs,ys,ha,hb,k7,lt2⟩:=hg;obtain⟨_,eW,n1,f8,le1,g1⟩:=I.lstM ha;obtain⟨_,i6,n2,kR,le2,g2⟩:=I.lstM hb;have ex:xs[i]?=some xs[i]:=aj k7;have ey:ys[i]?=some ys[i]:=aj lt2;obtain⟨u,hu,ru⟩:=K3 f8 ex;obtain⟨v,hv,rv⟩:=K3 kR ey;refine wpAny_pyNext_zip_item D s1 s2 s3 s4 s5 (xs:=eW.toArray) (ys:=i6.toArray) ⟨_,g1,rfl,n1,rfl⟩ ⟨_,g2,rfl,n2,rfl⟩ (x:=u) (y:=v) (by simpa using hu) (by simpa using hv) λh' a1 a2 a3 a4 a5 a6 a7=>⟨_,rfl,?_⟩;refine wpAny_letOwnedTupleGo_zip a1 λh2 f7 sb=>?_;have nt:H s.heap.objs.size=none:=I.fresh;have I1:=I.laid (a:=s.heap.objs.size) (o:=.tup [xs[i],ys[i]]) (h':=s.heap.push { cls:=.type "tuple",data:=.seq #[u,v] }) (t':=s.toks) (λb q z=>aH _ z) (aG _)
   ⟨(by show 2<=sizeLine;decide),[u,v],.cons ru (.cons rv .nil),_,aW _ rfl,rfl,_,rfl⟩
  have nz:z≠s.heap.objs.size:=aQ (aK s1);have nO:TO≠s.heap.objs.size:=aQ (aK s3);have nI:TI≠s.heap.objs.size:=aQ (aK s2);have k4:i1≠s.heap.objs.size:=by obtain⟨o,e,_⟩:=s4;exact aQ (aK e)
  have n2':i2≠s.heap.objs.size:=by obtain⟨o,e,_⟩:=s5;exact aQ (aK e)
  have j':∀b∈[z,TI,TO,i1,i2],upd H s.heap.objs.size (.tup [xs[i],ys[i]]) b=none:=by
   intro b hb;have f0:=(hf b hb).1;simp only[YU,VU,or_false]at hb;rcases hb with rfl|rfl|rfl|rfl|rfl
   .exact(bR nz).trans f0
   .exact(bR nI).trans f0
   .exact(bR nO).trans f0
   .exact(bR k4).trans f0
   .exact(bR n2').trans f0
  have I2:=I1.turnedL (ch:=[z,TO,i1,i2]) (h':=h2) (t':=s.toks) (λb ob hb e=>by
   simp only[YU,VU,or_false,not_or]at hb;obtain⟨b1,b2,b3,b4⟩:=hb;refine(sb.2 b b1).trans ?_;by_cases hs:b=s.heap.objs.size
   .subst hs;have e2:=aW s.heap (o:={ cls:=.type "tuple",data:=.seq #[u,v] }) rfl;have e:(s.heap.push { cls:=.type "tuple",data:=.seq #[u,v] }).get? s.heap.objs.size=some ob:=e;rw[e2]at e;cases e;exact a5
   .exact a7 b _ b1 b2 b3 b4 (J_ e hs)) λb hb=>by
    have cS:b∈[z,TI,TO,i1,i2]:=by
     simp only[YU,VU,or_false]at hb ⊢;rcases hb with h|h|h|h<;>simp[h]
    exact⟨j' b cS,(hf b cS).2⟩
  have mv:∀c o,c≠z->h'.get? c=some o->h2.get? c=some o:=λc o n e=>(sb.2 c n).trans e;exact⟨.ref _,_,I2,rfl,⟨xs,ys,_,_,_,ha,hb,ex,ey,nt,rfl,rfl⟩,⟨f7,mv _ _ D.TIz (a7 _ _ D.TIz D.TITO D.TIi1 D.TIi2 s2),⟨_,_,mv _ _ D.TOz a2⟩,oY a3 λo e=>mv _ _ D.i1z e,oY a4 λo e=>mv _ _ D.i2z e⟩,j'⟩
 done:=by
  intro X hP hw hK hc i aa s σ H E I hf st hg;subst hP hw hK;obtain⟨s1,s2,⟨p,q,s3⟩,s4,s5⟩:=st;obtain⟨xs,ys,ha,hb,lt⟩:=hg;obtain⟨_,eW,n1,f8,le1,g1⟩:=I.lstM ha;obtain⟨_,i6,n2,kR,le2,g2⟩:=I.lstM hb;refine wpAny_pyNext_zip_end (I.ok.hd hc) D s1 s2 s3 s4 s5 (xs:=eW.toArray) (ys:=i6.toArray) ⟨_,g1,rfl,n1,rfl⟩ ⟨_,g2,rfl,n2,rfl⟩ (by simp;lia) λh' k=>⟨rfl,I.turnedL (ch:=[z,TO,i1,i2]) (t':=s.toks) (λb ob hb e=>?_) λb hb=>?_⟩
  .simp only[YU,VU,or_false,not_or]at hb;exact k b ob hb.1 hb.2.1 hb.2.2.1 hb.2.2.2 e
  .exact hf b (by
    simp only[YU,VU,or_false]at hb ⊢;rcases hb with h|h|h|h<;>simp[h])
 self:=λ_ _ _ _ _ ⟨s1,_⟩ h=>wpAny_pyIter_zip s1 h
section
variable{X:Cx}
theorem VG(n l1 l2:Nat)(h1:l1<n)(h2:l2<n):ZipApart (n+4) (n+2) (n+3) n (n+1) l1 l2:=by
 constructor<;>first|exact aQ (by omega)|exact VQ (by lia)
theorem acO(n b:Nat)(h:b=n+4\/b=n+2\/b=n+3\/b=n\/b=n+1):n<=b:=by lia
theorem boot_zip:bootBuiltins "zip"=some (.type "zip"):=by decide +kernel
def ah3(ta:TA):TI:=λσ H R=>ta σ H λvs H1=>∃a b xs ys,vs=[.ref a,.ref b]/\H1 a=some (.lst xs)/\H1 b=some (.lst ys)/\R (Itz a b) H1
theorem aae{a b:Expr}{ta:TA}{b6:List Expr}{x1}{p pos ax:Pos}(hg:Gl X "zip")(hm:X.mg "zip"=none)(ha:PA X [a,b] ta)(hs:starEach [a,b] X.env=[(false,eval a X.env),(false,eval b X.env)]:=by rfl)(dS:starEach [b] X.env=[(false,eval b X.env)]:=by rfl) :
  PI X (.Tuple b6 x1 ax) (.Call (.Name "zip" p) [a,b] [] pos) (ah3 ta):=by
 intro aa s σ H R I h;refine Call_ (yC I hg hm boot_zip (PyProof.Rows.callWith_type1 (thn (ha pos aa s σ H _ I h) λus s1 hP=>?_) (by rw[hs,dS]) (by rw[dS];rfl)));obtain⟨vs,H1,I1,r1,q1⟩:=hP;obtain⟨l1,l2,xs,ys,e,h1,h2,q⟩:=q1;subst e;obtain⟨u,v,rfl,ru,rv⟩:=r1.two;cases ru;cases rv;obtain⟨_,eW,n1,f8,le1,g1⟩:=I1.lstM h1;obtain⟨_,i6,n2,kR,le2,g2⟩:=I1.lstM h2;have z1:=aK g1;have z2:=aK g2;refine call_zip_2 (xs:=eW.toArray) (ys:=i6.toArray) ⟨_,g1,rfl,n1,rfl⟩ ⟨_,g2,rfl,n2,rfl⟩ λh' a1 a2 a3 a4 a5 a6 a7=>?_;refine wpAny_pyIter_zip a1 ?_;refine⟨_,[s1.heap.objs.size+4,s1.heap.objs.size+2,s1.heap.objs.size+3,s1.heap.objs.size,s1.heap.objs.size+1],_,Itz l1 l2,H1,rfl,I1.kept (t':=s1.toks) λb ob e=>a7 b ob e,aaH _ _ _ _ _ l1 l2 (VG _ _ _ z1 z2),⟨a1,a2,⟨_,_,a3⟩,a4,a5⟩,λb hb=>?_,q⟩;have cS:s1.heap.objs.size<=b:=by
  simp only[YU,VU,or_false]at hb;exact acO _ _ hb
 exact I1.fpOk cS (I1.hok.fresh cS)
end
theorem Wb{ta:TA}{g:TG}{tb:TS}{D:Ends}{σ:L2.St}{H:Hp}(h:ta σ H λvs H1=>∃a b xs ys,vs=[.ref a,.ref b]/\H1 a=some (.lst xs)/\H1 b=some (.lst ys)/\xs.length=ys.length/\∃J:Nat->L2.St->Hp->Prop,J 0 σ H1 /\
   (∀k x y σ' H' t,xs[k]?=some x->ys[k]?=some y->J k σ' H'->H' a=some (.lst xs)->H' b=some (.lst ys)->H' t=none->g (.ref t) σ' (upd H' t (.tup [x,y])) λσ2 H2=>tb { D with nx:=λσ3 H3=>H3 a=some (.lst xs)/\H3 b=some (.lst ys)/\J (k+1) σ3 H3,ct:=λσ3 H3=>H3 a=some (.lst xs)/\H3 b=some (.lst ys)/\J (k+1) σ3 H3,bk:=D.nx } σ2 H2) /\
   ∀σ' H',J xs.length σ' H'->H' a=some (.lst xs)->H' b=some (.lst ys)->D.nx σ' H'):aiK (ah3 (tMA ta)) g tb D σ H:=by
 refine⟨_,h,?_⟩;rintro vs H1 ⟨a,b,xs,ys,rfl,hx,hy,hl,J,j0,step,aE⟩;refine⟨a,b,xs,ys,rfl,hx,hy,λk m σ' H'=>k<=xs.length/\m=xs.length-k/\H' a=some (.lst xs)/\H' b=some (.lst ys)/\J k σ' H',⟨_,aZ _,rfl,hx,hy,j0⟩,?_⟩;rintro k m σ' H' ⟨hk,rfl,h8,cS,j⟩;by_cases e:k=xs.length
 .subst e;exact .inl ⟨⟨xs,ys,h8,cS,.inl (aG _)⟩,aE σ' H' j h8 cS⟩
 .have eK:k<xs.length:=by exact XX hk e
  refine .inr ⟨⟨xs,ys,h8,cS,eK,by exact aR eK (WH hl)⟩,λσ3 H3=>H3 a=some (.lst xs)/\H3 b=some (.lst ys)/\J (k+1) σ3 H3,λσ3 H3 ⟨z1,z2,z3⟩=>⟨xs.length-(k+1),by lia,by exact eK,rfl,z1,z2,z3⟩,?_⟩;rintro v H'' ⟨eL,iA,x,y,t,e1,e2,e3,e4,e5,rfl,rfl⟩;rw[h8]at e1;rw[cS]at e2;cases e1;cases e2;exact step k x y σ' H' t e3 e4 j h8 cS e5
noncomputable def rlb(sc scope:Scope):Scope:={ scope with names:=scope.names.map λ(n,k)=>if(k==NameKind.free&&sc.kind == .function&&sc.names.lookup n==some .cell)then(n,NameKind.cell)else(n,k) }
section
variable{X:Cx}
theorem Vs(c:Nat):∀(n:Nat)(acc:Array Nat),((List.replicate n #[c]).foldl (· ++ ·) acc).toList=acc.toList++List.replicate n c
 |0,acc=>by simp
 |n+1,acc=>by
  rw[List.replicate_succ,List.foldl_cons,Vs c n,Array.toList_append,WZ]
  rfl
def ajs:R2:=λx y H Q=>∃c n,x=.str ⟨#[c]⟩/\y=.int n/\1<=n/\n<=1000/\∀z:Str,z.cps.toList=List.replicate n.toNat c->Q (.str z) H
theorem abh:OpR X (binaryOp .Mult) ajs:=by
 intro aa s σ H x y v u Q I rx ry h;obtain⟨c,n,rfl,rfl,h0,h1,q⟩:=h;obtain⟨t,rfl⟩:=rx;obtain⟨t',rfl⟩:=ry;have hi:(⟨#[c]⟩ : Str).length=1:=rfl;have made:∀z:Str,z.cps.toList=List.replicate n.toNat c->(Made.str z).post (EP X aa σ Q) s:=λz hz=>⟨by
  have:z.length=n.toNat:=by
   show z.cps.size=_;rw[<- Array.length_toList,hz,aN]
  exact aL (show z.length<=1001 by lia) (by decide),.str z,H,I.tok _,⟨_,rfl⟩,q z hz⟩
 refine PySem.P.mul_str ?_ (λ_ _=>?_) (λ_ _=>?_) ?_
 .rw[Zp (by lia),Zp (by lia)];rfl
 .rw[hi];have:1<=(2^63-1:Int)/n:=Int.le_ediv_of_mul_le (by omega) (by lia);lia
 .rw[hi];unfold Builtin.Str.tooLong;exact Zp (by
   have:n.toNat<=1000:=by lia
   have e:1000<=sizeLine:=by decide
   lia)
 .split
  .lia
  .split
   .rename_i hc
    rw[hi]at hc;have e:n.toNat=1:=by
     simp at hc;lia
    refine⟨.str ⟨#[c]⟩,H,I,⟨t,rfl⟩,q _ ?_⟩;rw[e];rfl
   .refine made _ ?_;show((List.replicate n.toNat #[c]).foldl (· ++ ·) #[]).toList=_;rw[Vs];rfl
end
def Cx.compGC(X:Cx)(N':Θ)(scope:Scope)(x0:Str)(C:Addr)(s₀:Shared)(H₀:Hp)(ex:Φ)(pn:Γ):Cx :=
 { X with env:=compEnvC scope ((x0,C+1)::ug X.env.cells scope.names []) C X.env,N:=[x0]++N',s₀:=s₀,H₀:=H₀,outer:=X.stack,ex:=ex,fn:=λz=>z==x0,pn:=pn,xe:=λ_ _=>False }
theorem xQ{env:Env}{x0:Str} : ∀{names:List (Str×NameKind)}{y:Str},y≠x0->((names.map λ(n,k)=>if(k==NameKind.free&&env.scope.kind == .function&&env.kindOf n==some .cell)then(n,NameKind.cell)else(n,k)).lookup y=some .cell \/
  (names.map λ(n,k)=>if(k==NameKind.free&&env.scope.kind == .function&&env.kindOf n==some .cell)then(n,NameKind.cell)else(n,k)).lookup y=some .free)->(∀z∈names,z.2=.cell->z.1=x0)->(y,NameKind.free)∈names
 |[],y,_,h,_=>by rcases h with h|h<;>cases h
 |(n,k)::r,y,ny,h,hc=>by
  have ih:=@xQ env x0 r y ny;have dk:∀z∈r,z.2=.cell->z.1=x0:=λz hz=>hc z (aJ _ hz);simp only[List.map_cons]at h;by_cases hcond:(k==NameKind.free&&env.scope.kind == .function&&env.kindOf n==some .cell)=true
  .rw[ZY hcond]at h;have hk:k=.free:=by
    simp only[JS,beq_iff_eq]at hcond;exact hcond.1.1
   subst hk;simp only[List.lookup_cons]at h;cases hb:y==n with
   |true=>rw[show y=n by simpa using hb];exact aO
   |false=>rw[hb]at h;exact aJ _ (ih h dk)
  .rw[ZZ hcond]at h;simp only[List.lookup_cons]at h;cases hb:y==n with
   |true =>
    have e:y=n:=by simpa using hb
    rw[hb]at h;rcases h with h|h
    .cases h;exact absurd (e.trans (hc (n,.cell) aO rfl)) ny
    .cases h;rw[e];exact aO
   |false=>rw[hb]at h;exact aJ _ (ih h dk)
theorem I_{M:Model}{A:Around}{E:Β}{s:Shared}{scope:Scope}{globals:Addr}{bS:List (Str×Addr)}{af:Str}{outer:Env}{x0:Str}{Q:Env->Shared->Prop}(fN:∀n acc,cellsFrom n scope.names acc=(x0,n)::acc)(fy:∀h,pushCells h scope.names=h.push { cls:=.type "cell",data:=.cell none })
 (hQ:∀g,g.Ns s.heap.objs.size (λx=>([] : List (Str×Value)).reverse.lookup x)->g.IsCell (s.heap.objs.size+1) none->(∀b o,s.heap.get? b=some o->g.get? b=some o)->Q (newEnv scope s.heap.objs.size globals ((x0,s.heap.objs.size+1)::bS) af none .none (some outer) builtinsNs) { s with heap:=g,toks:=s.toks+([] : List (Str×Value)).length }) :
  wpAny M A (newFunctionEnv scope globals bS [] af none .none (some outer)) Q E s:=by
 simp only[newFunctionEnv,Option.isSome_some,if_true];refine ZU (wpAny_alloc ?_);refine ZU (wpAny_layCells _ (λname kind cells=>by cases hkc:kind==NameKind.cell<;>simp[hkc]) _ _ _ _ ?_);rw[fN,fy];have z1:(s.heap.push { cls:=.type "dict",data:=.dict #[] }).objs.size=s.heap.objs.size+1:=Heap.size_push ..;show wpAny _ _ (forIn ([] : List (Str×Value)) _ _ >>= _) _ _ _;rw[List.forIn_nil];refine ZU (ZT (ZT ?_));have c1:=aW (s.heap.push { cls:=.type "dict",data:=.dict #[] }) (o:={ cls:=.type "cell",data:=.cell none }) rfl;rw[z1]at c1;show Q (newEnv scope s.heap.objs.size globals ((x0,(s.heap.push { cls:=.type "dict",data:=.dict #[] }).objs.size)::bS) af none .none (some outer) builtinsNs) _;rw[z1];exact hQ _ ((Heap.Ns.new s.heap (.type "dict")).at' λo e=>aH _ e) ⟨_,c1,rfl⟩ λb o e=>aH _ (aH _ e)
theorem TY{x0 y:Str}{d c:Addr}(e : [(x0,d)].lookup y=some c):y=x0/\c=d:=by
 rw[List.lookup_cons]at e;cases hy:y==x0 with
 |true=>rw[hy]at e;cases e;exact⟨by simpa using hy,rfl⟩
 |false=>rw[hy]at e;cases e
theorem ext1{X:Cx}{scope:Scope}{x0:Str}(fN:∀n acc,cellsFrom n scope.names acc=(x0,n)::acc)(fy:∀h,pushCells h scope.names=h.push { cls:=.type "cell",data:=.cell none })(m4:∀y∈scope.names,y.2=.cell->y.1=x0):QH X scope [x0] (λC=>[(x0,C+1)]) (λz=>z==x0) :=
 ⟨λhQ=>I_ fN fy λg eh hV kg=>hQ g eh (λy c e=>by rw[(TY e).2];exact hV) kg,λC y c e=>by rw[(TY e).2];exact X1 _,λC y z c e1 e2=>(TY e1).1.trans (TY e2).1.symm,λC y e=>⟨C+1,by rw[beq_iff_eq.mp e];exact List.lookup_cons_self⟩,λC y e=>by
  rw[List.lookup_cons,beq_eq_false_iff_ne.mpr λz=>e (by rw[z];simp)]
  rfl,λC y e=>by
  by_cases ny:y=x0
  .exact .inl ⟨C+1,by rw[ny];exact List.lookup_cons_self⟩
  .exact .inr (xQ ny e m4)⟩
def Ite(l:Addr):It:=⟨λi H=>∃xs,H l=some (.lst xs)/\i<xs.length,λi H v H'=>∃xs x t,H l=some (.lst xs)/\xs[i]?=some x/\H t=none/\v=.ref t/\H'=upd H t (.tup [.int i,x]),λi H=>∃xs,H l=some (.lst xs)/\xs.length<=i⟩
theorem V_{P:Program}{w:World}{K:Frag}{b6:List Expr}{x1}{pos:Pos}(e it l:Addr)(g6:e≠it) :
  Turn P w K (.Tuple b6 x1 pos) (Ite l) [e,it] e (λi h=>(∃old,IsEnum h e it ((i:Nat):Int) old)/\h.IsListIter it l i) where
 mem:=by simp
 obj:=by
  rintro i h ⟨⟨old,s1⟩,⟨o4,s4,_,d4⟩⟩ b hb;simp only[YU,VU,or_false]at hb;rcases hb with rfl|rfl
  .exact⟨_,s1,λv e=>by cases e⟩
  .exact⟨_,s4,λv e=>by rw[d4]at e;cases e⟩
 keep:=λi h h' ⟨⟨old,s1⟩,s4⟩ k=>⟨⟨old,k e (by simp) _ s1⟩,oY s4 (k it (by simp))⟩
 item:=by
  intro X hP hw hK hc i aa s σ H E I hf st hg;subst hP hw hK;obtain⟨⟨old,s1⟩,s4⟩:=st;obtain⟨xs,ha,k7⟩:=hg;obtain⟨_,eW,n1,f8,le1,g1⟩:=I.lstM ha;have ex:xs[i]?=some xs[i]:=aj k7;obtain⟨u,hu,ru⟩:=K3 f8 ex;refine wpAny_pyNext_enum_item s1 s4 (items:=eW.toArray) ⟨_,g1,rfl,n1,rfl⟩ (x:=u) (by simpa using hu) g6 λh' a1 a3 a5 a6 a7=>⟨_,rfl,?_⟩;refine wpAny_letOwnedTupleGo_enum a1 λh2 f7 sb=>?_;have nt:H s.heap.objs.size=none:=I.fresh;have I1:=I.laid (a:=s.heap.objs.size) (o:=.tup [.int i,xs[i]]) (h':=s.heap.push { cls:=.type "tuple",data:=.seq #[.int i s.toks,u] }) (t':=s.toks+1) (λb q z=>aH _ z) (aG _)
   ⟨(by show 2<=sizeLine;decide),[.int i s.toks,u],.cons ⟨_,rfl⟩ (.cons ru .nil),_,aW _ rfl,rfl,_,rfl⟩
  have nz:e≠s.heap.objs.size:=aQ (aK s1);have k4:it≠s.heap.objs.size:=by obtain⟨o,e,_⟩:=s4;exact aQ (aK e)
  have j':∀b∈[e,it],upd H s.heap.objs.size (.tup [.int i,xs[i]]) b=none:=by
   intro b hb;have f0:=(hf b hb).1;simp only[YU,VU,or_false]at hb;rcases hb with rfl|rfl
   .exact(bR nz).trans f0
   .exact(bR k4).trans f0
  have I2:=I1.turnedL (ch:=[e,it]) (h':=h2) (t':=s.toks+1) (λb ob hb z=>by
   simp only[YU,VU,or_false,not_or]at hb;obtain⟨b1,b3⟩:=hb;refine(sb.2 b b1).trans ?_;by_cases hs:b=s.heap.objs.size
   .subst hs;have e2:=aW s.heap (o:={ cls:=.type "tuple",data:=.seq #[.int i s.toks,u] }) rfl;have z:(s.heap.push { cls:=.type "tuple",data:=.seq #[.int i s.toks,u] }).get? s.heap.objs.size=some ob:=z;rw[e2]at z;cases z;exact a5
   .exact a7 b _ b1 b3 (J_ z hs)) λb hb=>⟨j' b hb,(hf b hb).2⟩
  have mv:∀c o,c≠e->h'.get? c=some o->h2.get? c=some o:=λc o n z=>(sb.2 c n).trans z;exact⟨.ref _,_,I2,rfl,⟨xs,_,_,ha,ex,nt,rfl,rfl⟩,⟨⟨_,by rw[Int.natCast_add];exact f7⟩,oY a3 λo z=>mv _ _ (λy=>g6 y.symm) z⟩,j'⟩
 done:=by
  intro X hP hw hK hc i aa s σ H E I hf st hg;subst hP hw hK;obtain⟨⟨old,s1⟩,s4⟩:=st;obtain⟨xs,ha,lt⟩:=hg;obtain⟨_,eW,n1,f8,le1,g1⟩:=I.lstM ha;have hl:=f8.length;refine wpAny_pyNext_enum_end (I.ok.hd hc) s1 s4 (items:=eW.toArray) ⟨_,g1,rfl,n1,rfl⟩ (by simp;lia) λh' k=>⟨rfl,I.turnedL (ch:=[e,it]) (t':=s.toks) (λb ob hb z=>?_) hf⟩;simp only[YU,VU,or_false,not_or]at hb;exact k b ob hb.2 z
 self:=λ_ _ _ _ _ ⟨⟨_,s1⟩,_⟩ h=>wpAny_pyIter_enum s1 h
section
variable{X:Cx}
def ai4(ta:TA):TI:=λσ H R=>ta σ H λvs H1=>∃a xs,vs=[.ref a]/\H1 a=some (.lst xs)/\R (Ite a) H1
theorem aaP{a:Expr}{ta:TA}{b6:List Expr}{x1}{p pos ax:Pos}(hg:Gl X "enumerate")(hm:X.mg "enumerate"=none)(ha:PA X [a] ta)(hs:starEach [a] X.env=[(false,eval a X.env)]:=by rfl) :
  PI X (.Tuple b6 x1 ax) (.Call (.Name "enumerate" p) [a] [] pos) (ai4 ta):=by
 intro aa s σ H R I h;refine Call_ (yC I hg hm boot_enumerate (PyProof.Rows.callWith_type1 (thn (ha pos aa s σ H _ I h) λus s1 hP=>?_) (by rw[hs];rfl) (by rfl)));obtain⟨vs,H1,I1,r1,q1⟩:=hP;obtain⟨l1,xs,e,h1,q⟩:=q1;subst e;obtain⟨u,rfl,ru⟩:=r1.one;cases ru;obtain⟨_,eW,n1,f8,le1,g1⟩:=I1.lstM h1;refine call_enumerate_list (items:=eW.toArray) ⟨_,g1,rfl,n1,rfl⟩ λh' a1 a2 a3 a7=>?_;refine wpAny_pyIter_enum a1 ?_;refine⟨_,[s1.heap.objs.size+1,s1.heap.objs.size],_,Ite l1,H1,rfl,I1.kept (t':=s1.toks) λb ob e=>a7 b ob e,V_ _ _ l1 (Nat.succ_ne_self _),⟨⟨_,a1⟩,a2⟩,λb hb=>?_,q⟩;have cS:s1.heap.objs.size<=b:=by
  simp only[YU,VU,or_false]at hb;rcases hb with z|z
  .rw[z];exact Xs _
  .rw[z];exact aG _
 exact I1.fpOk cS (I1.hok.fresh cS)
end
section
variable{prog:Program}{w:World}{A:Around}{E:Β}{h:Heap}{g:Array GenState}{d:Drawn}{t:Nat}{os:OsState}{nm q:Str}{C N:Addr}{bs bm kC:Δ}{fF:Bool}{sn:Θ}{sub:Δ}{ab:Bool}{col:Option Bool}{dd:Ω}{k0 k1 k2 k3 k5:Ψ}{B dP e9:String}
noncomputable abbrev JD(h:Heap)(C:Addr)(us:Δ):Heap:=(h.push { cls:=.type "tuple",data:=.seq us.toArray }).push { cls:=.ref C,data:=.fields #[.ref h.objs.size,.none,.none,.none,.bool false,.none] }
theorem Dc{us:Δ}(b:Addr)(o:Obj)(e:h.get? b=some o):(JD h C us).get? b=some o:=aH _ (aH _ e)
theorem Ji(F:ExcBaseFacts B dP e9 kC)(T:OwnTail h kC bm){mN:Str->Ψ}{us:Δ}{fI:Addr}{oI:Obj}{Q:Fin->Shared->Prop}(hC:h.get? C=some (excClassObj nm q C N bs bm fF sn sub ab col dd k0 k1 k2 k3 k5 dP))(hn:h.Ns N mN)(hi:mN "__init__"=some (.ref fI))(hf:h.get? fI=some oI)(hc:oI.cls=.type "function")(hl:us.length<=sizeLine)
 (hq:wpAny (model prog w) A (call (.ref fI) (.ref (h.objs.size+1)::us)) (λr s'=>r=.none/\Q (.done (.ret (.ref (h.objs.size+1)))) s') E ⟨JD h C us,g,d,t,os⟩):wpAny (model prog w) A (Builtin.«type.__call__» ⟨.ref C::us,[]⟩) Q E ⟨h,g,d,t,os⟩:=by
 have K:=Dc (h:=h) (C:=C) (us:=us);have C1:=K _ _ hC;have T1:=T.keeps K;have at_:(JD h C us).get? (h.objs.size+1)=some { cls:=.ref C,data:=.fields #[.ref h.objs.size,.none,.none,.none,.bool false,.none] }:=by heap_get
 have isC:(Value.ref C::bm).contains (.ref C)=true:=by simp
 repeat (first|with_reducible refine wpAny_loadPart_at hC ?_|with_reducible refine wpAny_madeBy_exc hC ?_|wp_step)
 refine codeAny_call_builtin_code (Code.quiet_builtin _ F.quiet) (wpAny_check_new_subT F T hC (codeAny_exc_new_subT F T hC ?_ hl));show wpAny _ _ _ _ _ _;unfold isInstance
 repeat (first|with_reducible refine wpAny_loadPart_at at_ ?_|(with_reducible refine wpAny_isSubtype_exc C1 ?_;rw[isC])|wp_step)
 show wpAny _ _ (typeLookup (.ref C) _) _ _ _;refine wpAny_typeLookup_tail C1 (hn.keeps K) T1 F.mroIs F.init.lookup ?_;rw[hi];refine wpAny_holding (ZU ?_);unfold bindSpecial;refine ZU (wpAny_typeOf (T:="function") ⟨_,K _ _ hf,hc⟩ ?_);rw[ZY (by decide)];refine ZT (ZU (wpAny_mono hq (λr s' hP=>?_) λ_ _ x=>x));obtain⟨e,z⟩:=hP;subst e
 wp_walk
 exact z
theorem ZL(F:ExcBaseFacts B dP e9 kC)(T:OwnTail h kC bm){mN:Str->Ψ}{us:Δ}{fI:Addr}{oI:Obj}{Q:Β}(hC:h.get? C=some (excClassObj nm q C N bs bm fF sn sub ab col dd k0 k1 k2 k3 k5 dP))(hn:h.Ns N mN)(hi:mN "__init__"=some (.ref fI))(hf:h.get? fI=some oI)(hc:oI.cls=.type "function")(hl:us.length<=sizeLine)
 (hq:wpAny (model prog w) (A.under (.builtin "type.__call__" ⟨.ref C::us,[]⟩)) (call (.ref fI) (.ref (h.objs.size+1)::us)) (λr s'=>r=.none/\Q (.ref (h.objs.size+1)) s') E ⟨JD h C us,g,d,t,os⟩):wpAny (model prog w) A (call (.ref C) us) Q E ⟨h,g,d,t,os⟩:=by
 have a1:=tc_lookup;have a2:=tc_bind (.ref C);have a3:(⟨h,g,d,t,os⟩ : Shared).TypeIs (.ref C) "type":=⟨_,hC,rfl⟩;refine wpAny_call (codeAny_of_tree ?_);show wpAny _ _ (callAny (.ref C) _) _ _ _
 repeat (any_goals (first|assumption|with_reducible refine wpAny_loadPart_at hC ?_|wp_step))
 exact⟨rfl,codeAny_call_builtin_at (Code.quiet_builtin _ (by decide +kernel)) entry_typeCall (wpAny_check_type_call_sub hC (Ji F T hC hn hi hf hc hl hq))⟩
end
noncomputable def KJ:Δ->Bool
 |.ref _::l=>KJ l
 |l=>l==bmV
theorem R7{self:Value}{l:Δ}(h:KJ l=true):refuseLoop self "__setattr__" l=pure ():=by
 induction l with
 |nil=>cases h
 |cons x l ih =>
  cases x with
  |ref C=>rw[refuseLoop_ref];exact ih h
  |type n =>
   have e:Value.type n::l=bmV:=beq_iff_eq.mp h;rw[e];exact PySem.F.store_ValueError.passes self
  |_=>exact absurd (beq_iff_eq.mp h) (by intro z;cases z)
structure YM(K:Frag)(C:Addr):Prop where
 cd:∃cd,clsIn K C=some cd/\cd.hasDict=true/\KJ cd.mro=true
 sa:findIn K (.ref C) "__setattr__"=some (some (.builtin "object.__setattr__"))
 mo:mroIn K C (.type "object")=some true
section
variable{prog:Program}{w:World}{A:Around}{E:Β}{K:Frag}{s:Shared}{x C:Addr}{ox:Obj}{f:Str}{v:Value}{vs:Array Value}
theorem ab5{Q:Unit->Shared->Prop}(X:K.In s.heap)(S:YM K C)(n:bY K C f)(hx:s.heap.get? x=some ox)(hc:ox.cls=.ref C)(hd:ox.dict=none)(hv:ox.data=.fields vs)
 (hq:∀h' t',h'.Ns1 s.heap.objs.size (λy=>if y=f then some v else none)->h'.get? x=some { ox with dict:=some s.heap.objs.size }->(∀b,b≠x->b≠s.heap.objs.size->h'.get? b=s.heap.get? b)->Q () ⟨h',s.gens,s.drawn,t',s.os⟩):wpAny (model prog w) A (setAttr (.ref x) f v) Q E s:=by
 obtain⟨cd,a9,hdi,hm⟩:=S.cd;have J:PySem.W.InstAt s.heap x ox C none:=⟨hx,hc,by unfold notCls;rw[hv],by rw[hd];trivial⟩;have SF:=PySem.F.store_object;refine set_plain X J S.sa ?_;have sub:PySem.W.Looks (model prog w) s.heap (isInstance (.ref x) (.type "object")) true:=J.type.andThen (looks_mroIn X S.mo);have lm:PySem.W.Looks (model prog w) s.heap (mroOf (.ref C)) cd.mro:=(looks_clsIn X a9).andThen .now;generalize gi:({ s with toks:=s.toks+1 } : Shared)=s1;have e1:s1.heap=s.heap:=by rw[<- gi]
 rw[<- e1]at sub lm X J;refine codeAny_call_builtin SF.slot.plain SF.entry (@PySem.W.check_slot (model prog w) _ _ s1 "object.__setattr__" "object" "__setattr__" (.ref x) [.str f s.toks,v] [] _ SF.kind SF.split sub (SF.args (.ref x) (.str f s.toks) v) ?_);rw[PySem.W.osa_eq,refuse_eq];refine ZU (ZU (J.type.here (ZU (lm.here ?_))));rw[R7 hm];refine ZT (ZU (J.type.here (ZU ((looks_findIn X n).here (ZU (ZT ?_))))));have hx1:s1.heap.get? x=some ox:=by rw[e1];exact hx
 obtain⟨oc,odi,oda,dq⟩:=ox;dsimp only at hc hd hv;subst hc hd hv;refine ZU (ZT (ZU (ZU (wpAny_loadPart hx1 (ZU ((looks_clsIn X a9).here ?_))))));rw[hdi,ZZ (by simp),ZZ (by simp[typeHasDict])];have e0:=gi;obtain⟨hp,gg,dr,tk,os⟩:=s1;dsimp only at hx1 e1 ⊢;cases e0;have hxs:x≠s.heap.objs.size:=aQ (aK hx);refine ZU (wpAny_alloc' (ZU (wpAny_update' (aH _ hx) (ZT ?_))));generalize hu:(s.heap.push { cls:=.type "dict",data:=.dict #[] }).update x _=hU;have q1:hU.get? s.heap.objs.size=some { cls:=.type "dict",data:=.dict #[] }:=by
  rw[<- hu];exact(Heap.get?_update_ne _ _ _ _ hxs.symm).trans (Heap.get?_push_at rfl rfl)
 have q2:hU.get? x=some { cls:=.ref C,dict:=some s.heap.objs.size,data:=.fields vs,slots:=dq }:=by
  rw[<- hu];exact Heap.get?_update_self _ (aH _ hx) rfl
 have q3:∀b,b≠x->b≠s.heap.objs.size->hU.get? b=s.heap.get? b:=λb n1 n2=>by
  rw[<- hu];exact(Heap.get?_update_ne _ _ _ _ n1).trans (Heap.get?_push_ne _ _ _ n2)
 dsimp only;unfold Builtin.ObjectAttr.storeInDict Builtin.ObjectAttr.newKeyGuard;refine ZU (ZT (ZU (wpAny_nsSet1 (Heap.Ns1.of_empty ⟨_,#[],_,q1,rfl,λ_ z=>absurd z (by simp),λ_=>rfl⟩) λh' hn hs=>?_)));obtain⟨oD,esD,epD,mh,mS,hZ⟩:=hn.count (Within.cons f v Within.nil);refine ZU (wpAny_lookBehind mh (by rw[mS];exact pastItsLine_dict (aL hZ (by rw[List.length_cons,List.length_nil,sizeLine_eq];exact Nat.le_add_left _ _))) ?_)
 wp_walk
 exact hq h' _ hn ((hs.2 x hxs).trans q2) λb n1 n2=>(hs.2 b n2).trans (q3 b n1 n2)
end
structure Mu(K:Frag)(C HE fI:Addr):Prop where
 ex:∃nm qn N bs sn sub ab col dd k0 k1 k2 k3 k5,K.lookup C=some (excClassObj nm qn C N bs (.ref HE::bmV) true sn sub ab col dd k0 k1 k2 k3 k5 "ValueError.__new__")/\nsOkIn K N=true/\nsIn K N "__init__"=some (some (.ref fI))
 he:aeY K HE
 fn:∃o,K.lookup fI=some o/\o.cls=.type "function"
 kp:keepIn K (.ref C)=true
theorem abm{K:Frag}{h:Heap}{N:Addr}{m:Str->Ψ}{n:Str}{v:Value}(X:K.In h)(G:h.Ns N m)(e:nsIn K N n=some (some v)):m n=some v:=by
 obtain⟨o,es,ep,ho,hd,_,hf⟩:=G;rw[<- hf];unfold nsIn at e;split at e
 .rename_i q
  cases(X _ _ q).symm.trans ho;cases hd;unfold nsFind findBy;rw[<- Array.find?_toList];split at e
  .rename_i en he
   cases e;rw[he];rfl
  .split at e<;>cases e
 .cases e
theorem Mu.obj{K:Frag}{h:Heap}{C HE fI:Addr}(q:Mu K C HE fI)(X:K.In h):∃nm qn N bs sn sub ab col dd k0 k1 k2 k3 k5 mN o,h.get? C=some (excClassObj nm qn C N bs (.ref HE::bmV) true sn sub ab col dd k0 k1 k2 k3 k5 "ValueError.__new__") /\
  h.Ns N mN/\mN "__init__"=some (.ref fI)/\h.get? fI=some o/\o.cls=.type "function"/\OwnTail h bmV (.ref HE::bmV):=by
 obtain⟨nm,qn,N,bs,sn,sub,ab,col,dd,k0,k1,k2,k3,k5,l,a,b⟩:=q.ex;obtain⟨o,lo,ho⟩:=q.fn;obtain⟨bm,N',nm',qn',bs',bv,sn',sub',ab',col',oy,k0',k1',k2',k3',k5',mN',hC,hN,hi,T⟩:=aaO X q.he;exact⟨nm,qn,N,bs,sn,sub,ab,col,dd,k0,k1,k2,k3,k5,_,o,X _ _ l,.of_isNs (isNs_of_in X a),abm X (.of_isNs (isNs_of_in X a)) b,X _ _ lo,ho,.own hC hN hi .base⟩
noncomputable abbrev Qk(C t:Addr)(d:Ω):Obj:={ cls:=.ref C,dict:=d,data:=.fields #[.ref t,.none,.none,.none,.bool false,.none] }
def XN(a C:Addr)(d:Ω):HO:=.ext λh=>∃t,h.get? a=some (Qk C t d)
theorem YW{P:Program}{w:World}{H:Hp}{h:Heap}{a C t:Addr}{d:Ω}(e:h.get? a=some (Qk C t d)):dM P w H h a (XN a C d):=⟨⟨t,e⟩,⟨_,e⟩,λ_ _ ⟨u,z⟩ k=>⟨u,k _ z⟩⟩
theorem Vg{P:Program}{w:World}{H:Hp}{h:Heap}{a C:Addr}{d:Ω}(e:dM P w H h a (XN a C d)):∃t,h.get? a=some (Qk C t d):=e.1
theorem afm{H:Hp}{a:Addr}{o:HO}(e:H a=some o):upd H a o=H:=by
 funext b;unfold upd;split
 .rename_i z;rw[z,e]
 .rfl
structure YX(K:Frag)(B:Addr):Prop where
 ga:specialIn K (.ref B) "__getattribute__"=some (some (.builtin "type.__getattribute__"))
 rd:readsIn K B (.type "type")=true
 at_:findCls K (.ref B) (.type "type") "__init__"=some (.val (.builtin "ValueError.__init__"))
section
variable{X:Cx}{B C HE fI:Addr}{x:Str}{p pos ai:Pos}{e:Expr}{es:List Expr}{t:TA}{aa:Γ}{σ:L2.St}{H:Hp}{s:Shared}
theorem init_exc{A:Around}{E:Β}{Q:Β}{a:Addr}{us:Δ}(I:Inv X aa σ H s)(q:Mu X.K C HE fI)(ha:H a=some (XN a C none))(hl:us.length<=sizeLine)
 (h:∀s',Inv X aa σ H s'->Q .none s'):wpAny (model X.prog X.w) A (call (.builtin "ValueError.__init__") (.ref a::us)) Q E s:=by
 obtain⟨nm,qn,N,bs,sn,sub,ab,col,dd,k0,k1,k2,k3,k5,mN,o,hC,hN,hi,hf,mI,T⟩:=q.obj I.kIn;obtain⟨u,hx⟩:=Vg (I.hok a _ ha);have F:=PySem.F.excBase_ValueError;obtain⟨hp,gs,dr,tk,os⟩:=s;refine wpAny_call (codeAny_call_builtin F.init.plain F.initEntry (wpAny_check_init_subT F T hC hx rfl ?_))
 wp_walk
 refine h _ ?_;have e1:(hp.push { cls:=.type "tuple",data:=.seq us.toArray }).get? a=some (Qk C u none):=aH _ hx;have J:=I.write (x:=a) (e:=a) (o:=XN a C none) (t':=tk) (h':=(hp.push { cls:=.type "tuple",data:=.seq us.toArray }).update a (Obj.mapFields λx=>x.setIfInBounds 0 (Value.ref hp.objs.size))) (by rw[ha];trivial) (.inl rfl)
  (λb v n z=>(Heap.get?_update_other _ _ (Ne.symm n)).trans (aH _ z)) ⟨_,Heap.get?_update_self _ e1 rfl⟩ (YW (t:=hp.objs.size) (Heap.get?_update_self _ e1 rfl))
 rwa[afm ha]at J
def adZ(C:Addr)(t:TA):TE:=λσ H Q=>t σ H λvs H1=>∃a ws,vs=.ref a::ws/\H1 a=some (XN a C none)/\ws.length<=sizeLine/\Q .non H1
theorem YJ{pl:Sem Bool}(c:YX X.K B)(q:Mu X.K C HE fI)(hg:Gl X x)(hm:X.mg x=some (.ref B))(ha:PA X (e::es) t)(bu:qk x:=by decide)
 (bE:qo X e es:=by rfl)(aS:qh X pos es:=by rfl)
 (ht:eval (.Call (.Attribute (.Name x p) "__init__" ai) (e::es) [] pos) X.env=(do
   let ov <- eval (.Name x p) X.env
   standAt ai.atName
   let(f,first) <- holding [ov] (getMethod ov "__init__" pl)
   callWith pos f first (backTo pos (starEach (e::es) X.env)) (backToKw pos (keywordEach [] X.env))):=by rfl) :
  PE X (.Call (.Attribute (.Name x p) "__init__" ai) (e::es) [] pos) (adZ C t):=by
 intro aa s σ H Q I h;refine methodCall_KW (pl:=pl) (qu I hg hm (method_cls I.kIn c.ga (cls_value I.kIn c.rd c.at_ (by decide) ?_)) bu) ht;show wpAny _ _ (callWith pos (.builtin "ValueError.__init__") [] (backTo pos (starEach (e::es) X.env)) []) _ _ _;have h2:=ha pos aa _ σ H _ (I.tok (s.toks+1)) h;rw[bE]at h2 ⊢;refine PySem.W.callWith_of (P:=λ_=>True) (by show((false || (backTo pos (starEach es X.env)).any (·.1)) || false)=false;rw[aS];rfl) (λ_ _=>⟨.machine,.inr (.inl rfl),.now⟩) (Calls.evalArgs_plain (thn h2 λus s2 ⟨vs,H2,I2,r,a,ws,e1,e2,e3,e4⟩=>⟨trivial,?_⟩));subst e1;cases r with
 |cons r1 r2 =>
  cases r1;exact init_exc I2 q e2 (by rw[<- r2.length];exact e3) λs' J=>⟨.non,H2,J,rfl,e4⟩
end
section
variable{X:Cx}{aa:Γ}{σ:L2.St}{H:Hp}{s:Shared}{a C HE fI:Addr}{f:Str}{v:V}{A:Around}{E:Β}
theorem Wo{u:Value}{Q:Unit->Shared->Prop}(I:Inv X aa σ H s)(e:H a=some (XN a C none))(c:YM X.K C)(n:bY X.K C f)(r:RelV v u)
 (h:∀d s',H d=none->d≠a->Inv X aa σ (upd (upd H a (XN a C (some d))) d (.xd [(f,v)])) s'->Q () s'):wpAny (model X.prog X.w) A (setAttr (.ref a) f u) Q E s:=by
 obtain⟨t,ha⟩:=Vg (I.hok a _ e);have nd:H s.heap.objs.size=none:=I.hok.fresh (aG _);have na:s.heap.objs.size≠a:=(aQ (aK ha)).symm;refine ab5 I.kIn c n ha rfl rfl rfl λh' t' hn hx ho=>h s.heap.objs.size _ nd na ?_;have J:=I.write (x:=a) (e:=a) (o:=XN a C (some s.heap.objs.size)) (t':=t') (h':=h') (by rw[e];trivial) (.inl rfl) (λb w z q=>(ho b z (aQ (aK q))).trans q) ⟨_,hx⟩ (YW hx);refine J.track ((bR na).trans nd) (Heap.get?_none_of_le I.sz) (VQ I.lt) (λx c q z=>?_) (λp q z=>?_) ⟨_,hn,λg=>?_⟩
 .obtain⟨w,o,q',_⟩:=I.cell x c q;rw[z]at q';exact X9 _ (aK q')
 .have q':=(I.pin p q).1;rw[z]at q';exact X9 _ (aK q')
 .by_cases z:g=f
  .subst z;simp[List.lookup];exact r
  .have:(g==f)=false:=by simp[z]
   simp[List.lookup,this,z]
   trivial
def ahl(K:Frag)(ta tv:TE)(f:Str):TS:=λD σ H=>tv σ H λy H1=>ta σ H1 λx H2=>∃a C,x=.ref a/\H2 a=some (XN a C none)/\YM K C/\bY K C f/\∀d,H2 d=none->d≠a->D.nx σ (upd (upd H2 a (XN a C (some d))) d (.xd [(f,y)]))
theorem abW{o ar:Expr}{ta tv:TE}{pos aI:Pos}(ha:PE X o ta)(hv:PE X ar tv)(hs:swapsWith ar (some (.Attribute o f aI)) pos.line X.env=pure false):PS X (.Assign [.Attribute o f aI] ar pos) (ahl X.K ta tv f):=by
 intro aa s σ H D I h;refine plainObj_wpAny_Assign_Attribute (thn (hv aa s σ H _ I h) λu s1 ⟨y,H1,I1,ry,q⟩=>thn (ha aa s1 σ H1 _ I1 q) λov s2 hP=>?_) hs;obtain⟨x,H2,I2,rx,a,C,ex,ea,c,n,q2⟩:=hP;subst ex;obtain rfl:ov=Value.ref a:=rx;exact Wo I2 ea c n ry λd s3 h1 h2 I3=>⟨σ,_,I3,q2 d h1 h2⟩
theorem Inv.madeE{us:Δ}(I:Inv X aa σ H s):Inv X aa σ (upd H (s.heap.objs.size+1) (XN (s.heap.objs.size+1) C none)) { s with heap:=JD s.heap C us } :=
 I.laid (a:=s.heap.objs.size+1) (o:=XN (s.heap.objs.size+1) C none) (h':=JD s.heap C us) (t':=s.toks) Dc (Xs _) (YW (t:=s.heap.objs.size) (by heap_get))
theorem Ww{k:Nat}{fd:FuncData}{ps:Θ}{sp:Sp}{us:Δ}{vs:Ε}{Q:Addr->Hp->Prop}(q:Mu X.K C HE fI)(F:b_ X.prog X.w X.K X.mg X.base CX0 k fI fd ps sp)(hr:dF (k+1) X.A)(hb:Binds X.K fd ps [])
 (I:Inv X aa σ H s)(r:Vals vs us)(hl:us.length<=sizeLine)(h:∀x,H x=none->sp (.ref x::vs) (upd H x (XN x C none)) (λv H2=>v=.non/\Q x H2) E0) :
  wpAny (model X.prog X.w) X.A (call (.ref C) us) (λu s'=>∃a H',u=.ref a/\X.s₀.heap.objs.size<=a/\Inv X aa σ H' s'/\Q a H') X.xe s:=by
 obtain⟨nm,qn,N,bs,sn,sub,ab,col,dd,k0,k1,k2,k3,k5,mN,o,hC,hN,hi,hf,mI,T⟩:=q.obj I.kIn;have hq:=h (s.heap.objs.size+1) (I.hok.fresh (Xs _));have I2:=I.madeE (C:=C) (us:=us);have r2:Vals (V.ref (s.heap.objs.size+1)::vs) (Value.ref (s.heap.objs.size+1)::us):=.cons rfl r;have hl2:(Value.ref (s.heap.objs.size+1)::us++[]).length=ps.length:=by
  rw[List.append_nil,<- r2.length];exact F.len _ _ _ _ hq
 have cS:=hb _ (Value.ref (s.heap.objs.size+1)::us) I2.kIn hl2;rw[List.append_nil]at cS;have sz:=I.sz;obtain⟨hp,g,d,t,os⟩:=s;refine ZL PySem.F.excBase_ValueError T hC hN hi hf mI hl (wpAny_call (codeAny_mono (F.run _ X.stack _ _ ⟨Value.ref (hp.objs.size+1)::us,[]⟩ _ _ _ E0 (hr.make C us []) (I2.env0.make C us []) cS r2 hq) λr s' c9=>?_));cases r with
 |error e=>exact JK aa σ _ _ e s' I2 c9
 |ok fl =>
  cases fl with
  |ret u =>
   obtain⟨v,H',I3,rv,ev,q3⟩:=I2.after c9;subst ev;exact⟨rv,hp.objs.size+1,H',rfl,Nat.le_succ_of_le sz,I3,q3⟩
  |next=>exact False.elim c9
  |brk=>exact False.elim c9
  |cont=>exact False.elim c9
end
noncomputable def out(H:Hp)(a:Addr):Hp:=λb=>if b=a then none else H b
theorem Oj{H:Hp}{a:Addr} : out H a a=none:=by unfold out;rw[ZY rfl]
theorem vo{H:Hp}{a b:Addr}(n:b≠a):out H a b=H b:=by unfold out;rw[ZZ n]
theorem QD{H:Hp}{a b:Addr}{o:HO}(e:out H a b=some o):b≠a/\H b=some o:=by
 by_cases z:b=a
 .subst z;rw[Oj]at e;cases e
 .exact⟨z,by rw[vo z]at e;exact e⟩
section
variable{X:Cx}{aa:Γ}{σ:L2.St}{H:Hp}{s:Shared}{a C:Addr}{B h':Heap}{d:Ω}
theorem Inv.flyMade(I:Inv X aa σ H s)(hx:X.ex=[])(e:H a=some (XN a C d))(sz:X.s₀.heap.objs.size<=a)(hB:B=hideAll (s.heap.hide a) (frs X.stack))(fl:uf B X.outer a (.ref C) d .none h')(up:s.heap.UpToSlots h') :
  Fly X.prog X.w X.outer X.H₀ X.s₀ a (.ref C) (out H a) { s with heap:=h' } B d:=by
 have km:∀b o,b≠a->s.heap.get? b=some o->b∉frs X.stack->B.get? b=some o:=λb o n q m=>by rw[hB];exact hideAll_get _ ((Heap.hide_ne _ n).trans q) m
 have ni:∀b u,H b=some u->b∉frs X.stack:=λb u q z=>by rw[I.stkFree b z]at q;cases q
 have trk:∀b u o,b≠a->H b=some u->s.heap.get? b=some o->B.get? b=some o:=λb u o n q r=>km b o n r (ni b u q);have na:∀b,H b=none->b≠a:=λb q z=>by rw[z,e]at q;cases q
 have nf:∀b∈frs X.stack,∀o,s.heap.get? b=some o->∀vs,o.data≠.fields vs:=λb hb o q=>by
  obtain⟨_,o',e',z⟩:=I.stack.mem hb;rw[q]at e';cases e';exact z
 have hok:HOk X.prog X.w (out H a) h':=λb u q=>by
  obtain⟨n,q⟩:=QD q;refine(I.hok b u q).stay (λc v hc r=>?_) (λc r=>?_) λc xs r=>?_
  .rcases hc with z|z
   .subst z;exact fl.1 c v (trk c u v n q r)
   .exact fl.1 c v (trk c _ v (Gb z e (by intro z;cases z)) z r)
  .rw[vo (Gb r e (by intro z;cases z))];exact r
  .rw[vo (Gb r e (by intro z;cases z))];exact r
 have un:Un (frs X.stack) [a] H (out H a) s.heap h':=by
  refine⟨λb o q n hb _=>fl.1 b o (km b o (na b n) q hb),λb o q n hb _=>up b o q (nf b hb o q),λb o _ n _=>by rw[vo (na b n)];exact n,λb o q hb=>?_,λb xs q=>?_,λb o u q=>?_,λb ps q=>⟨#[],?_⟩⟩
  .by_cases m:b∈frs X.stack
   .obtain⟨sl,r⟩:=up b o q (nf b m o q);exact⟨_,r⟩
   .exact⟨o,fl.1 b o (km b o (by simpa using hb) q m)⟩
  .rw[vo (Gb q e (by intro z;cases z))];exact q
  .rw[vo (Gb q e (by intro z;cases z))];exact q
  .rw[vo (Gb q e (by intro z;cases z)),q];simp
 have J:Inv X aa σ (out H a) { s with heap:=h' }:=I.call' (s':={ s with heap:=h' }) (ch:=[a]) rfl un hok I.bare λb hb=>by
  obtain rfl:b=a:=by simpa using hb
  exact⟨.inr sz,(λz=>by have:=I.free;rw[<- z,e]at this;cases this),(λx c q z=>by have:=I.freeC x c q;rw[z,e]at this;cases this),(λp hp z=>by have:=(I.pin p hp).2.1;rw[z,e]at this;cases this)⟩
 have lta:∀b o,X.s₀.heap.get? b=some o->b≠a:=λb o q z=>X9 a (aR (z ▸ aK q) sz);refine⟨J.os,J.bare,Heap.get?_none_of_le sz,by have:=J.base;rw[hx]at this;exact this,J.hok,λb hb=>?_,fl,λb o q hb hc=>?_⟩
 .obtain⟨_,o,ho,_⟩:=I.ok.funs.mem hb;exact J.base.free b o ho (I.ok.frf b hb) λz=>I.ok.exfs b z hb
 .have aE:∀v,B.get? b=some v->B.get? b=some o:=λv y=>by
   have e2:=fl.1 b v y;rw[show({ s with heap:=h' } : Shared).heap.get? b=h'.get? b from rfl,e2]at q;cases q;exact y
  rcases hc with⟨u,r⟩|⟨u,r⟩
  .obtain⟨⟨v,z⟩,n⟩:=I.old hx r;exact aE v (km b v (lta b u r) z (I.nostk n hb))
  .obtain⟨n,r⟩:=QD r;obtain⟨o',e'⟩:=(I.hok b u r).there;exact aE o' (trk b u o' n r e')
end
def R0(X:Cx)(Ex:Value->Ω->L2.St->Hp->Prop):Prop :=
 ∀aa σ H s a C d,Inv X aa σ H s->H a=some (XN a C d)->X.s₀.heap.objs.size<=a->Ex (.ref C) d σ (out H a)->X.xe (.ref a) s
section
variable{P:Program}{w:World}{K:Frag}{mg:Str->Ψ}{base:Heap}{N:Θ}{af:Str}{scope:Scope}{f:Addr}{cd:Value}{A:Around}{outer:List Env}{s:Shared}{H:Hp}{E:XK}
theorem Wr:R0 (zR (CXO P w) P w K mg base N af scope f cd A outer s H E) (λC d _ H'=>E C d H'):=by
 intro aa σ H1 s1 a C d I e sz q;show wpAny _ _ (leaving _ (.ref a)) _ _ _;have jv:∀env∈(envOfC af scope s.heap.objs.size f cd::outer),∀b,env.frame=some b->b∈frs (envOfC af scope s.heap.objs.size f cd::outer):=λenv he b hb=>List.mem_filterMap.mpr ⟨env,he,hb⟩;obtain⟨t,ha⟩:=Vg (I.hok a _ e);have fr:(s1.heap.hide a).FunFrames base (envOfC af scope s.heap.objs.size f cd::outer):=PySem.W.funFrames_hideAll (as:=[a]) I.stack λenv he b hb z=>by
  obtain rfl:b=a:=by simpa using hb
  have:=I.stkFree b (jv env he b z);rw[e]at this;cases this
 refine W7 (base:=hideAll (s1.heap.hide a) (frs (envOfC af scope s.heap.objs.size f cd::outer))) (h0:=s1.heap.hide a) (outer:=outer) I.ok.frames rfl (λb o q=>of_hideAll _ q) (PySem.W.funFrames_hide fr jv) (λb o q=>Heap.of_hide q) (Heap.hide_self _ _) ha rfl rfl λh' fl up=>?_;exact⟨a,.ref C,d,out H1 a,_,rfl,I.flyMade rfl e sz rfl fl up,q⟩
end
section
variable{prog:Program}{w:World}{A:Around}{E:Β}{s:Shared}{env:Env}{nm qn:Str}{C N:Addr}{bs bm:Δ}{hd:Bool}{sn:Θ}{sub:Δ}{ab:Bool}{col:Option Bool}{dd:Ω}{k0 k1 k2 k3 k5:Ψ}
theorem Vx{x:Sem Value}{Q:Flow->Shared->Prop}(hb:bm.contains (.type "BaseException")=true)(hh:A.handled=none)
 (h:wpAny (model prog w) A x (λv s1=>∃a t d,v=.ref a/\s1.heap.get? C=some (excClassObj nm qn C N bs bm hd sn sub ab col dd k0 k1 k2 k3 k5 "ValueError.__new__")/\s1.heap.get? a=some (Qk C t d)/\E (.ref a) s1) E s):wpAny (model prog w) A (raiseStmt env (some x) none) Q E s:=by
 have hB:(Value.ref C::bm).contains (.type "BaseException")=true:=by rw[List.contains_cons,hb,Bool.or_true]
 unfold raiseStmt;refine ZU (wpAny_mono h (λv s1 z=>?_) λ_ _ z=>z);obtain⟨a,t,d,rfl,hC,ha,hE⟩:=z;obtain⟨hp,gs,dr,tk,os⟩:=s1
 repeat (first|with_reducible refine wpAny_loadPart_at ha ?_|with_reducible refine wpAny_loadPart_at hC ?_|(with_reducible refine wpAny_isSubtype_exc hC ?_;rw[hB])|wp_step)
 exact wpAny_raiseNew_none hh hE
end
section
variable{X:Cx}{x:Str}{np ag pos:Pos}{e₀:Expr}{rest:List Expr}{ta:TA}{C HE fI:Addr}{Ex:Value->Ω->L2.St->Hp->Prop}{k:Nat}{ps:Θ}{sp:Sp}
def aa5(C:Addr)(sp:Sp)(Ex:Value->Ω->L2.St->Hp->Prop)(ta:TA):TS:=λ_ σ H=>ta σ H λvs H1=>vs.length<=sizeLine/\∀a,H1 a=none->sp (.ref a::vs) (upd H1 a (XN a C none)) (λv H2=>v=.non/\∃d,H2 a=some (XN a C d)/\Ex (.ref C) d σ (out H2 a)) E0
theorem WL(hc:X.calm=true)(hg:Gl X x)(hm:X.mg x=some (.ref C))(q:Mu X.K C HE fI)(G:zg X CX0 k fI ps sp)(hr:dF (k+1) X.A)(hx:R0 X Ex)(ha:PA X (e₀::rest) ta)(bu:qk x:=by decide)
 (he:qo X e₀ rest:=by rfl)(aS:qh X ag rest:=by rfl) :
  PS X (.Raise (some (.Call (.Name x np) (e₀::rest) [] ag)) none pos) (aa5 C sp Ex ta):=by
 obtain⟨fd,F,hb⟩:=G;intro aa s σ H D I h;obtain⟨nm,qn,N,bs,sn,sub,ab,col,dd,k0,k1,k2,k3,k5,mN,o,hC,hN,hi,hf,mI,T⟩:=q.obj I.ok.mod.kin;rw[arm_exec_Raise];refine ZU (wpAny_standAt (Vx (C:=C) (nm:=nm) (qn:=qn) (N:=N) (bs:=bs) (bm:=.ref HE::bmV) (hd:=true) (sn:=sn) (sub:=sub) (ab:=ab) (col:=col) (dd:=dd) (k0:=k0) (k1:=k1) (k2:=k2) (k3:=k3) (k5:=k5) (T.hasType (by decide)) (I.ok.hd hc) ?_));refine ZU (thn (Q:=λu s1=>∃a H' d,u=.ref a/\X.s₀.heap.objs.size<=a/\Inv X aa σ H' s1/\H' a=some (XN a C d)/\Ex (.ref C) d σ (out H' a)) ?_ λu s1 ⟨a,H',d,e1,e2,I1,e3,e4⟩=>ZU (wpAny_standAt (ZT ?_)))
 .refine wpAny_Call_Name_kw (qu I hg hm ?_ bu);refine callWith_K (h₀:=X.base) I.ok.mod.kin q.kp (thn (ha ag aa s σ H _ I h) λus s1 ⟨vs,H1,I1,r,hl,q1⟩=>⟨I1.kIn,?_⟩) he aS;exact thn (Ww (Q:=λa H2=>∃d,H2 a=some (XN a C d)/\Ex (.ref C) d σ (out H2 a)) q F hr hb I1 r (by show us.length<=_;rw[<- r.length];exact hl) q1) λu s2 hP=>by obtain⟨a,H2,e1,e2,I2,d,e3,e4⟩:=hP;exact⟨a,H2,d,e1,e2,I2,e3,e4⟩
 .obtain⟨t,ht⟩:=Vg (I1.hok a _ e3);exact⟨a,t,d,e1,I1.bk _ _ hC,ht,hx aa σ H' s1 a C d I1 e3 e2 e4⟩
end
section
variable{prog:Program}{w:World}{A:Around}{E:Β}{h:Heap}{g:Array GenState}{d:Drawn}{t:Nat}{os:OsState}{a C:Addr}{o:Obj}{od:Option Obj}{K:Frag}{f:Str}{u:Value}
theorem RX{tk:Tok}{fl b:Bool}{Q:Β}(X:K.In h)(T:Vv K C)(J:PySem.W.InstAt h a o C od)(hx:h.get? a=some o)(hc:o.cls=.ref C)(hf:PySem.W.findObj K C od f=some (.value u))(hh:handedIn u=true)(hq:Q u ⟨h,g,d,t,os⟩) :
  wpAny (model prog w) A (getAttrBy (.ref a) (.str f tk) fl b) Q E ⟨h,g,d,t,os⟩:=by
 have f3:=F.excAttr_ValueError.ga.bind (.ref a);have n2:(Value.builtin "BaseException.__getattribute__"== Value.builtin "object.__getattribute__")=false:=by decide +kernel
 have n1:(onTheHeap (Value.ref C)&&Value.builtin "BaseException.__getattribute__"== Value.builtin "object.__getattribute__")=false:=by rw[n2];exact Bool.and_false _
 have LT:=Aq (M:=model prog w) hx hc;have LG:=looks_findIn (M:=model prog w) X T.ga;have LN:=looks_findIn (M:=model prog w) X T.gn;have LF:=PySem.W.looks_find (M:=model prog w) X J hf
 repeat (any_goals (first|assumption|with_reducible refine LT.at ?_|with_reducible refine LG.at ?_|with_reducible refine LN.at ?_|(with_reducible refine wpAny_loadPart_at hx ?_;rw[hc])|wp_step))
 rw[ZZ (show ¬(b&&onTheHeap (Value.builtin "BaseException.__getattribute__"))=true from by rw[show onTheHeap (Value.builtin "BaseException.__getattribute__")=false from rfl,Bool.and_false];exact bh)]
 repeat (any_goals (first|assumption|wp_step))
 refine codeAny_call_builtin F.excAttr_ValueError.ga.plain F.entry_bexc_ga (Kf X T hx hc ?_)
 repeat (any_goals (first|assumption|with_reducible refine LT.at ?_|with_reducible refine LF.at ?_|wp_step))
 show wpAny _ _ (handedOut u) _ _ _;rw[PySem.W.handedOut_of hh];exact ZT hq
end
section
variable{X:Cx}{aa:Γ}{σ:L2.St}{H:Hp}{s:Shared}{a d C:Addr}{fs:List (Str×V)}{f:Str}{v:V}{A:Around}{E:Β}
theorem VL{b:Bool}{Q:Β}(I:Inv X aa σ H s)(e:H a=some (XO a C (some d)))(ed:H d=some (.xd fs))(c:Vv X.K C)(hh:hasDictIn X.K C=true)(n:bY X.K C f)(l:fs.lookup f=some v)
 (h:∀u s',Inv X aa σ H s'->RelV v u->Q u s'):wpAny (model X.prog X.w) A (getAttr (.ref a) f b) Q E s:=by
 obtain⟨ox,hx,hc,hd,vs,hv⟩:=(I.hok a _ e).1;obtain⟨mA,hn,r⟩:=I.hok d _ ed;obtain⟨od,ho,hl⟩:=Jx hn;obtain⟨u,hu,ru⟩:=um.some_of (v:=v) (o:=mA f) (by rw[<- l];exact r f);have J:PySem.W.InstAt s.heap a ox C (some od):=⟨hx,hc,by unfold notCls;rw[hv],by rw[hd];exact ho⟩;have I2:=I.tok (s.toks+1);have kI:=I.kIn;obtain⟨hp,g,dr,t,os⟩:=s;unfold getAttr
 repeat (first|exact RX kI c J hx hc (findObj_own hh n rfl (by rw[hl,hu])) (JV ru) (h u _ I2 ru)|wp_step)
def adg(K:Frag)(ta:TE)(f:Str):TE:=λσ H Q=>ta σ H λx H1=>∃a C d fs v,x=.ref a/\H1 a=some (XO a C (some d))/\H1 d=some (.xd fs)/\Vv K C/\hasDictIn K C=true/\bY K C f/\fs.lookup f=some v/\Q v H1
theorem acn{e:Expr}{ta:TE}{pos:Pos}(he:PE X e ta)(hb:qB X e f):PE X (.Attribute e f pos) (adg X.K ta f):=by
 intro aa s σ H Q I h;refine T7 hb (thn (he aa s σ H _ I h) λu s1 hP=>?_);obtain⟨x,H1,I1,rx,a,C,d,fs,v,ex,ea,ed,c,hd,n,l,q⟩:=hP;subst ex;obtain rfl:u=Value.ref a:=rx;exact VL I1 ea ed c hd n l λu' s2 I2 ru=>⟨v,H1,I2,ru,q⟩
end
theorem fsc{N P:Θ}{sc:Scope}(h1:sc.kind=.function:=by rfl)(h2:sc.isCoroutine=false:=by rfl)(h3:sc.isGenerator=false:=by rfl)(h4:N.Nodup/\(∀x∈P,sc.names.lookup x=some .local\/sc.names.lookup x=some .cell)/\∀y∈sc.names,y.2≠.free:=by decide +kernel)(h5:N.take P.length=P:=by rfl):bK N P sc:=⟨h1,h2,h3,h4.1,h5,h4.2.1,h4.2.2⟩
abbrev CK0(sc scope:Scope)(N N' xs:Θ):Prop:=J3 xs N=N'/\(∀y∈scope.names,y.2=.local->scope.names.lookup y.1=some .local)/\(∀y∈scope.names,y.2=.free->sc.names.lookup y.1=some .cell\/sc.names.lookup y.1=some .free) /\
 (∀y∈N,y∉xs->(scope.names.map λ(n,k)=>if(k==NameKind.free&&sc.kind == .function&&sc.names.lookup n==some .cell)then(n,NameKind.cell)else(n,k)).lookup y≠some .local)/\∀y∈N,y∈xs->(scope.names.map λ(n,k)=>if(k==NameKind.free&&sc.kind == .function&&sc.names.lookup n==some .cell)then(n,NameKind.cell)else(n,k)).lookup (hid y)=none
abbrev CK(sc scope:Scope)(N N' xs:Θ):Prop:=(∀y∈scope.names,y.2≠.cell)/\CK0 sc scope N N' xs
section
variable{X:Cx}{bg iter tg:Expr}{pos:Pos}{scope:Scope}{wi:TI}{te:TE}{az:List Expr}{gt:TG}{tc:TT}
theorem ZS(sc:Scope)(N N' xs:Θ)(hi:PI X tg iter wi)(hg:∀{C s₀ H₀ ex pn},PG (X.compG N' scope xs C s₀ H₀ ex pn) tg gt)(ht:∀{C s₀ H₀ ex pn},PTs (X.compG N' scope xs C s₀ H₀ ex pn) az tc)(he:∀{C s₀ H₀ ex pn},PE (X.compG N' scope xs C s₀ H₀ ex pn) bg te)
 (cr:X.env.scope=sc:=by rfl)(cK:X.N=N:=by rfl)(hc:X.calm=true:=by rfl)(hk:scope.kind=.function:=by rfl)(h:CK sc scope N N' xs:=by decide +kernel)(hs:qV X iter:=by intro _;rfl):PE X (.ListComp bg [⟨tg,iter,az,0⟩] scope pos) (qy wi xs.length (tMG gt) (tMT tc) (tM te)) :=
 by
 subst cr cK;exact Q6 (ahj hk h.1) hc h.2.1 hk h.2.2.1 h.2.2.2.1 h.2.2.2.2.1 h.2.2.2.2.2 hi (λ_ _ _ _ _=>hg.mono) (λ_ _ _ _ _=>ht.mono) (λ_ _ _ _ _=>he.mono) hs
theorem ZJ{i0:Nat}{y0:Str}{py b9:Pos}(sc:Scope)(N N' xs:Θ)(hi:PI X tg iter wi)(hg:∀{C s₀ H₀ ex pn},PG (X.compG N' scope xs C s₀ H₀ ex pn) tg gt)(ht:∀{C s₀ H₀ ex pn},PTs (X.compG N' scope xs C s₀ H₀ ex pn) az tc)(he:∀{C s₀ H₀ ex pn},PE (X.compG N' scope xs C s₀ H₀ ex pn) bg te)(fA:PG X (.Name y0 py) (xW i0))
 (cr:X.env.scope=sc:=by rfl)(cK:X.N=N:=by rfl)(hc:X.calm=true:=by rfl)(hk:scope.kind=.function:=by rfl)(h:CK sc scope N N' xs:=by decide +kernel)(fx:swapsWith (.ListComp bg [⟨tg,iter,az,0⟩] scope pos) (some (.Name y0 py)) b9.line X.env=pure true:=by rfl)(hs:qV X iter:=by intro _;rfl) :
  PS X (.Assign [.Name y0 py] (.ListComp bg [⟨tg,iter,az,0⟩] scope pos) b9) (abM (qy wi xs.length (tMG gt) (tMT tc) (tM te)) (xW i0)) :=
 by
 subst cr cK;exact aaB (ahj hk h.1) hc h.2.1 hk h.2.2.1 h.2.2.2.1 h.2.2.2.2.1 h.2.2.2.2.2 hi (λ_ _ _ _ _=>hg.mono) (λ_ _ _ _ _=>ht.mono) (λ_ _ _ _ _=>he.mono) fA fx hs
theorem Zc(sc:Scope)(N N':Θ)(x0:Str)(hi:PI X tg iter wi)(hg:∀{C s₀ H₀ ex pn},PG (X.compGC N' scope x0 C s₀ H₀ ex pn) tg gt)(ht:∀{C s₀ H₀ ex pn},PTs (X.compGC N' scope x0 C s₀ H₀ ex pn) az tc)(he:∀{C s₀ H₀ ex pn},PE (X.compGC N' scope x0 C s₀ H₀ ex pn) bg te)
 (cr:X.env.scope=sc:=by rfl)(cK:X.N=N:=by rfl)(hc:X.calm=true:=by rfl)(hk:scope.kind=.function:=by rfl)(fN:∀n acc,cellsFrom n scope.names acc=(x0,n)::acc:=by intro _ _;rfl)(fy:∀h,pushCells h scope.names=h.push { cls:=.type "cell",data:=.cell none }:=by intro _;rfl)(h:(∀y∈scope.names,y.2=.cell->y.1=x0)/\CK0 sc scope N N' [x0]:=by decide +kernel)(hs:qV X iter:=by intro _;rfl):PE X (.ListComp bg [⟨tg,iter,az,0⟩] scope pos) (qy wi 1 (tMG gt) (tMT tc) (tM te)):=by
 subst cr cK;exact Q6 (ext1 fN fy h.1) hc h.2.1 hk h.2.2.1 h.2.2.2.1 h.2.2.2.2.1 h.2.2.2.2.2 hi (λ_ _ _ _ _=>hg.mono) (λ_ _ _ _ _=>ht.mono) (λ_ _ _ _ _=>he.mono) hs
theorem ad1{N0:Θ}{x0:Str}{sO:Scope}{C0:Addr}{s0:Shared}{H0:Hp}{eB:Φ}{dC:Γ}(sc:Scope)(N N' xs:Θ)(hi:PI (X.compGC N0 sO x0 C0 s0 H0 eB dC) tg iter wi)(hg:∀{C s₀ H₀ ex pn},PG ((X.compGC N0 sO x0 C0 s0 H0 eB dC).compG N' scope xs C s₀ H₀ ex pn) tg gt)(ht:∀{C s₀ H₀ ex pn},PTs ((X.compGC N0 sO x0 C0 s0 H0 eB dC).compG N' scope xs C s₀ H₀ ex pn) az tc)(he:∀{C s₀ H₀ ex pn},PE ((X.compGC N0 sO x0 C0 s0 H0 eB dC).compG N' scope xs C s₀ H₀ ex pn) bg te)
 (cr:X.env.scope=sc:=by rfl)(cK : [x0]++N0=N:=by rfl)(hc:X.calm=true:=by rfl)(hk:scope.kind=.function:=by rfl)(h:CK (rlb sc sO) scope N N' xs:=by decide +kernel)(hs:∀z,foldedSetIterable iter (X.compGC N0 sO x0 C0 s0 H0 eB dC).env z=pure z:=by intro _;rfl):PE (X.compGC N0 sO x0 C0 s0 H0 eB dC) (.ListComp bg [⟨tg,iter,az,0⟩] scope pos) (qy wi xs.length (tMG gt) (tMT tc) (tM te)):=by
 subst cr cK;exact ZS (X:=X.compGC N0 sO x0 C0 s0 H0 eB dC) (rlb X.env.scope sO) _ N' xs hi hg ht he rfl rfl hc hk h hs
end
theorem ai6{K:Frag}{a:Addr}{i j:Int}{d:Ω}{n:Nat}{sl:Array (Ψ)}{t u:Tok}(l:K.lookup a=some ⟨.type "tuple",d,.seq #[.int i t,.int j u] n,sl⟩):∀H,SqT K H a [.int i,.int j]:=λH=>.inr ⟨_,_,_,l,rfl,rfl,(by show 2<=sizeLine;decide),.cons ⟨_,rfl⟩ (.cons ⟨_,rfl⟩ .nil)⟩
theorem alT{K:Frag}{h:Heap}{mg:Str->Ψ}{x:Str}{i:Int}{t:Tok}(X:K.In h)(G:h.Ns mainGlobals mg)(l:nsIn K mainGlobals x=some (some (.int i t))):∃u,mg x=some u/\RelV (.int i) u:=⟨_,mg_of X G l,_,rfl⟩
def Lst:Nat->(Δ->Prop)->Prop
 |0,P=>P []
 |n+1,P=>∀a,Lst n λl=>P (a::l)
theorem NZ:∀(n:Nat){P:Δ->Prop},Lst n P->∀us:Δ,us.length=n->P us
 |0,_,h,[],_=>h
 |n+1,_,h,a::l,e=>NZ n (h a) l (Nat.succ.inj e)
section
variable{K:Frag}{h:Heap}{mg:Str->Ψ}{x m af:Str}{v:Value}{C f:Addr}{st:Stmt}{ps:Θ}{oc:Value}{od an:Ω}{dq:Array (Ψ)}{kV bP pm ah ct:Value}{i j:Int}{d:Ω}{n:Nat}{sl:Array (Ψ)}{t u:Tok}
theorem q_c(X:K.In h:=by assumption)(G:h.Ns mainGlobals mg:=by assumption)(e:nsIn K mainGlobals x=some (some v):=by k_is):mg x=some v:=mg_of X G e
theorem q_z(X:K.In h:=by assumption)(G:h.Ns mainGlobals mg:=by assumption)(e:nsIn K mainGlobals x=some none:=by k_is):mg x=none:=PySem.W.mg_none_of X G e
theorem q_n(e:findIn K (.ref C) x=some none:=by k_is):bY K C x:=e
theorem q_m(a:findIn K (.ref C) m=some (some (.ref f)):=by k_is)(b:isFn K (.ref f)=true:=by k_is)(c:keepIn K (.ref f)=true:=by k_is):Meth K C m f:=⟨a,b,c⟩
theorem q_M(a:makesIn K C=true:=by k_is)(b:findIn K (.ref C) "__init__"=some (some (.ref f)):=by k_is)(c:isFn K (.ref f)=true:=by k_is)(e:keepIn K (.ref C)=true:=by k_is):Mk K C f:=⟨a,b,c,e⟩
theorem q_4(a:plainGet K C Str.empty=true:=by k_is)(b:hasDictIn K C=true:=by k_is)(c:plainOver K C=true:=by k_is)(e:findIn K (.ref C) "__setattr__"=some (some (.builtin "object.__setattr__")):=by k_is):Cls K C:=⟨a,b,c,e⟩
theorem q_B(a:specialIn K (.ref C) "__getattribute__"=some (some (.builtin "type.__getattribute__")):=by k_is)(b:readsIn K C (.type "type")=true:=by k_is)(c:findCls K (.ref C) (.type "type") m=some (.val (.ref f)):=by k_is)(e:keepIn K (.ref f)=true:=by k_is):Dd K C m f:=⟨a,b,c,rfl,e⟩
theorem q_g(X:K.In h:=by assumption)(G:h.Ns mainGlobals mg:=by assumption)(l:nsIn K mainGlobals x=some (some (.int i t)):=by k_is):∃u,mg x=some u/\RelV (.int i) u:=alT X G l
theorem q_t(l:K.lookup C=some ⟨.type "tuple",d,.seq #[.int i t,.int j u] n,sl⟩:=by k_is):∀H,SqT K H C [.int i,.int j]:=ai6 l
theorem q_f(N:Nat)(hb:∀(kV bP pm:Value)(an:Ω)(ah ct:Value),Lst N λus=>bindArgs (PySem.W.fnOf x x (iC st) (dH st) (bF st) .none kV bP pm an ah ct) ⟨us,[]⟩=pure (ps.zip us))(hN:ps.length=N:=by rfl)(X:K.In h:=by assumption)(G:h.Ns mainGlobals mg:=by assumption)
 (a:nsIn K mainGlobals x=some (some (.ref f)):=by k_is)(l:K.lookup f=some ⟨oc,od,.func (PySem.W.fnOf x x (iC st) (dH st) (bF st) .none kV bP pm an ah ct),dq⟩:=by k_is)
 (c:codeIn K ah x=true:=by k_is)(k:keepIn K (.ref f)=true:=by k_is):cL K mg x st ps:=abL X G a l c k λkV bP pm an ah ct us e=>NZ N (hb kV bP pm an ah ct) us (e.trans hN)
theorem q_h(N:Nat)(hb:∀(kV bP pm:Value)(an:Ω)(ah ct:Value),Lst N λus=>bindArgs (PySem.W.fnOf x af (iC st) (dH st) (bF st) .none kV bP pm an ah ct) ⟨us,[]⟩=pure (ps.zip us))(hN:ps.length=N:=by rfl)
 (l:K.lookup f=some ⟨oc,od,.func (PySem.W.fnOf x af (iC st) (dH st) (bF st) .none kV bP pm an ah ct),dq⟩:=by k_is)(c:codeIn K ah af=true:=by k_is)(k:keepIn K (.ref f)=true:=by k_is):xu K x af st ps f:=aa9 l c k λkV bP pm an ah ct us e=>NZ N (hb kV bP pm an ah ct) us (e.trans hN)
end
section
variable{K:Frag}{C HE fI:Addr}{nm qn:Str}{N:Addr}{bs sub:Δ}{sn:Θ}{ab:Bool}{col:Option Bool}{dd:Ω}{k0 k1 k2 k3 k5:Ψ}{o:Obj}{cd:ClassData}
theorem q_E(he:excIn K HE bmV "ValueError.__new__"=true:=by k_exc)(l:K.lookup C=some (excClassObj nm qn C N bs (.ref HE::bmV) true sn sub ab col dd k0 k1 k2 k3 k5 "ValueError.__new__"):=by k_is)(n1:nsOkIn K N=true:=by kernel_rfl)(n2:nsIn K N "__init__"=some (some (.ref fI)):=by k_is)
 (lf:K.lookup fI=some o:=by k_is)(hf:o.cls=.type "function":=by rfl)(kp:keepIn K (.ref C)=true:=by k_is):Mu K C HE fI:=⟨⟨nm,qn,N,bs,sn,sub,ab,col,dd,k0,k1,k2,k3,k5,l,n1,n2⟩,he,⟨o,lf,hf⟩,kp⟩
theorem q_S(a:clsIn K C=some cd:=by k_is)(b:cd.hasDict=true:=by rfl)(c:KJ cd.mro=true:=by rfl)(e:findIn K (.ref C) "__setattr__"=some (some (.builtin "object.__setattr__")):=by k_is)(m:mroIn K C (.type "object")=some true:=by k_is):YM K C:=⟨⟨cd,a,b,c⟩,e,m⟩
theorem q_b(a:specialIn K (.ref C) "__getattribute__"=some (some (.builtin "type.__getattribute__")):=by k_is)(b:readsIn K C (.type "type")=true:=by k_is)(c:findCls K (.ref C) (.type "type") "__init__"=some (.val (.builtin "ValueError.__init__")):=by k_is):YX K C:=⟨a,b,c⟩
theorem q_5(a:findIn K (.ref C) "__getattribute__"=some (some (.builtin "BaseException.__getattribute__")):=by k_is)(b:findIn K (.ref C) "__getattr__"=some none:=by k_is)(c:findIn K (.ref C) "__class__"=some (some (.builtin "object.__class__")):=by k_is)(e:mroIn K C (.type "object")=some true:=by k_is)(m:mroIn K C (.type "BaseException")=some true:=by k_is):Vv K C:=⟨a,b,c,e,m⟩
end
section
variable{X:Cx}{k:Nat}{f C:Addr}{ps:Θ}{sp:Sp}{m:Str}{pos ai:Pos}{e o:Expr}{es:List Expr}{ta:TE}{t:TA}{Ex:Value->Ω->L2.St->Hp->Prop}
theorem Y0{K':Frag}{f:Str}(hK:X.K=K')(he:PE X e ta)(hb:qB X e f):PE X (.Attribute e f pos) (adg K' ta f):=by
 subst hK;exact acn he hb
end
section
variable{X:Cx}{es:List Expr}{t:TA}{pos:Pos}
def akC(t:TA):TE:=λσ H Q=>t σ H λxs H1=>xs.length<=sizeLine/\∀p H',Same H1 H'->H1 p=none->H' p=some (.tup xs)->Q (.ref p) H'
theorem Np{k:Nat}(h:PA X es t):PE X (.Tuple es k pos) (akC t):=(YQ h.mono).imp λσ H Q h=>⟨_,h,λxs H1 z=>⟨z.1,λp hp=>z.2 p _ (Same.upd hp) hp bW⟩⟩
def ahz:R2:=λx y H Q=>∃l b xs zs,x=.ref l/\y=.ref b/\H l=some (.lst xs)/\H b=some (.lst zs)/\xs.length+zs.length<=sizeLine/\∀p H',Same H H'->H p=none->H' p=some (.lst (xs++zs))->Q (.ref p) H'
theorem aa6:OpR X (binaryOp .Add) ahz:=adY.imp λx y H Q hP=>by obtain⟨l,b,xs,zs,e1,e2,h1,h2,z,q⟩:=hP;exact⟨l,b,xs,zs,e1,e2,h1,h2,z,λp hp=>q p _ (Same.upd hp) hp bW⟩
def aiv:Ε->Hp->VK->Prop:=λxs H Q=>∃p ys,xs=[.ref p]/\H p=some (.lst ys)/\∀l H',Same H H'->H l=none->H' l=some (.tup ys)->Q (.ref l) H'
theorem Vu:h_ X (.type "tuple") aiv:=I9.imp λxs H Q hP=>by obtain⟨p,ys,a,b,c⟩:=hP;exact⟨p,ys,a,.inl ⟨.of b,λl hl=>c l _ (Same.upd hl) hl bW⟩⟩
def amD(to:TE):TE:=λσ H Q=>to σ H λx H1=>∃l xs,x=.ref l/\H1 l=some (.lst xs)/\Q .non (upd H1 l (.lst xs.reverse))
theorem adP{o:Expr}{to:TE}{ai ag:Pos}(ho:PE X o to)(hb:attributeBase o "reverse" X.env (eval o X.env)=eval o X.env:=by rfl)(hl:zw ai ag:=by rfl) :
  PE X (.Call (.Attribute o "reverse" ai) [] [] ag) (amD to):=by
 refine(adJ PySem.F.plainAttrs_list PySem.F.slot_list_reverse PySem.F.type_list_reverse Sd ho.mono hb hl).imp λσ H Q h=>?_;refine⟨_,h,?_⟩;rintro x H1 ⟨l,xs,rfl,hx,q⟩;exact⟨.inl ⟨rfl,_,SqL.of hx⟩,l,xs,rfl,rfl,hx,q⟩
end
section
variable{X:Cx}{k:Nat}{f C B:Addr}{ps:Θ}{sp:Sp}{x m:Str}{p pos ai:Pos}{e:Expr}{es:List Expr}{t:TA}
def ad9(C:Addr)(sp:Sp)(t:TA):TE:=λσ H Q=>t σ H λvs H1=>∀x dx,H1 x=none->H1 dx=none->dx≠x->sp (.ref x::vs) (upd (upd H1 dx (.own x)) x (.ins C dx [])) (λv H2=>v=.non/\Q (.ref x) H2) E0
theorem Zt(M:Mk X.K C f)(G:zg X CX0 k f ps sp)(hr:dF (k+1) X.A)(hg:Gl X x)(hm:X.mg x=some (.ref C))(ha:PA X (e::es) t)(bu:qk x:=by decide)
 (he:qo X e es:=by rfl)(aS:qh X pos es:=by rfl):PE X (.Call (.Name x p) (e::es) [] pos) (ad9 C sp t):=by
 obtain⟨fd,F,hb⟩:=G;refine(abq M F hr hg hm hb .nil JK ha.mono bu he aS).imp λσ H Q h=>⟨_,h,λvs H1 q x dx h1 h2 h3=>?_⟩;rw[List.append_nil];exact q x dx h1 h2 h3
theorem aaz{pl:Sem Bool}(c:Dd X.K B m f)(G:zg X CX0 k f ps sp)(hr:dF k X.A)(hg:Gl X x)(hm:X.mg x=some (.ref B))(ha:PA X (e::es) t)(bu:qk x:=by decide)
 (bE:qo X e es:=by rfl)(aS:qh X pos es:=by rfl)
 (ht:eval (.Call (.Attribute (.Name x p) m ai) (e::es) [] pos) X.env=(do
   let ov <- eval (.Name x p) X.env
   standAt ai.atName
   let(f,first) <- holding [ov] (getMethod ov m pl)
   callWith pos f first (backTo pos (starEach (e::es) X.env)) (backToKw pos (keywordEach [] X.env))):=by rfl) :
  PE X (.Call (.Attribute (.Name x p) m ai) (e::es) [] pos) (RD sp t):=by
 obtain⟨fd,F,hb⟩:=G;exact ab0 (pl:=pl) c F hr hg hm hb ha bu bE aS ht
end
inductive T where
 |any|non|bl (b:Bool)|int (i:Int)|str (s:Str)|val (v:V)
 |tup (ts:List T)|lst (ts:List T)|scr (ts:List T)
 |dct (ks:List Key) (ts:List T)|ins (C:Addr) (ks:Θ) (ts:List T)
mutual
inductive Rep(K:Frag)(F:Hp):V->T->Prop
 |any (v:V):Rep K F v .any
 |non:Rep K F .non .non
 |bl (b:Bool):Rep K F (.bl b) (.bl b)
 |int (i:Int):Rep K F (.int i) (.int i)
 |str (s:Str):Rep K F (.str s) (.str s)
 |val (v:V):Rep K F v (.val v)
 |tup {a:Addr}{xs:Ε}{ts:List T} : SqT K F a xs->bU K F xs ts->Rep K F (.ref a) (.tup ts)
 |lst {a:Addr}{xs:Ε}{ts:List T} : F a=some (.lst xs)->bU K F xs ts->Rep K F (.ref a) (.lst ts)
 |scr {a:Addr}{xs:Ε}{ts:List T} : SqL K F a xs->bU K F xs ts->Rep K F (.ref a) (.scr ts)
 |dct {a:Addr}{ks:List Key}{xs:Ε}{ts:List T} : Rd F a (.dK (ks.zip xs))->ks.length=xs.length->bU K F xs ts->Rep K F (.ref a) (.dct ks ts)
 |ins {a C dx:Addr}{ks:Θ}{xs:Ε}{ts:List T} : F a=some (.ins C dx (ks.zip xs))->F dx=some (.own a)->ks.length=xs.length->bU K F xs ts->Rep K F (.ref a) (.ins C ks ts)
inductive bU(K:Frag)(F:Hp):Ε->List T->Prop
 |nil:bU K F [] []
 |cons {x:V}{xs:Ε}{t:T}{ts:List T} : Rep K F x t->bU K F xs ts->bU K F (x::xs) (t::ts)
end
section
variable{K:Frag}{F F' H H':Hp}
theorem Same.rd{a:Addr}{u:HO}(S:Same F F')(h:Rd F a u):Rd F' a u:=h.imp (S _ _) λhP=>by obtain⟨o,e⟩:=hP;exact⟨o,S _ _ e⟩
mutual
theorem Rep.same(S:Same F F'):∀{x:V}{t:T},Rep K F x t->Rep K F' x t
 |_,_,.any v=>.any v
 |_,_,.non=>.non
 |_,_,.bl b=>.bl b
 |_,_,.int i=>.int i
 |_,_,.str s=>.str s
 |_,_,.val v=>.val v
 |_,_,.tup e h=>.tup (S.tup e) (bU.same S h)
 |_,_,.lst e h=>.lst (S _ _ e) (bU.same S h)
 |_,_,.scr e h=>.scr (S.seq e) (bU.same S h)
 |_,_,.dct e l h=>.dct (S.rd e) l (bU.same S h)
 |_,_,.ins e d l h=>.ins (S _ _ e) (S _ _ d) l (bU.same S h)
theorem bU.same(S:Same F F'):∀{xs:Ε}{ts:List T},bU K F xs ts->bU K F' xs ts
 |_,_,.nil=>.nil
 |_,_,.cons h t=>.cons (Rep.same S h) (bU.same S t)
end
theorem Rep.lstI{x:V}{ts:List T}(h:Rep K F x (.lst ts)):∃a xs,x=.ref a/\F a=some (.lst xs)/\bU K F xs ts:=by cases h;exact⟨_,_,rfl,by assumption,by assumption⟩
theorem Rep.tupI{x:V}{ts:List T}(h:Rep K F x (.tup ts)):∃a xs,x=.ref a/\SqT K F a xs/\bU K F xs ts:=by cases h;exact⟨_,_,rfl,by assumption,by assumption⟩
theorem Rep.scrI{x:V}{ts:List T}(h:Rep K F x (.scr ts)):∃a xs,x=.ref a/\SqL K F a xs/\bU K F xs ts:=by cases h;exact⟨_,_,rfl,by assumption,by assumption⟩
theorem Rep.dctI{x:V}{ks:List Key}{ts:List T}(h:Rep K F x (.dct ks ts)):∃a xs,x=.ref a/\Rd F a (.dK (ks.zip xs))/\ks.length=xs.length/\bU K F xs ts:=by cases h;exact⟨_,_,rfl,by assumption,by assumption,by assumption⟩
theorem Rep.insI{x:V}{C:Addr}{ks:Θ}{ts:List T}(h:Rep K F x (.ins C ks ts)):∃a dx xs,x=.ref a/\F a=some (.ins C dx (ks.zip xs))/\F dx=some (.own a)/\ks.length=xs.length/\bU K F xs ts:=by cases h;exact⟨_,_,_,rfl,by assumption,by assumption,by assumption,by assumption⟩
theorem bU.len:∀{xs:Ε}{ts:List T},bU K F xs ts->xs.length=ts.length
 |_,_,.nil=>rfl
 |_,_,.cons _ t=>ZH (· + 1) (bU.len t)
theorem bU.app:∀{xs ys:Ε}{ts us:List T},bU K F xs ts->bU K F ys us->bU K F (xs++ys) (ts++us)
 |_,_,_,_,.nil,h=>h
 |_,_,_,_,.cons a b,h=>.cons a (bU.app b h)
theorem bU.at_:∀{xs:Ε}{ts:List T}{i:Nat}{t:T},bU K F xs ts->ts[i]?=some t->∃x,xs[i]?=some x/\Rep K F x t
 |_,_,_,_,.nil,e=>by cases e
 |_,_,0,_,.cons a _,e=>by cases e;exact⟨_,rfl,a⟩
 |_,_,i+1,_,.cons _ b,e=>by
  obtain⟨x,q,r⟩:=bU.at_ (i:=i) b (by simpa using e);exact⟨x,by simpa using q,r⟩
theorem bU.of_at:∀{xs:Ε}{ts:List T},xs.length=ts.length->(∀(i:Nat)x t,xs[i]?=some x->ts[i]?=some t->Rep K F x t)->bU K F xs ts
 |[],[],_,_=>.nil
 |x::xs,t::ts,l,h=>.cons (h 0 x t rfl rfl) (bU.of_at (Nat.succ.inj l) λi y u e1 e2=>h (i+1) y u e1 e2)
 |[],_::_,l,_=>by cases l
 |_::_,[],l,_=>by cases l
theorem bU.set{x:V}{t:T}(r:Rep K F x t):∀{xs:Ε}{ts:List T}(i:Nat),bU K F xs ts->bU K F (xs.set i x) (ts.set i t)
 |_,_,_,.nil=>.nil
 |_,_,0,.cons _ h=>.cons r h
 |_,_,i+1,.cons a h=>.cons a (bU.set r i h)
theorem bU.take:∀{xs:Ε}{ts:List T}(n:Nat),bU K F xs ts->bU K F (xs.take n) (ts.take n)
 |_,_,0,_=>.nil
 |_,_,_+1,.nil=>.nil
 |_,_,n+1,.cons a h=>.cons a (bU.take n h)
theorem bU.drop:∀{xs:Ε}{ts:List T}(n:Nat),bU K F xs ts->bU K F (xs.drop n) (ts.drop n)
 |_,_,0,h=>h
 |_,_,_+1,.nil=>.nil
 |_,_,n+1,.cons _ h=>bU.drop n h
noncomputable def hd(S:Addr->Prop)(H:Hp):Hp:=λb=>open Classical in if S b then none else H b
theorem m_{S:Addr->Prop}{b:Addr}(h:S b):hd S H b=none:=by unfold hd;rw[ZY h]
theorem cI{S:Addr->Prop}{b:Addr}(h:¬S b):hd S H b=H b:=by unfold hd;rw[ZZ h]
theorem cH{S:Addr->Prop}{b:Addr}{o:HO}(e:hd S H b=some o):¬S b/\H b=some o:=by
 by_cases h:S b
 .rw[m_ h]at e;cases e
 .rw[cI h]at e;exact⟨h,e⟩
theorem fL{S S':Addr->Prop}(i:∀b,S' b->S b\/H b=none)(e:Same H H'):Same (hd S H) (hd S' H'):=λb o h=>by
 obtain⟨n,h⟩:=cH h;rw[cI λz=>?_]
 .exact e _ _ h
 .rcases i b z with y|y
  .exact n y
  .rw[h]at y;cases y
theorem cM{S:Addr->Prop} : Same (hd S H) H:=λ_ _ h=>(cH h).2
theorem bN{S:Addr->Prop}(e:Same H H'):Same (hd S H) (hd S H'):=fL (λ_=>.inl) e
theorem Ez:hd (λ_=>False) H=H:=funext λ_=>cI id
inductive OT where
 |und|fz (t:T)|l1 (ts:List T)|l2 (tss:List (List T))|d1 (ks:List Key) (ts:List T)|ob (a dx C:Addr) (ks:Θ) (ts:List T)|la (a:Addr) (ts:List T)
noncomputable def frz:OT->T
 |.und=>.any
 |.fz t=>t
 |.l1 ts=>.lst ts
 |.l2 tss=>.lst (tss.map T.lst)
 |.d1 ks ts=>.dct ks ts
 |.ob _ _ C ks ts=>.ins C ks ts
 |.la _ ts=>.lst ts
def Slo(K:Frag)(F H:Hp)(v:Option V)(A:Φ):OT->Prop
 |.und=>A=[]
 |.fz t=>A=[]/\∃u,v=some u/\Rep K F u t
 |.l1 ts=>∃a xs,v=some (.ref a)/\A=[a]/\H a=some (.lst xs)/\bU K F xs ts
 |.l2 tss=>∃a bs,v=some (.ref a)/\A=a::bs/\(a::bs).Nodup/\H a=some (.lst (bs.map V.ref))/\bs.length=tss.length/\∀(i:Nat)b ts,bs[i]?=some b->tss[i]?=some ts->∃xs,H b=some (.lst xs)/\bU K F xs ts
 |.d1 ks ts=>∃a xs,v=some (.ref a)/\A=[a]/\H a=some (.dK (ks.zip xs))/\ks.length=xs.length/\bU K F xs ts
 |.ob a dx C ks ts=>∃xs,v=some (.ref a)/\A=[a,dx]/\H a=some (.ins C dx (ks.zip xs))/\H dx=some (.own a)/\ks.length=xs.length/\bU K F xs ts
 |.la a ts=>∃xs,v=some (.ref a)/\A=[a]/\H a=some (.lst xs)/\bU K F xs ts
theorem Slo.same{v:Option V}{A:Φ}(S:Same F F')(E:Same H H'):∀{x:OT},Slo K F H v A x->Slo K F' H' v A x
 |.und,h=>h
 |.fz _,⟨a,u,e,r⟩=>⟨a,u,e,r.same S⟩
 |.l1 _,⟨a,xs,e,z,h,r⟩=>⟨a,xs,e,z,E _ _ h,r.same S⟩
 |.l2 _,⟨a,bs,e,z,n,h,l,r⟩=>⟨a,bs,e,z,n,E _ _ h,l,λi b ts e1 e2=>let⟨xs,q,r⟩:=r i b ts e1 e2;⟨xs,E _ _ q,r.same S⟩⟩
 |.d1 _ _,⟨a,xs,e,z,h,l,r⟩=>⟨a,xs,e,z,E _ _ h,l,r.same S⟩
 |.ob _ _ _ _ _,⟨xs,e,z,h,d,l,r⟩=>⟨xs,e,z,E _ _ h,E _ _ d,l,r.same S⟩
 |.la _ _,⟨xs,e,z,h,r⟩=>⟨xs,e,z,E _ _ h,r.same S⟩
theorem Slo.off{v:Option V}{A:Φ} : ∀{x:OT},Slo K F H v A x->(∀b∈A,∀u,H b=some u->H' b=some u)->Slo K F H' v A x
 |.und,s,_=>s
 |.fz _,s,_=>s
 |.l1 _,⟨a,xs,e,z,w,r⟩,off=>⟨a,xs,e,z,off a (by rw[z];simp) _ w,r⟩
 |.l2 _,⟨a,bs,e,z,nd,w,l,r⟩,off=>⟨a,bs,e,z,nd,off a (by rw[z];simp) _ w,l,λi b ts e1 e2=>let⟨xs,q,r⟩:=r i b ts e1 e2;⟨xs,off b (by rw[z];exact aJ _ (aC e1)) _ q,r⟩⟩
 |.d1 _ _,⟨a,xs,e,z,w,r⟩,off=>⟨a,xs,e,z,off a (by rw[z];simp) _ w,r⟩
 |.ob a dx _ _ _,⟨xs,e,z,w,d,r⟩,off=>⟨xs,e,z,off a (by rw[z];simp) _ w,off dx (by rw[z];simp) _ d,r⟩
 |.la a _,⟨xs,e,z,w,r⟩,off=>⟨xs,e,z,off a (by rw[z];simp) _ w,r⟩
def aap(H:Hp)(a:Addr):Prop:=∃o,H a=some o/\((∃xs,o=.lst xs)\/(∃k,o=.dK k)\/(∃C d f,o=.ins C d f)\/∃x,o=.own x)
theorem Slo.sole{v:Option V}{A:Φ}{x:OT}(h:Slo K F H v A x){a:Addr}(ha:a∈A):aap H a:=by
 cases x with
 |und=>rw[show A=[]from h]at ha;cases ha
 |fz t=>rw[h.1]at ha;cases ha
 |l1 ts=>obtain⟨b,xs,_,rfl,e,_⟩:=h;cases YR.mp ha;exact⟨_,e,.inl ⟨_,rfl⟩⟩
 |l2 tss =>
  obtain⟨b,bs,_,rfl,_,e,l,r⟩:=h;rcases YU.mp ha with z|z
  .exact⟨_,z ▸ e,.inl ⟨_,rfl⟩⟩
  .obtain⟨i,hi⟩:=aV z;have li:i<tss.length:=l ▸ (ao.mp hi).1;obtain⟨xs,q,_⟩:=r i a _ hi (aj li);exact⟨_,q,.inl ⟨_,rfl⟩⟩
 |d1 ks ts=>obtain⟨b,xs,_,rfl,e,_⟩:=h;cases YR.mp ha;exact⟨_,e,.inr (.inl ⟨_,rfl⟩)⟩
 |ob b dx C ks ts =>
  obtain⟨xs,_,rfl,e,d,_⟩:=h;rcases YU.mp ha with z|z
  .exact⟨_,z ▸ e,.inr (.inr (.inl ⟨_,_,_,rfl⟩))⟩
  .cases YR.mp z;exact⟨_,d,.inr (.inr (.inr ⟨_,rfl⟩))⟩
 |la b ts=>obtain⟨xs,_,rfl,e,_⟩:=h;cases YR.mp ha;exact⟨_,e,.inl ⟨_,rfl⟩⟩
theorem Slo.frz{u:V}{A:Φ}{x:OT}(h:Slo K F H (some u) A x)(S:Same F F')(E:∀a∈A,F' a=H a):Rep K F' u (frz x):=by
 cases x with
 |und=>exact .any _
 |fz t=>obtain⟨_,w,e,r⟩:=h;cases e;exact r.same S
 |l1 ts=>obtain⟨b,xs,e,rfl,q,r⟩:=h;cases e;exact .lst ((E _ (by simp)).trans q) (r.same S)
 |l2 tss =>
  obtain⟨b,bs,e,rfl,_,q,l,r⟩:=h;cases e;refine .lst ((E _ (by simp)).trans q) (bU.of_at (by simp[l]) λi x t e1 e2=>?_);rw[aq]at e1 e2;cases e3:bs[i]? with
  |none=>rw[e3]at e1;cases e1
  |some c =>
   cases e4:tss[i]? with
   |none=>rw[e4]at e2;cases e2
   |some ts =>
    rw[e3]at e1;rw[e4]at e2;cases e1;cases e2;obtain⟨xs,q,r⟩:=r i c ts e3 e4;exact .lst ((E _ (aJ _ (aC e3))).trans q) (r.same S)
 |d1 ks ts=>obtain⟨b,xs,e,rfl,q,l,r⟩:=h;cases e;exact .dct (.inl ((E _ (by simp)).trans q)) l (r.same S)
 |ob b dx C ks ts=>obtain⟨xs,e,rfl,q,d,l,r⟩:=h;cases e;exact .ins ((E _ (by simp)).trans q) ((E _ (by simp)).trans d) l (r.same S)
 |la b ts=>obtain⟨xs,e,rfl,q,r⟩:=h;cases e;exact .lst ((E _ (by simp)).trans q) (r.same S)
abbrev zk:Type:=Nat->Φ
def Ow(own:zk)(b:Addr):Prop:=∃i,b∈own i
structure SR(K:Frag)(own:zk)(H:Hp)(σ:L2.St)(o:List OT):Prop where
 len:o.length=σ.length
 sl:∀i x,o[i]?=some x->Slo K (hd (Ow own) H) H (σ[i]?.join) (own i) x
 out:∀i,o.length<=i->∀a∈own i,∃xs,H a=some (.lst xs)
 dis:∀i j a,a∈own i->a∈own j->i=j
variable{own:zk}{σ:L2.St}{o:List OT}
theorem SR.same(h:SR K own H σ o)(E:Same H H'):SR K own H' σ o:=⟨h.len,λi x e=>(h.sl i x e).same (bN E) E,λi hi a ha=>let⟨xs,e⟩:=h.out i hi a ha;⟨xs,E _ _ e⟩,h.dis⟩
theorem SR.sole(h:SR K own H σ o){b:Addr}(z:Ow own b):aap H b:=by
 obtain⟨i,z⟩:=z;by_cases hi:i<o.length
 .exact(h.sl i _ (aj hi)).sole z
 .obtain⟨xs,e⟩:=h.out i (Nat.not_lt.mp hi) b z;exact⟨_,e,.inl ⟨_,rfl⟩⟩
theorem aap.ne{a:Addr}(h:aap H a):H a≠none:=by
 obtain⟨o,e,_⟩:=h;rw[e];exact λz=>by cases z
def NR(K:Frag)(S:Addr->Prop)(H H':Hp)(v:V)(x:OT):Prop:=∃B,(∀a∈B,H a=none)/\Slo K (hd (λb=>S b\/b∈B) H') H' (some v) B x
theorem NR.rep{S:Addr->Prop}{v:V}{x:OT}(h:NR K S H H' v x)(hs:∀b,S b->H b≠none):Rep K (hd S H') v (L2.frz x):=by
 obtain⟨B,n,r⟩:=h;exact r.frz (fL (λb z=>.inl (.inl z)) (λ_ _ z=>z)) λa ha=>cI λz=>hs a z (n a ha)
theorem NR.fz{S:Addr->Prop}{v:V}{t:T}(h:Rep K (hd S H') v t):NR K S H H' v (.fz t):=⟨[],λ_ z=>(nomatch z),rfl,v,rfl,h.same (fL (λb z=>.inl (z.elim id λy=>(nomatch y))) λ_ _ z=>z)⟩
theorem NR.l1{S:Addr->Prop}{a:Addr}{xs:Ε}{ts:List T}(n:H a=none)(e:H' a=some (.lst xs))(h:bU K (hd (λb=>S b\/b=a) H') xs ts):NR K S H H' (.ref a) (.l1 ts) :=
 ⟨[a],λ_ z=>(YR.mp z) ▸ n,a,xs,rfl,rfl,e,h.same (fL (λb z=>.inl (z.imp id YR.mp)) λ_ _ z=>z)⟩
theorem NR.back{S:Addr->Prop}{H0:Hp}{v:V}{x:OT}(h:NR K S H H' v x)(E:Same H0 H):NR K S H0 H' v x:=by
 obtain⟨B,n,r⟩:=h;exact⟨B,λa ha=>E.free (n a ha),r⟩
noncomputable def own1(own:zk)(i:Nat)(B:Φ):zk:=λj=>if j=i then B else own j
theorem iW{i:Nat}{B:Φ} : own1 own i B i=B:=ZY rfl
theorem eF{i j:Nat}{B:Φ}(h:j≠i):own1 own i B j=own j:=ZZ h
theorem Ow.of1{i:Nat}{B:Φ}{b:Addr}(h:Ow (own1 own i B) b):Ow own b\/b∈B:=by
 obtain⟨j,h⟩:=h;by_cases z:j=i
 .rw[z,iW]at h;exact .inr h
 .rw[eF z]at h;exact .inl ⟨j,h⟩
theorem SR.put(h:SR K own H σ o)(E:Same H H'){v:V}{x:OT}(n:NR K (Ow own) H H' v x){i:Nat}(hi:i<o.length):∃am,SR K am H' (σ.set i (some v)) (o.set i x)/\Same (hd (Ow own) H) (hd (Ow am) H'):=by
 obtain⟨B,nb,r⟩:=n;have le:Same (hd (Ow own) H) (hd (Ow (own1 own i B)) H'):=fL (λb z=>z.of1.imp id (nb b)) E;refine⟨own1 own i B,⟨by rw[VZ,VZ,h.len],λj y e=>?_,λj hj=>?_,λj k a e1 e2=>?_⟩,le⟩
 .by_cases z:j=i
  .subst z;rw[UY hi]at e;cases e;rw[iW,UY (h.len ▸ hi)];exact r.same (fL (λb z=>.inl z.of1) λ_ _ z=>z) λ_ _ z=>z
  .rw[VW (Ne.symm z)]at e;rw[eF z,VW (Ne.symm z)];exact(h.sl j y e).same le E
 .rw[VZ]at hj;rw[eF (by lia)];intro a ha;obtain⟨xs,e⟩:=h.out j hj a ha;exact⟨xs,E _ _ e⟩
 .by_cases z:j=i<;>by_cases y:k=i
  .rw[z,y]
  .rw[z,iW]at e1;rw[eF y]at e2;exact absurd (nb a e1) (h.sole ⟨k,e2⟩).ne
  .rw[y,iW]at e2;rw[eF z]at e1;exact absurd (nb a e2) (h.sole ⟨j,e1⟩).ne
  .rw[eF z]at e1;rw[eF y]at e2;exact h.dis j k a e1 e2
theorem SR.frz(h:SR K own H σ o){i:Nat}{x:OT}(e:o[i]?=some x){u:V}(hu:σ[i]?=some (some u)):∃am,SR K am H σ (o.set i (.fz (L2.frz x)))/\Same (hd (Ow own) H) (hd (Ow am) H):=by
 have hi:i<o.length:=(ao.mp e).1;have le:Same (hd (Ow own) H) (hd (Ow (own1 own i [])) H):=fL (λb z=>.inl (z.of1.elim id λy=>(nomatch y))) λ_ _ z=>z;have hs:=h.sl i x e;rw[hu]at hs;refine⟨own1 own i [],⟨by rw[VZ,h.len],λj y e'=>?_,λj hj=>?_,λj k a e1 e2=>?_⟩,le⟩
 .by_cases z:j=i
  .subst z;rw[UY hi]at e';cases e';rw[iW,hu];exact⟨rfl,u,rfl,Slo.frz hs le λa ha=>cI λz=>by
    obtain⟨k,z⟩:=z;by_cases y:k=j
    .rw[y,iW]at z;cases z
    .rw[eF y]at z;exact y (h.dis k j a z ha)⟩
  .rw[VW (Ne.symm z)]at e';rw[eF z];exact(h.sl j y e').same le λ_ _ z=>z
 .rw[VZ]at hj;rw[eF (by lia)];exact h.out j hj
 .by_cases z:j=i
  .rw[z,iW]at e1;cases e1
  by_cases y:k=i
  .rw[y,iW]at e2;cases e2
  .rw[eF z]at e1;rw[eF y]at e2;exact h.dis j k a e1 e2
theorem SR.chg(h:SR K own H σ o){i:Nat}{x:OT}(e:o[i]?=some x){y:OT}(E:∀b u,b∉own i->H b=some u->H' b=some u)(r:Slo K (hd (Ow own) H') H' (σ[i]?.join) (own i) y):SR K own H' σ (o.set i y)/\Same (hd (Ow own) H) (hd (Ow own) H'):=by
 have hi:i<o.length:=(ao.mp e).1;have le:Same (hd (Ow own) H) (hd (Ow own) H'):=λb u z=>by
  obtain⟨n,z⟩:=cH z;rw[cI n];exact E b u (λq=>n ⟨i,q⟩) z
 refine⟨⟨by rw[VZ,h.len],λj z e'=>?_,λj hj a ha=>?_,h.dis⟩,le⟩
 rotate_left
 .rw[VZ]at hj;obtain⟨xs,e2⟩:=h.out j hj a ha;exact⟨xs,E a _ (λz=>by have:=h.dis j i a ha z;lia) e2⟩
 by_cases q:j=i
 .subst q;rw[UY hi]at e';cases e';exact r
 .rw[VW (Ne.symm q)]at e';exact((h.sl j z e').same le λ_ _ z=>z).off λb hb u=>E b u λz=>q (h.dis j i b hb z)
theorem SR.get(h:SR K own H σ o){i:Nat}{t:T}(e:o[i]?=some (.fz t)):∃u,σ[i]?=some (some u)/\Rep K (hd (Ow own) H) u t:=by
 obtain⟨_,u,q,r⟩:=h.sl i _ e;refine⟨u,?_,r⟩;cases z:σ[i]? with
 |none=>rw[z]at q;cases q
 |some w=>rw[z]at q;exact ZH some q
end
end L2
namespace L2
open PySem PySem.Spec PyProof.Rows
abbrev RE:=List OT->(OT->Prop)->Prop
abbrev RT:=List OT->(Bool->Prop)->Prop
abbrev RA:=List OT->(List T->Prop)->Prop
def tQ(K:Frag)(r:RE):TE:=λσ H Q=>∃own o R,SR K own H σ o/\r o R/\∀H' v x,R x->Same H H'->NR K (Ow own) H H' v x->Q v H'
def tQT(K:Frag)(r:RT):TT:=λσ H Q=>∃own o R,SR K own H σ o/\r o R/\∀H' b,R b->Same H H'->Q b H'
def tQA(K:Frag)(n:Nat)(r:RA):TA:=λσ H Q=>∃own o R,SR K own H σ o/\r o R/\∀H' vs ts,R ts->ts.length=n->Same H H'->bU K (hd (Ow own) H') vs ts->Q vs H'
def QE(X:Cx)(e:Expr)(r:RE):Prop:=PE X e (tQ X.K r)
def QT(X:Cx)(e:Expr)(r:RT):Prop:=PT X e (tQT X.K r)
def QW(X:Cx)(e:Expr)(r:RT):Prop:=PW X e (tQT X.K r)
def QA(X:Cx)(es:List Expr)(r:RA):Prop:=PA X es (tQA X.K es.length r)
theorem PT.imp{X:Cx}{e:Expr}{t t':TT}(h:PT X e t)(i:∀σ H Q,t' σ H Q->t σ H Q):PT X e t':=λaa s σ H Q I q=>h aa s σ H Q I (i σ H Q q)
theorem PW.imp{X:Cx}{e:Expr}{t t':TT}(h:PW X e t)(i:∀σ H Q,t' σ H Q->t σ H Q):PW X e t':=λwh aa s σ H Q I q=>h wh aa s σ H Q I (i σ H Q q)
theorem PA.imp{X:Cx}{es:List Expr}{t t':TA}(h:PA X es t)(i:∀σ H Q,t' σ H Q->t σ H Q):PA X es t':=λp aa s σ H Q I q=>h p aa s σ H Q I (i σ H Q q)
section
variable{K:Frag}{own:zk}{H:Hp}{σ:L2.St}{o:List OT}
theorem tQ.mk{r:RE}{R:OT->Prop}{Q:VK}(h:SR K own H σ o)(hr:r o R)(k:∀H' v x,R x->Same H H'->Rep K (hd (Ow own) H') v (frz x)->Q v H'):tQ K r σ H Q :=
 ⟨own,o,R,h,hr,λH' v x rx E n=>k H' v x rx E (n.rep λb z=>(h.sole z).ne)⟩
noncomputable def slot:List OT->Nat->OT
 |[],_=>.und
 |x::_,0=>x
 |_::l,n+1=>slot l n
theorem gR:∀{o:List OT}{i:Nat}{x:OT},slot o i=x->x≠.und->o[i]?=some x
 |[],_,_,e,n=>absurd e.symm n
 |_::_,0,_,e,_=>ZH some e
 |_::l,i+1,x,e,n=>by simpa using gR (o:=l) (i:=i) e n
end
def afV(i:Nat):RE:=λo q=>match slot o i with|.fz t=>q (.fz t)|_=>False
def rC(t:T):RE:=λ_ q=>q (.fz t)
abbrev zz:Type:=T->T->(OT->Prop)->Prop
def rOp(g:zz)(a b:RE):RE:=λo q=>a o λx=>b o λy=>g (frz x) (frz y) q
def rUn(g:T->(OT->Prop)->Prop)(a:RE):RE:=λo q=>a o λx=>g (frz x) q
def sw(b:Bool)(p q:Prop):Prop:=match b with|true=>p|false=>q
theorem sw2{b:Bool}{p q:Prop}(h1:b=true->p)(h2:b=false->q):sw b p q:=by
 cases b
 .exact h2 rfl
 .exact h1 rfl
theorem swD{c:Prop}[Decidable c]{p q:Prop}(h1:c->p)(h2:¬c->q):sw (decide c) p q:=sw2 (λe=>h1 (of_decide_eq_true e)) λe=>h2 (of_decide_eq_false e)
theorem swT{b:Bool}{p q:Prop}(e:b=true)(h:p):sw b p q:=by subst e;exact h
theorem swF{b:Bool}{p q:Prop}(e:b=false)(h:q):sw b p q:=by subst e;exact h
section
variable{X:Cx}{a b c:Expr}{ra rb rc:RE}{pos:Pos}
theorem qv(i:Nat){x:Str}{pos:Pos}(hN:X.N[i]?=some x:=by rfl)(hv:qF X.env.scope x=true:=by rfl)(hd:qk x:=by decide)
 (a9:qf x:=by decide):QE X (.Name x pos) (afV i):=(pv i hN hv hd a9).imp λσ H Q hP=>by
 obtain⟨own,o,R,h,hr,k⟩:=hP;unfold afV at hr;cases e:slot o i with
 |fz t =>
  rw[e]at hr;obtain⟨u,q,r⟩:=h.get (gR e (by intro z;cases z));exact⟨u,q,k H u _ hr (.refl _) (NR.fz r)⟩
 |_=>rw[e]at hr;exact hr.elim
theorem qC{e:Expr}{v:V}{t:T}(h:PE X e (tC v))(r:∀F,Rep X.K F v t):QE X e (rC t):=h.imp λσ H Q hP=>by obtain⟨own,o,R,_,hr,k⟩:=hP;exact k H v _ hr (.refl _) (NR.fz (r _))
theorem bx{i j pos} : QE X (.Constant (.int i) j pos) (rC (.int i)):=qC Rr λ_=>.int _
theorem mV{b j pos} : QE X (.Constant (.bool b) j pos) (rC (.bl b)):=qC acZ λ_=>.bl _
theorem fX{j pos} : QE X (.Constant .none j pos) (rC .non):=qC X5 λ_=>.non
theorem lF{x j pos} : QE X (.Constant (.str x) j pos) (rC (.str x)):=qC K8 λ_=>.str _
theorem X8{x:Str}{v:V}{t:T}{pos:Pos}(hg:Gl X x)(hm:∃u,X.mg x=some u/\RelV v u)(r:∀F,Rep X.K F v t)(hd:qk x:=by decide):QE X (.Name x pos) (rC t):=qC (ZD hg hm hd) r
def GO(X:Cx)(f:Value->Value->Sem Value)(g:zz):Prop:=OpR X f λx y H Q=>∃S t u R,(∀b,S b->H b≠none)/\Rep X.K (hd S H) x t/\Rep X.K (hd S H) y u/\g t u R/\∀H' v z,R z->Same H H'->NR X.K S H H' v z->Q v H'
theorem q2{g:zz}{σ:L2.St}{H:Hp}{Q:VK}(h:tQ X.K (rOp g ra rb) σ H Q):tOp (λx y H Q=>∃S t u R,(∀b,S b->H b≠none)/\Rep X.K (hd S H) x t/\Rep X.K (hd S H) y u/\g t u R/\∀H' v z,R z->Same H H'->NR X.K S H H' v z->Q v H') (tQ X.K ra) (tQ X.K rb) σ H Q:=by
 obtain⟨own,o,R,h,hr,k⟩:=h;exact tQ.mk h hr λH1 v x q E1 r1=>tQ.mk (h.same E1) q λH2 w y q2 E2 r2=>⟨Ow own,_,_,R,λb z=>((h.same (E1.trans E2)).sole z).ne,r1.same (bN E2),r2,q2,λH' u z rz E3 n=>k H' u z rz (E1.trans (E2.trans E3)) (n.back (E1.trans E2))⟩
theorem bJ{op:Operator}{g:zz}(ho:GO X (binaryOp op) g)(ha:QE X a ra)(hb:QE X b rb):QE X (.BinOp a op b pos) (rOp g ra rb):=(ajB ho ha hb).imp λ_ _ _=>q2
theorem m6{op:CmpOp}{g:zz}(ho:GO X (compareOp op) g)(ha:QE X a ra)(hb:QE X b rb)(hm:behindInMarks op b=false:=by exact XJ _):QE X (.Compare a [op] [b] pos) (rOp g ra rb):=(abd ho ha hb hm).imp λ_ _ _=>q2
noncomputable def gI(g:Int->Int->OT):zz
 |.int i,.int j,q=>q (g i j)
 |_,_,_=>False
theorem GO.ints{f:Value->Value->Sem Value}{g:Int->Int->V}{t:Int->Int->T}(h:OpR X f (rI0 g))(r:∀i j F,Rep X.K F (g i j) (t i j)):GO X f (gI λi j=>.fz (t i j)):=h.imp λx y H Q hP=>by
 obtain⟨S,t,u,R,_,hx,hy,hg,k⟩:=hP;cases hx<;>try exact hg.elim
 cases hy<;>try exact hg.elim
 exact⟨_,_,rfl,rfl,k H _ _ hg (.refl _) (NR.fz (r _ _ _))⟩
theorem Cg:GO X (binaryOp .Sub) (gI λi j=>.fz (.int (i-j))):=.ints aeo λ_ _ _=>.int _
theorem vJ:GO X (compareOp .Lt) (gI λi j=>.fz (.bl (decide (i<j)))):=.ints ahN λ_ _ _=>.bl _
theorem Jy:GO X (compareOp .LtE) (gI λi j=>.fz (.bl (decide (i<=j)))):=.ints agZ λ_ _ _=>.bl _
theorem JT:GO X (compareOp .Gt) (gI λi j=>.fz (.bl (decide (j<i)))):=.ints aks λ_ _ _=>.bl _
theorem adA:GO X (compareOp .GtE) (gI λi j=>.fz (.bl (decide (j<=i)))):=.ints ajK λ_ _ _=>.bl _
noncomputable def alp:zz
 |.int i,.int j,q=>q (.fz (.int (i+j)))
 |.str a,.str b,q=>a.length+b.length<=sizeLine/\q (.fz (.str (a++b)))
 |.lst a,.lst b,q=>a.length+b.length<=sizeLine/\q (.l1 (a++b))
 |_,_,_=>False
theorem yw{S:Addr->Prop}{H H':Hp}{p:Addr}{xs:Ε}{ts:List T}(r:bU X.K (hd S H) xs ts)(E:Same H H')(n:H p=none)(e:H' p=some (.lst xs)):NR X.K S H H' (.ref p) (.l1 ts) :=
 NR.l1 n e (r.same (fL (λb z=>z.imp id λ(y:b=p)=>y ▸ n) E))
theorem cD:GO X (binaryOp .Add) alp:=λaa s σ H x y v u Q I rx ry hP=>by
 obtain⟨S,t,w,R,_,hx,hy,hg,k⟩:=hP;cases t<;>try exact hg.elim
 .cases hx;cases w<;>try exact hg.elim
  cases hy;exact aen aa s σ H _ _ v u Q I rx ry ⟨_,_,rfl,rfl,k H _ _ hg (.refl _) (NR.fz (.int _))⟩
 .cases hx;cases w<;>try exact hg.elim
  cases hy;exact aaS aa s σ H _ _ v u Q I rx ry ⟨_,_,rfl,rfl,hg.1,k H _ _ hg.2 (.refl _) (NR.fz (.str _))⟩
 .cases w<;>try exact hg.elim
  obtain⟨a,xs,rfl,e1,r1⟩:=hx.lstI;obtain⟨b,ys,rfl,e2,r2⟩:=hy.lstI;exact aa6 aa s σ H _ _ v u Q I rx ry ⟨a,b,xs,ys,rfl,rfl,(cH e1).2,(cH e2).2,by rw[r1.len,r2.len];exact hg.1,λp H' E n e=>k H' _ _ hg.2 E (yw (r1.app r2) E n e)⟩
noncomputable def akX:zz
 |.int i,.int j,q=>(Bd i/\Bd j)/\q (.fz (.int (i*j)))
 |.lst a,.int j,q=>(-(2^63)<=j/\j<2^63/\a.length*j.toNat<=sizeLine)/\∀z,z=(List.replicate j.toNat a).flatten->q (.l1 z)
 |.str a,.int j,q=>(∃c,a=⟨#[c]⟩/\1<=j/\j<=1000/\∀z:Str,z.cps.toList=List.replicate j.toNat c->q (.fz (.str z)))
 |_,_,_=>False
noncomputable def akv:zz
 |.int i,.int j,q=>(j≠0/\Bd j)/\q (.fz (.int (i.fdiv j)))
 |_,_,_=>False
noncomputable def alH:zz
 |.int i,.int j,q=>0<j/\q (.fz (.int (i%j)))
 |_,_,_=>False
noncomputable def alJ:zz
 |.int i,.int j,q=>aj9 i j/\q (.fz (.int (i^j.toNat)))
 |_,_,_=>False
theorem lK:GO X (binaryOp .FloorDiv) akv:=YG.imp λx y H Q hP=>by
 obtain⟨S,t,u,R,_,hx,hy,hg,k⟩:=hP;cases hx<;>try exact hg.elim
 cases hy<;>try exact hg.elim
 exact⟨_,_,rfl,rfl,hg.1,k H _ _ hg.2 (.refl _) (NR.fz (.int _))⟩
theorem cA:GO X (binaryOp .Mod) alH:=afH.imp λx y H Q hP=>by
 obtain⟨S,t,u,R,_,hx,hy,hg,k⟩:=hP;cases hx<;>try exact hg.elim
 cases hy<;>try exact hg.elim
 exact⟨_,_,rfl,rfl,hg.1,k H _ _ hg.2 (.refl _) (NR.fz (.int _))⟩
theorem KD:GO X (binaryOp .Pow) alJ:=adD.imp λx y H Q hP=>by
 obtain⟨S,t,u,R,_,hx,hy,hg,k⟩:=hP;cases hx<;>try exact hg.elim
 cases hy<;>try exact hg.elim
 exact⟨_,_,rfl,rfl,hg.1,k H _ _ hg.2 (.refl _) (NR.fz (.int _))⟩
def amY:T->(OT->Prop)->Prop
 |.int i,q=>q (.fz (.int (-i)))
 |_,_=>False
theorem Cv(ha:QE X a ra):QE X (.UnaryOp .USub a pos) (rUn amY ra):=(ahZ ad7 ha).imp λσ H Q ⟨own,o,R,h,hr,k⟩=>tQ.mk h hr λH1 v x q E1 r1=>by
 revert r1 q
 generalize frz x=t;intro q r1;cases r1<;>try exact q.elim
 exact⟨_,rfl,k _ _ _ q E1 (NR.fz (.int _))⟩
noncomputable def Uu:T->Option Bool
 |.non=>some true
 |.any=>none
 |.val v=>some (decide (v=.non))
 |_=>some false
def gIs(neg:Bool):zz:=λt u q=>match u,Uu t with
 |.non,some b=>q (.fz (.bl (xor neg b)))
 |_,_=>False
theorem Qs{F:Hp}{K:Frag}{x:V}{t:T}{b:Bool}(h:Rep K F x t)(e:Uu t=some b):decide (x=.non)=b:=by
 cases h<;>cases e<;>first|rfl|(apply Zp;intro z;cases z)
theorem FP:GO X (compareOp .Is) (gIs false):=adG.imp λx y H Q hP=>by
 obtain⟨S,t,u,R,_,hx,hy,hg,k⟩:=hP;cases hy<;>try exact hg.elim
 unfold gIs at hg;cases e:Uu t with
 |none=>rw[e]at hg;exact hg.elim
 |some b=>rw[e]at hg;exact⟨rfl,k H _ _ hg (.refl _) (NR.fz (by rw[Qs hx e,Bool.false_xor];exact .bl _))⟩
theorem Fd:GO X (compareOp .IsNot) (gIs true):=abR.imp λx y H Q hP=>by
 obtain⟨S,t,u,R,_,hx,hy,hg,k⟩:=hP;cases hy<;>try exact hg.elim
 unfold gIs at hg;cases e:Uu t with
 |none=>rw[e]at hg;exact hg.elim
 |some b=>rw[e]at hg;exact⟨rfl,k H _ _ hg (.refl _) (NR.fz (by rw[Qs hx e,Bool.true_xor];exact .bl _))⟩
end
structure Hid(H:Hp)(S:Addr->Prop):Prop where
 sole:∀b,S b->aap H b
 ins:∀a C dx fs,S a->H a=some (.ins C dx fs)->S dx
 own:∀b x,S b->H b=some (.own x)->S x
theorem SR.mate{K:Frag}{own:zk}{H:Hp}{σ:L2.St}{o:List OT}(h:SR K own H σ o){j:Nat}{b:Addr}(hb:b∈own j):(∀C d f,H b=some (.ins C d f)->d∈own j)/\∀x,H b=some (.own x)->x∈own j:=by
 have nl:∀{xs:Ε},H b=some (.lst xs)->(∀C d f,H b=some (.ins C d f)->d∈own j)/\∀x,H b=some (.own x)->x∈own j:=λq=>⟨(λ_ _ _ e=>by rw[q]at e;cases e),(λ_ e=>by rw[q]at e;cases e)⟩;by_cases hj:j<o.length
 .have s:=h.sl j _ (aj hj);cases y:o[j]with
  |und=>rw[y]at s;rw[show own j=[]from s]at hb;cases hb
  |fz t=>rw[y]at s;rw[s.1]at hb;cases hb
  |l1 ts=>rw[y]at s;obtain⟨c,xs,_,w,q,_⟩:=s;rw[w]at hb;cases YR.mp hb;exact nl q
  |l2 tss =>
   rw[y]at s;obtain⟨c,bs,_,w1,_,q1,l,r⟩:=s;rw[w1]at hb;rcases YU.mp hb with z|z
   .exact nl (z ▸ q1)
   .obtain⟨i,hi⟩:=aV z;obtain⟨xs,q2,_⟩:=r i b _ hi (aj (l ▸ (ao.mp hi).1));exact nl q2
  |d1 ks ts=>rw[y]at s;obtain⟨c,xs,_,w,q,_⟩:=s;rw[w]at hb;cases YR.mp hb;exact⟨(λ_ _ _ e=>by rw[q]at e;cases e),(λ_ e=>by rw[q]at e;cases e)⟩
  |la c ts=>rw[y]at s;obtain⟨xs,_,w,q,_⟩:=s;rw[w]at hb;cases YR.mp hb;exact nl q
  |ob c d C' ks ts =>
   rw[y]at s;obtain⟨xs,_,w,q,q2,_⟩:=s;rw[w]at hb ⊢;rcases YU.mp hb with z|z
   .refine⟨λ_ _ _ e=>?_,λ_ e=>?_⟩
    .rw[z,q]at e;cases e;simp
    .rw[z,q]at e;cases e
   .cases YR.mp z;refine⟨λ_ _ _ e=>?_,λ_ e=>?_⟩
    .rw[q2]at e;cases e
    .rw[q2]at e;cases e;simp
 .obtain⟨xs,q⟩:=h.out j (Nat.not_lt.mp hj) b hb;exact nl q
theorem SR.hid{K:Frag}{own:zk}{H:Hp}{σ:L2.St}{o:List OT}(h:SR K own H σ o):Hid H (Ow own) :=
 ⟨λb z=>h.sole z,λa C dx fs ⟨j,z⟩ e=>⟨j,(h.mate z).1 C dx fs e⟩,λb x ⟨j,z⟩ e=>⟨j,(h.mate z).2 x e⟩⟩
noncomputable def mrg(S:Addr->Prop)(H G:Hp):Hp:=λb=>open Classical in if S b then H b else G b
theorem vU{S:Addr->Prop}{H G:Hp}{b:Addr}(h:S b):mrg S H G b=H b:=by unfold mrg;rw[ZY h]
theorem j6{S:Addr->Prop}{H G:Hp}{b:Addr}(h:¬S b):mrg S H G b=G b:=by unfold mrg;rw[ZZ h]
def spH(sp:Sp):Sp:=λvs H Q _=>∃S:Addr->Prop,Hid H S/\sp vs (hd S H) (λv G=>(∀b,S b->G b=none)->Q v (mrg S H G)) λ_ _ _=>False
section
variable{P:Program}{w:World}{K:Frag}{mg:Str->Ψ}{base:Heap}
theorem b_.hid{k:Nat}{f:Addr}{fd:FuncData}{ps:Θ}{sp:Sp}(F:b_ P w K mg base CX0 k f fd ps sp):b_ P w K mg base CX0 k f fd ps (spH sp):=by
 refine⟨λvs H Q E h=>?_,λA outer s H args us vs Q E hr e0 hb r h=>?_⟩
 .obtain⟨S,_,z⟩:=h;exact F.len vs _ _ _ z
 obtain⟨S,hS,z⟩:=h;have non:∀{b:Addr},H b=none->hd S H b=none:=λ{b}e=>by
  by_cases z:S b
  .exact m_ z
  .rw[cI z];exact e
 have dL:∀{b:Addr}{u:HO},S b->H b=some u->(∀xs,u≠.tup xs)/\(∀o v,u≠.frz o v)/\∀ps,u≠.tbl ps:=λ{b u}z e=>by
  obtain⟨o,q,w⟩:=hS.sole b z;rw[e]at q;cases q;rcases w with⟨_,rfl⟩|⟨_,rfl⟩|⟨_,_,_,rfl⟩|⟨_,rfl⟩<;>exact⟨λ_ z=>(nomatch z),λ_ _ z=>(nomatch z),λ_ z=>(nomatch z)⟩
 have e1:O9 P w K mg base A outer s (hd S H):=⟨e0.frames,e0.mod,λb o e=>⟨(e0.bs b o e).1,non (e0.bs b o e).2⟩,e0.bsz,e0.funs,λb hb=>non (e0.frf b hb),λb u e=>by
  obtain⟨nb,e'⟩:=cH e;refine(e0.hok b u e').stay (λ_ _ _ z=>z) (λd z=>?_) λd xs z=>?_
  .rw[cI λy=>nb (hS.own d b y z)];exact z
  .rw[cI λy=>(dL y z).1 xs rfl];exact z,e0.bare⟩
 refine codeAny_mono (F.run A outer s (hd S H) args us vs _ _ hr e1 hb r z) λres s' hs=>?_;cases res with
 |error e=>exact hs.elim
 |ok fl =>
  cases fl with
  |next=>exact False.elim hs
  |brk=>exact False.elim hs
  |cont=>exact False.elim hs
  |ret u =>
   obtain⟨v,G,os,bare,un,hok,rv,q⟩:=hs;have there:∀{b:Addr},S b->∃o,s.heap.get? b=some o:=λ{b}y=>by
    obtain⟨u,e,w⟩:=hS.sole b y;have x:=e0.hok b u e;rcases w with⟨xs,rfl⟩|⟨kk,rfl⟩|⟨C,d,f,rfl⟩|⟨y,rfl⟩
    .obtain⟨_,_,_,_,e2⟩:=x;exact⟨_,e2⟩
    .obtain⟨_,_,_,_,_,_,_,e2,_⟩:=x;exact⟨_,e2⟩
    .obtain⟨_,_,_,e2,_⟩:=x;exact⟨_,e2⟩
    .exact x
   have keep:∀{b:Addr}{o:Obj},S b->s.heap.get? b=some o->s'.heap.get? b=some o:=λ{b o}y e=>un.keep b o e (m_ y) (λz=>(hS.sole b y).ne (e0.frf b z)) (by simp);have bj:∀b,S b->G b=none:=λb y=>by
    obtain⟨o,ho⟩:=there y;exact un.free b o ho (m_ y) (by simp)
   have no':∀{b:Addr}{u:HO},G b=some u->¬S b:=λe z=>by rw[bj _ z]at e;cases e
   have df:∀{b:Addr}{u:HO},G b=some u->mrg S H G b=some u:=λe=>(j6 (no' e)).trans e;refine⟨v,mrg S H G,os,bare,⟨λb o e n=>un.keep b o e (non n),λb o e n=>un.slot b o e (non n),λb o e n z=>?_,un.there,λb xs e=>?_,λb o u e=>?_,λb ps e=>?_⟩,λb u e=>?_,rv,q bj⟩
   .rw[j6 λy=>(hS.sole b y).ne n];exact un.free b o e (non n) z
   .have n:¬S b:=λy=>(dL y e).1 xs rfl;exact df (un.tups b xs ((cI n).trans e))
   .have n:¬S b:=λy=>(dL y e).2.1 o u rfl;exact df (un.frzs b o u ((cI n).trans e))
   .have n:¬S b:=λy=>(dL y e).2.2 ps rfl;obtain⟨more,this⟩:=un.tbls b ps ((cI n).trans e);exact⟨more,df this⟩
   .by_cases z:S b
    .rw[vU z]at e;have x:=e0.hok b u e;obtain⟨u',e',w⟩:=hS.sole b z;rw[e]at e';cases e';rcases w with⟨xs,rfl⟩|⟨kk,rfl⟩|⟨C,d,f,rfl⟩|⟨y,rfl⟩
     .obtain⟨z1,its,n,r,e2⟩:=x;exact⟨z1,its,n,r,keep z e2⟩
     .obtain⟨z1,y,vs,r,ob,es,ep,e2,c⟩:=x;exact⟨z1,y,vs,r,ob,es,ep,keep z e2,c⟩
     .obtain⟨d1,z1,ne,e2,mA,⟨od,es,ep,e3,c⟩,r⟩:=x;have sd:=hS.ins b C d f z e;exact⟨(vU sd).trans d1,z1,ne,keep z e2,mA,⟨od,es,ep,keep sd e3,c⟩,r⟩
     .obtain⟨ob,e2⟩:=x;exact⟨ob,keep z e2⟩
    .rw[j6 z]at e;exact(hok b u e).stay (λ_ _ _ z=>z) (λd z=>df z) λd xs z=>df z
abbrev ST:=List T->(OT->Prop)->Prop
def spT(K:Frag)(S:ST):Sp:=λvs H Q _=>∃ts R,bU K H vs ts/\S ts R/\∀H' v x,R x->Same H H'->NR K (λ_=>False) H H' v x->Q v H'
abbrev OkT(P:Program)(w:World)(K:Frag)(mg:Str->Ψ)(base:Heap)(k:Nat)(x:Str)(ps:Θ)(S:ST):Prop:=OkF P w K mg base k x ps (spT K S)
end
section
variable{X:Cx}
def afR:RA:=λ_ q=>q []
def adq(a:RE)(r:RA):RA:=λo q=>a o λx=>r o λts=>q (frz x::ts)
theorem bA:QA X [] afR:=lA.imp λσ H Q hP=>by obtain⟨own,o,R,h,hr,k⟩:=hP;exact k H [] [] hr rfl (.refl _) .nil
theorem tQA.mk{K:Frag}{own:zk}{H:Hp}{σ:L2.St}{o:List OT}{r:RA}{R:List T->Prop}{Q:Ε->Hp->Prop}(h:SR K own H σ o)(hr:r o R){n:Nat}(k:∀H' vs ts,R ts->ts.length=n->Same H H'->bU K (hd (Ow own) H') vs ts->Q vs H'):tQA K n r σ H Q:=⟨own,o,R,h,hr,k⟩
theorem bw{e:Expr}{es:List Expr}{a:RE}{r:RA}(ha:QE X e a)(hr:QA X es r)(hs:qo X e es:=by rfl):QA X (e::es) (adq a r):=(cN ha hr hs).imp λσ H Q ⟨own,o,R,h,hr,k⟩ =>
 tQ.mk h hr λH1 v x q E1 r1=>tQA.mk (h.same E1) q λH2 vs ts q2 ln E2 r2=>k H2 (v::vs) (frz x::ts) q2 (ZH (· + 1) ln) (E1.trans E2) (.cons (r1.same (bN E2)) r2)
def Ze(S:ST)(r:RA):RE:=λo q=>r o λts=>S ts q
theorem bH{p pos:Pos}{e:Expr}{es:List Expr}{r:RA}{x:Str}{k:Nat}{ps:Θ}{S:ST}(G:OkT X.prog X.w X.K X.mg X.base k x ps S)(hr:dF k X.A)(hg:Gl X x)(ha:QA X (e::es) r)(bu:qk x:=by decide)
 (he:qo X e es:=by rfl)(aS:qh X pos es:=by rfl):QE X (.Call (.Name x p) (e::es) [] pos) (Ze S r):=by
 obtain⟨f,fd,F,b,hm,kp⟩:=G;refine(zE (sp:=spH (spT X.K S)) ⟨f,fd,F.hid,b,hm,kp⟩ hr hg ha bu he aS).imp λσ H Q ⟨own,o,R,h,hr,k⟩=>tQA.mk h hr λH1 vs ts q _ E1 r1=>?_;have h1:=h.same E1;refine⟨Ow own,h1.hid,ts,R,r1,q,λG v x rx E n bj=>?_⟩;have EH:Same H1 (mrg (Ow own) H1 G):=λb u e=>by
  by_cases z:Ow own b
  .rw[vU z];exact e
  .rw[j6 z];exact E b u ((cI z).trans e)
 have EG:Same G (mrg (Ow own) H1 G):=λb u e=>by rw[j6 λz=>by rw[bj b z]at e;cases e];exact e
 refine k _ v x rx (E1.trans EH) (NR.back (H:=H1) ?_ E1);obtain⟨B,nb,s⟩:=n;have out:∀a∈B,¬Ow own a:=λa ha z=>(s.sole ha).ne (bj a z);refine⟨B,λa ha=>by have:=nb a ha;rwa[cI (out a ha)]at this,s.same (fL (λb z=>?_) EG) EG⟩;rcases z with z|z
 .exact .inr (bj b z)
 .exact .inl (.inr z)
end
def rB(a:RE):RT:=λo q=>a o λx=>match frz x with|.bl b=>q b|_=>False
def tru:T->(Bool->Prop)->Prop
 |.bl b,q=>q b
 |.int i,q=>q (i != 0)
 |.non,q=>q false
 |.lst ts,q=>q (!ts.isEmpty)
 |.tup ts,q=>q (!ts.isEmpty)
 |_,_=>False
def al0(a:RE):RT:=λo q=>a o λx=>tru (frz x) q
def afw(a b:RT):RT:=λo q=>a o λc=>sw c (b o q) (q false)
def rOr(a b:RT):RT:=λo q=>a o λc=>sw c (q true) (b o q)
def alm(a:RT):RT:=λo q=>a o λc=>q (!c)
def agY(a b:RE):RE:=λo q=>a o λx=>match frz x with|.bl c=>sw c (b o q) (q (.fz (.bl false)))|_=>False
def aiW(a:RE):RE:=λo q=>a o λx=>match frz x with|.bl c=>q (.fz (.bl (!c)))|_=>False
def rIf(c:RT)(a b:RE):RE:=λo q=>c o λk=>sw k (a o q) (b o q)
theorem tQT.mk{K:Frag}{own:zk}{H:Hp}{σ:L2.St}{o:List OT}{r:RT}{R:Bool->Prop}{Q:Bool->Hp->Prop}(h:SR K own H σ o)(hr:r o R)(k:∀H' b,R b->Same H H'->Q b H'):tQT K r σ H Q:=⟨own,o,R,h,hr,k⟩
theorem Rep.isEmpty{K:Frag}{F:Hp}{xs:Ε}{ts:List T}(h:bU K F xs ts):xs.isEmpty=ts.isEmpty:=by cases h<;>rfl
theorem Gx{c:Bool}{p q p' q':Prop}(h:sw c p q)(i:p->p')(j:q->q'):if c=true then p' else q':=by
 cases c
 .exact aml (j h)
 .exact akF (i h)
section
variable{X:Cx}{a b c:Expr}{ra rb rc:RE}{qa qb qc:RT}{pos:Pos}{rest:List Expr}
theorem cu{op:CmpOp}{g:zz}(ho:GO X (compareOp op) g)(ha:QE X a ra)(hb:QE X b rb)(hm:behindInMarks op b=false:=by exact XJ _):QT X (.Compare a [op] [b] pos) (rB (rOp g ra rb)) :=
 (acU ho ha hb hm).imp λσ H Q ⟨own,o,R,h,hr,k⟩=>q2 (ra:=ra) (rb:=rb) (tQ.mk h hr λH1 v x q E1 r1=>by
  revert r1 q
  generalize frz x=t;intro q r1;cases r1<;>try exact q.elim
  exact⟨_,rfl,k _ _ q E1⟩)
theorem dg(ha:QE X a ra)(he:∀b7,isTrue a X.env b7=(do let v <- b7;standAt a.pos;holding [v] (truthy v)):=by exact λ_=>rfl):QT X a (al0 ra):=(Za ha he).imp λσ H Q ⟨own,o,R,h,hr,k⟩=>tQ.mk h hr λH1 v x q E1 r1=>by
 revert r1 q
 generalize frz x=t;intro q r1;cases t<;>try exact q.elim
 .cases r1;exact⟨false,rfl,k _ _ q E1⟩
 .cases r1;exact⟨_,rfl,k _ _ q E1⟩
 .cases r1;exact⟨_,rfl,k _ _ q E1⟩
 .obtain⟨p,xs,rfl,e,r⟩:=r1.tupI;exact⟨_,.inr (.inl ⟨xs,cM.tup e,rfl⟩),by rw[Rep.isEmpty r];exact k _ _ q E1⟩
 .obtain⟨p,xs,rfl,e,r⟩:=r1.lstI;exact⟨_,.inl ⟨xs,.of (cH e).2,rfl⟩,by rw[Rep.isEmpty r];exact k _ _ q E1⟩
theorem dG(ha:QT X a qa):QT X (.UnaryOp .Not a pos) (alm qa):=(Z_ ha).imp λσ H Q hP=>by obtain⟨own,o,R,h,hr,k⟩:=hP;exact tQT.mk h hr λH1 b q E1=>k H1 _ q E1
theorem Um(ha:QT X a qa):QW X (.BoolOp .And [a] pos) qa:=pw_and1 ha
theorem iV(ha:QT X a qa):QW X (.BoolOp .Or [a] pos) qa:=pw_or1 ha
theorem Ye(ha:QT X a qa)(hb:QW X (.BoolOp .And (b::rest) pos) qb):QW X (.BoolOp .And (a::b::rest) pos) (afw qa qb):=(pw_and ha hb).imp λσ H Q hP=>by obtain⟨own,o,R,h,hr,k⟩:=hP;exact tQT.mk h hr λH1 c q E1=>Gx q (λq=>tQT.mk (h.same E1) q λH2 d q E2=>k H2 d q (E1.trans E2)) λq=>k H1 _ q E1
theorem lg(ha:QT X a qa)(hb:QW X (.BoolOp .Or (b::rest) pos) qb):QW X (.BoolOp .Or (a::b::rest) pos) (rOr qa qb):=(pw_or ha hb).imp λσ H Q hP=>by obtain⟨own,o,R,h,hr,k⟩:=hP;exact tQT.mk h hr λH1 c q E1=>Gx q (λq=>k H1 _ q E1) λq=>tQT.mk (h.same E1) q λH2 d q E2=>k H2 d q (E1.trans E2)
theorem QW.qt(h:QW X a qa):QT X a qa:=PW.pt h
theorem yE{op}(h:QE X a ra):QE X (.BoolOp op [a] pos) ra:=afj h
theorem vf(ha:QE X a ra)(hb:QE X (.BoolOp .And (b::rest) pos) rb):QE X (.BoolOp .And (a::b::rest) pos) (agY ra rb):=(adB ha hb).imp λσ H Q ⟨own,o,R,h,hr,k⟩=>tQ.mk h hr λH1 v x q E1 r1=>by
 revert r1 q
 generalize frz x=t;intro q r1;cases r1<;>try exact q.elim
 exact⟨_,rfl,Gx q (λq=>⟨own,o,R,h.same E1,q,λH2 v x q E2 n=>k H2 v x q (E1.trans E2) (n.back E1)⟩) λq=>k H1 _ _ q E1 (NR.fz (.bl _))⟩
theorem Z0(ha:QE X a ra):QE X (.UnaryOp .Not a pos) (aiW ra):=(afP ha).imp λσ H Q ⟨own,o,R,h,hr,k⟩=>tQ.mk h hr λH1 v x q E1 r1=>by
 revert r1 q
 generalize frz x=t;intro q r1;cases r1<;>try exact q.elim
 exact⟨_,rfl,k H1 _ _ q E1 (NR.fz (.bl _))⟩
theorem Ul{c:Expr}(hc:QT X c qc)(ha:QE X a ra)(hb:QE X b rb):QE X (.IfExp c a b pos) (rIf qc ra rb):=(Xj hc ha hb).imp λσ H Q ⟨own,o,R,h,hr,k⟩=>tQT.mk h hr λH1 c q E1 =>
 Gx q (λq=>⟨own,o,R,h.same E1,q,λH2 v x q E2 n=>k H2 v x q (E1.trans E2) (n.back E1)⟩) λq=>⟨own,o,R,h.same E1,q,λH2 v x q E2 n=>k H2 v x q (E1.trans E2) (n.back E1)⟩
def rCh(g g':zz)(a b c:RE):RE:=λo q=>a o λx=>b o λy=>g (frz x) (frz y) λz=>match frz z with|.bl k=>sw k (c o λw=>g' (frz y) (frz w) q) (q (.fz (.bl false)))|_=>False
theorem q3{op dt:CmpOp}{g g':zz}(ho:GO X (compareOp op) g)(de:GO X (compareOp dt) g'){σ:L2.St}{H:Hp}{Q:VK}(h:tQ X.K (rCh g g' ra rb rc) σ H Q):Tn (λx y H Q=>∃S t u R,(∀b,S b->H b≠none)/\Rep X.K (hd S H) x t/\Rep X.K (hd S H) y u/\g t u R/\∀H' v z,R z->Same H H'->NR X.K S H H' v z->Q v H') (λx y H Q=>∃S t u R,(∀b,S b->H b≠none)/\Rep X.K (hd S H) x t/\Rep X.K (hd S H) y u/\g' t u R/\∀H' v z,R z->Same H H'->NR X.K S H H' v z->Q v H') (tQ X.K ra) (tQ X.K rb) (tQ X.K rc) σ H Q:=by
 obtain⟨own,o,R,h,hr,k⟩:=h;refine tQ.mk h hr λH1 v x q E1 r1=>tQ.mk (h.same E1) q λH2 w y q2 E2 r2=>?_;have h2:=h.same (E1.trans E2);refine⟨Ow own,_,_,_,λb z=>(h2.sole z).ne,r1.same (bN E2),r2,q2,λH3 u z rz E3 n=>?_⟩;have kP:=n.rep λb z=>(h2.sole z).ne
 revert kP rz
 generalize frz z=t;intro rz kP;cases kP<;>try exact rz.elim
 have h3:=h2.same E3;refine⟨_,rfl,Gx rz (λq=>tQ.mk h3 q λH4 w' z q4 E4 r4=>⟨Ow own,_,_,R,λb z=>((h3.same E4).sole z).ne,r2.same (bN (E3.trans E4)),r4,q4,λH' u z rz E5 n=>k H' u z rz (E1.trans (E2.trans (E3.trans (E4.trans E5)))) (n.back (E1.trans (E2.trans (E3.trans E4))))⟩) λq=>k H3 _ _ q (E1.trans (E2.trans E3)) (NR.fz (.bl _))⟩
theorem Hw{op dt:CmpOp}{g g':zz}(ho:GO X (compareOp op) g)(de:GO X (compareOp dt) g')(ha:QE X a ra)(hb:QE X b rb)(hc:QE X c rc)(hm:lastMarks [op,dt] [b,c]=false:=by with_unfolding_all rfl):QE X (.Compare a [op,dt] [b,c] pos) (rCh g g' ra rb rc):=(Yq ho de ha hb hc hm).imp λ_ _ _=>q3 ho de
theorem Qx{op dt:CmpOp}{g g':zz}(ho:GO X (compareOp op) g)(de:GO X (compareOp dt) g')(ha:QE X a ra)(hb:QE X b rb)(hc:QE X c rc)(hm:lastMarks [op,dt] [b,c]=false:=by with_unfolding_all rfl):QT X (.Compare a [op,dt] [b,c] pos) (rB (rCh g g' ra rb rc)) :=
 (Yj ho de ha hb hc hm).imp λσ H Q ⟨own,o,R,h,hr,k⟩=>q3 (ra:=ra) (rb:=rb) (rc:=rc) ho de (tQ.mk h hr λH1 v x q E1 r1=>by
  revert r1 q
  generalize frz x=t;intro q r1;cases r1<;>try exact q.elim
  exact⟨_,rfl,k _ _ q E1⟩)
end
noncomputable def nth{α:Type} : List α->Nat->Option α
 |[],_=>none
 |x::_,0=>some x
 |_::l,n+1=>nth l n
theorem qR{α:Type} : ∀(l:List α)(n:Nat),nth l n=l[n]?
 |[],_=>rfl
 |_::_,0=>rfl
 |_::l,n+1=>by simpa[nth]using qR l n
def ixT{α:Type}(ts:List α):Int->Option α
 |.ofNat n=>nth ts n
 |.negSucc n=>nth ts.reverse n
theorem TX{α:Type}(ts:List α)(i:Int):ixT ts i=atI ts i:=by
 unfold ixT atI ixN;cases i with
 |ofNat n =>
  show nth ts n=_;rw[qR,ZY (show 0<=Int.ofNat n from Wp n)];by_cases h:n<ts.length
  .rw[ZY (by show(n:Int)<_;lia)];rfl
  .rw[ZZ (by show ¬(n:Int)<_;lia),aM (Nat.not_lt.mp h)];rfl
 |negSucc n =>
  show nth ts.reverse n=_;rw[qR,ZZ (by lia)];by_cases h:n<ts.length
  .rw[ZY (by lia),List.getElem?_reverse h];show _=ts[_]?;rw[show(Int.negSucc n+(ts.length:Int)).toNat=ts.length-1-n by lia]
  .rw[ZZ (by lia),aM (by rw[List.length_reverse];exact Up h)];rfl
theorem bU.ix{K:Frag}{F:Hp}{xs:Ε}{ts:List T}{i:Int}{t:T}(h:bU K F xs ts)(e:ixT ts i=some t):∃x,atI xs i=some x/\Rep K F x t:=by
 rw[TX]at e;unfold atI at e ⊢;rw[h.len];cases j:ixN ts.length i with
 |none=>rw[j]at e;cases e
 |some n=>rw[j]at e;exact h.at_ e
def oT{α:Type}(x:Option α)(q:α->Prop):Prop:=match x with|some t=>q t|none=>False
theorem ac5{α:Type}{x:Option α}{q:α->Prop}(h:oT x q):∃t,x=some t/\q t:=by
 cases x with
 |none=>exact h.elim
 |some t=>exact⟨t,rfl,h⟩
def gIx:zz
 |.tup ts,.int i,q=>oT (ixT ts i) λt=>q (.fz t)
 |.lst ts,.int i,q=>∃t,ixT ts i=some t/\q (.fz t)
 |.scr ts,.int i,q=>∃t,ixT ts i=some t/\q (.fz t)
 |.str s,.int i,q=>s.length<=sizeLine/\∃c,ixT s.cps.toList i=some c/\q (.fz (.str ⟨#[c]⟩))
 |_,_,_=>False
section
variable{X:Cx}{a b c e:Expr}{ra rb rc re:RE}{qa qb qc:RT}{pos p2:Pos}{lo hi:Option Expr}
theorem gix:IxR X (λx y H Q=>∃S t u R,(∀b,S b->H b≠none)/\Rep X.K (hd S H) x t/\Rep X.K (hd S H) y u/\gIx t u R/\∀H' v z,R z->Same H H'->NR X.K S H H' v z->Q v H'):=by
 refine(xq.or (ae0.or adT)).imp λx y H Q h=>?_;obtain⟨S,t,u,R,_,hx,hy,hg,k⟩:=h;cases u with
 |int i=>?_
 |_=>cases t<;>exact hg.elim
 cases hy;cases t with
 |any=>exact hg.elim
 |non=>exact hg.elim
 |bl _=>exact hg.elim
 |int _=>exact hg.elim
 |val _=>exact hg.elim
 |dct _ _=>exact hg.elim
 |ins _ _ _=>exact hg.elim
 |str s=>?_
 |tup ts=>?_
 |lst ts=>?_
 |scr ts=>?_
 .cases hx;obtain⟨z,c,e,q⟩:=hg;rw[TX]at e;exact .inr (.inr ⟨_,_,c,rfl,rfl,z,e,k H _ _ q (.refl _) (NR.fz (.str _))⟩)
 .obtain⟨p,xs,rfl,e,r⟩:=hx.tupI;obtain⟨t,j,q⟩:=ac5 hg;obtain⟨v,e',r'⟩:=r.ix j;exact .inr (.inl ⟨p,xs,i,v,rfl,rfl,cM.tup e,e',k H _ _ q (.refl _) (NR.fz r')⟩)
 .obtain⟨p,xs,rfl,e,r⟩:=hx.lstI;obtain⟨t,j,q⟩:=hg;obtain⟨v,e',r'⟩:=r.ix j;exact .inl ⟨p,xs,_,v,rfl,rfl,.of (cH e).2,e',k H _ _ q (.refl _) (NR.fz r')⟩
 .obtain⟨p,xs,rfl,e,r⟩:=hx.scrI;obtain⟨t,j,q⟩:=hg;obtain⟨v,e',r'⟩:=r.ix j;exact .inl ⟨p,xs,_,v,rfl,rfl,cM.seq e,e',k H _ _ q (.refl _) (NR.fz r')⟩
theorem bI(ha:QE X a ra)(hb:QE X b rb)(hs:sy b:=by exact λ_ _=>rfl):QE X (.Subscript a b pos) (rOp gIx ra rb):=(Jw gix ha hb hs).imp λ_ _ _=>q2
abbrev RO:=List OT->(Option Int->Prop)->Prop
def tQO(K:Frag)(r:RO):TO:=λσ H Q=>∃own o R,SR K own H σ o/\r o R/\∀H' b,R b->Same H H'->Q b H'
def QO(X:Cx)(e:Option Expr)(r:RO):Prop:=PO X e (tQO X.K r)
def al5:RO:=λ_ q=>q none
def ag2(a:RE):RO:=λo q=>a o λx=>match frz x with|.int i=>q (some i)|_=>False
theorem PO.imp{X:Cx}{e:Option Expr}{t t':TO}(h:PO X e t)(i:∀σ H Q,t' σ H Q->t σ H Q):PO X e t':=λaa s σ H Q I q=>h aa s σ H Q I (i σ H Q q)
theorem yU:QO X none al5:=aaM.imp λσ H Q hP=>by obtain⟨own,o,R,h,hr,k⟩:=hP;exact k H _ hr (.refl _)
theorem gq(h:QE X e re):QO X (some e) (ag2 re):=(abj h).imp λσ H Q ⟨own,o,R,h,hr,k⟩=>tQ.mk h hr λH1 v x q E1 r1=>by
 revert r1 q
 generalize frz x=t;intro q r1;cases r1<;>try exact q.elim
 exact⟨_,rfl,k _ _ q E1⟩
noncomputable def fH{α:Type}(xs:List α)(lo hi:Option Int):List α:=(xs.drop (HT.sIx xs.length 0 lo)).take (HT.sIx xs.length xs.length hi-HT.sIx xs.length 0 lo)
theorem bU.cut{K:Frag}{F:Hp}{xs:Ε}{ts:List T}(h:bU K F xs ts)(lo hi:Option Int):bU K F (Wv xs lo hi) (fH ts lo hi):=by
 unfold Wv fH;rw[h.len];exact(h.drop _).take _
def gSl:T->Option Int->Option Int->(OT->Prop)->Prop
 |.lst ts,lo,hi,q=>q (.l1 (fH ts lo hi))
 |.scr ts,lo,hi,q=>q (.l1 (fH ts lo hi))
 |.str s,lo,hi,q=>s.length<=sizeLine/\q (.fz (.str (Dp s lo hi)))
 |_,_,_,_=>False
def rSl(a:RE)(lo hi:RO):RE:=λo q=>a o λx=>lo o λl=>hi o λu=>gSl (frz x) l u q
theorem i_{rl rh:RO}(he:QE X e re)(hl:QO X lo rl)(hu:QO X hi rh):QE X (.Subscript e (.Slice lo hi none p2) pos) (rSl re rl rh):=(Zm (acR.or afW) he hl hu).imp λσ H Q ⟨own,o,R,h,hr,k⟩ =>
 tQ.mk h hr λH1 v x q E1 r1=>⟨own,o,_,h.same E1,q,λH2 l q E2=>⟨own,o,_,(h.same E1).same E2,q,λH3 u q E3=>by
  have E:=E1.trans (E2.trans E3);have r1:=r1.same (bN (E2.trans E3))
  revert r1 q
  generalize frz x=t;intro q r1;cases t<;>try exact q.elim
  .cases r1;exact .inr ⟨_,rfl,q.1,k _ _ _ q.2 E (NR.fz (.str _))⟩
  .obtain⟨p,xs,rfl,e,r⟩:=r1.lstI;exact .inl ⟨p,xs,rfl,.of (cH e).2,λa ha=>k _ _ _ q (E.trans (Same.upd ha)) ((yw (r.cut l u) (Same.upd ha) ha bW).back E)⟩
  .obtain⟨p,xs,rfl,e,r⟩:=r1.scrI;exact .inl ⟨p,xs,rfl,cM.seq e,λa ha=>k _ _ _ q (E.trans (Same.upd ha)) ((yw (r.cut l u) (Same.upd ha) ha bW).back E)⟩⟩⟩
end
section
variable{X:Cx}{e:Expr}{es:List Expr}{r:RA}{pos:Pos}
def ah2(r:RA):RE:=λo q=>r o λts=>q (.fz (.tup ts))
def ajz(r:RA):RE:=λo q=>r o λts=>q (.l1 ts)
theorem cT{k:Nat}(h:QA X es r)(hz:es.length<=sizeLine:=by decide):QE X (.Tuple es k pos) (ah2 r):=(YQ h).imp λσ H Q ⟨own,o,R,h,hr,k⟩=>tQA.mk h hr λH1 vs ts q ln E1 r1 =>
 ⟨by rw[r1.len,ln];exact hz,λp hp=>k _ _ _ q (E1.trans (Same.upd hp)) (NR.fz (.tup (.of (by rw[cI λz=>(h.sole z).ne (E1.free hp)];exact bW)) (r1.same (bN (Same.upd hp)))))⟩
theorem cY(h:QA X es r)(hz:es.length<=sizeLine:=by decide):QE X (.List es pos) (ajz r):=(aai h).imp λσ H Q ⟨own,o,R,h,hr,k⟩=>tQA.mk h hr λH1 vs ts q ln E1 r1 =>
 ⟨by rw[r1.len,ln];exact hz,λp hp=>k _ _ _ q (E1.trans (Same.upd hp)) ((yw r1 (Same.upd hp) hp bW).back E1)⟩
def GC(X:Cx)(f:Value)(g:ST):Prop:=h_ X f λxs H Q=>∃S ts R,(∀b,S b->H b≠none)/\bU X.K (hd S H) xs ts/\g ts R/\∀H' v z,R z->Same H H'->NR X.K S H H' v z->Q v H'
variable{x:Str}{p:Pos}{id Ty:String}{g:ST}
theorem bM(hc:GC X (.builtin id) g)(hg:Gl X x)(hm:X.mg x=none)(hv:bootBuiltins x=some (.builtin id))(ha:QA X (e::es) r)(hn:x≠"__name__":=by decide)(bu:qk x:=by decide)
 (he:qo X e es:=by rfl)(aS:qh X pos es:=by rfl):QE X (.Call (.Name x p) (e::es) [] pos) (Ze g r) :=
 (Qd hc hg hm hv ha hn bu he aS).imp λσ H Q hP=>by obtain⟨own,o,R,h,hr,k⟩:=hP;exact tQA.mk h hr λH1 vs ts q _ E1 r1=>⟨Ow own,ts,R,λb z=>((h.same E1).sole z).ne,r1,q,λH' v z rz E n=>k H' v z rz (E1.trans E) (n.back E1)⟩
theorem oZ(hc:GC X (.type Ty) g)(hg:Gl X x)(hm:X.mg x=none)(hv:bootBuiltins x=some (.type Ty))(ha:QA X (e::es) r)(hn:x≠"__name__":=by decide)(bu:qk x:=by decide)
 (he:qo X e es:=by rfl)(aS:qh X pos es:=by rfl):QE X (.Call (.Name x p) (e::es) [] pos) (Ze g r) :=
 (Wn hc hg hm hv ha hn bu he aS).imp λσ H Q hP=>by obtain⟨own,o,R,h,hr,k⟩:=hP;exact tQA.mk h hr λH1 vs ts q _ E1 r1=>⟨Ow own,ts,R,λb z=>((h.same E1).sole z).ne,r1,q,λH' v z rz E n=>k H' v z rz (E1.trans E) (n.back E1)⟩
theorem bU.one{K:Frag}{F:Hp}{xs:Ε}{t:T}(h:bU K F xs [t]):∃x,xs=[x]/\Rep K F x t:=by
 cases h with
 |cons a b=>cases b;exact⟨_,rfl,a⟩
theorem bU.two{K:Frag}{F:Hp}{xs:Ε}{t u:T}(h:bU K F xs [t,u]):∃x y,xs=[x,y]/\Rep K F x t/\Rep K F y u:=by
 cases h with
 |cons a b =>
  obtain⟨y,rfl,c⟩:=b.one;exact⟨_,y,rfl,a,c⟩
def g1(g:T->(OT->Prop)->Prop):ST:=λts q=>match ts with|[t]=>g t q|_=>False
theorem GC.one{f:Value}{g:T->(OT->Prop)->Prop}{r:Ε->Hp->VK->Prop}(h:h_ X f r)(i:∀S t x H Q R,Rep X.K (hd S H) x t->g t R->(∀H' v z,R z->Same H H'->NR X.K S H H' v z->Q v H')->r [x] H Q):GC X f (g1 g):=h.imp λxs H Q hP=>by
 obtain⟨S,ts,R,_,rs,hg,k⟩:=hP
 match ts,hg with
 |[t],hg =>
  obtain⟨x,rfl,rx⟩:=rs.one;exact i S t x H Q R rx hg k
def ak4:T->(OT->Prop)->Prop
 |.lst ts,q=>q (.fz (.int ts.length))
 |.tup ts,q=>q (.fz (.int ts.length))
 |.scr ts,q=>q (.fz (.int ts.length))
 |_,_=>False
theorem cJ:GC X (.builtin "len") (g1 ak4):=.one Nr λS t x H Q R rx hg k=>by
 cases t<;>try exact hg.elim
 .obtain⟨p,xs,rfl,e,r⟩:=rx.tupI;exact⟨p,xs,rfl,.inr (cM.tup e),k H _ _ hg (.refl _) (NR.fz (by rw[r.len];exact .int _))⟩
 .obtain⟨p,xs,rfl,e,r⟩:=rx.lstI;exact⟨p,xs,rfl,.inl (.of (cH e).2),k H _ _ hg (.refl _) (NR.fz (by rw[r.len];exact .int _))⟩
 .obtain⟨p,xs,rfl,e,r⟩:=rx.scrI;exact⟨p,xs,rfl,.inl (cM.seq e),k H _ _ hg (.refl _) (NR.fz (by rw[r.len];exact .int _))⟩
def amd:T->(OT->Prop)->Prop
 |.str s,q=>s.length<=sizeLine/\q (.fz (.int s.length))
 |_,_=>False
def al3:T->(OT->Prop)->Prop
 |.dct ks _,q=>q (.fz (.int ks.length))
 |_,_=>False
theorem V6:h_ X (.builtin "len") (λxs H Q=>∃p kvs,xs=[.ref p]/\Rd H p (.dK kvs)/\Q (.int kvs.length) H):=by
 intro aa s σ H xs us Q I r h;obtain⟨p,kvs,rfl,hp,q⟩:=h;obtain⟨u,rfl,rx⟩:=vals1 r;cases rx;have hok:kvs.length<=sizeLine/\(p==sysModules)=false/\∃vs,KV kvs vs/\s.heap.DictOf (iR X.prog X.w) p vs:=by
  rcases hp with hp|⟨o,hp⟩
  .exact I.hok p _ hp
  .exact(I.hok p _ hp).2
 obtain⟨hz,hS,vs,rr,m⟩:=hok;have hl:=uo;have a8:kvs.length=vs.length:=rr.length;exact call_len_dict hS m (by lia) ⟨.int kvs.length,H,I.tok _,⟨_,by rw[a8]⟩,q⟩
theorem Uv:GC X (.builtin "len") (g1 al3):=.one V6 λS t x H Q R rx hg k=>by
 cases t<;>try exact hg.elim
 obtain⟨p,xs,rfl,e,l,r⟩:=rx.dctI;exact⟨p,_,rfl,cM.rd e,k H _ _ hg (.refl _) (NR.fz (by rw[VT,l,UX];exact .int _))⟩
def alC:T->(OT->Prop)->Prop
 |.int i,q=>q (.fz (.int i.natAbs))
 |_,_=>False
theorem GR:GC X (.builtin "abs") (g1 alC):=.one ZW λS t x H Q R rx hg k=>by
 cases t<;>try exact hg.elim
 cases rx;exact⟨_,rfl,k H _ _ hg (.refl _) (NR.fz (by rw[aem];exact .int _))⟩
theorem bU.ints{K:Frag}{F:Hp} : ∀{xs:Ε}{ns:List Int},bU K F xs (ns.map T.int)->xs=ns.map V.int
 |_,[],.nil=>rfl
 |_,n::ns,.cons a b=>by cases a;rw[bU.ints b];rfl
theorem bU.bls{K:Frag}{F:Hp} : ∀{xs:Ε}{ns:List Bool},bU K F xs (ns.map T.bl)->xs=ns.map V.bl
 |_,[],.nil=>rfl
 |_,n::ns,.cons a b=>by cases a;rw[bU.bls b];rfl
theorem Cu{K:Frag}{F:Hp} : ∀(ns:List Int),bU K F (ns.map V.int) (ns.map T.int)
 |[]=>.nil
 |_::ns=>.cons (.int _) (Cu ns)
def alS:T->(OT->Prop)->Prop
 |.lst ts,q=>∃ns:List Int,ts=ns.map T.int/\q (.fz (.int ns.sum))
 |_,_=>False
theorem YZ(hc:X.calm=true):GC X (.builtin "sum") (g1 alS):=.one (W9 hc) λS t x H Q R rx hg k=>by
 cases t<;>try exact hg.elim
 obtain⟨p,xs,rfl,e,r⟩:=rx.lstI;obtain⟨ns,rfl,q⟩:=hg;exact⟨p,ns,rfl,(r.ints ▸ (cH e).2),k H _ _ q (.refl _) (NR.fz (.int _))⟩
def al8(f:List Bool->Bool):T->(OT->Prop)->Prop
 |.lst ts,q=>∃bs:List Bool,ts=bs.map T.bl/\q (.fz (.bl (f bs)))
 |_,_=>False
theorem YS(hc:X.calm=true):GC X (.builtin "all") (g1 (al8 λbs=>bs.all λb=>b)):=.one (V5 hc) λS t x H Q R rx hg k=>by
 cases t<;>try exact hg.elim
 obtain⟨p,xs,rfl,e,r⟩:=rx.lstI;obtain⟨ns,rfl,q⟩:=hg;exact⟨p,ns,rfl,(r.bls ▸ (cH e).2),k H _ _ q (.refl _) (NR.fz (.bl _))⟩
def amy:T->(OT->Prop)->Prop
 |.lst ts,q=>∃ns:List Int,ts=ns.map T.int/\ns.length<64/\∀ms:List Int,ms.Perm ns->ms.Pairwise (· <= ·)->q (.l1 (ms.map T.int))
 |_,_=>False
theorem WT:GC X (.builtin "sorted") (g1 amy):=.one V8 λS t x H Q R rx hg k=>by
 cases t<;>try exact hg.elim
 obtain⟨p,xs,rfl,e,r⟩:=rx.lstI;obtain⟨ns,rfl,l,q⟩:=hg;exact⟨p,ns,rfl,(r.ints ▸ (cH e).2),l,λms a ha m1 m2=>k _ _ _ (q ms m1 m2) (Same.upd ha) (yw (Cu ms) (Same.upd ha) ha bW)⟩
def aj2:T->(OT->Prop)->Prop
 |.lst ts,q=>q (.l1 ts)
 |_,_=>False
theorem Es:GC X (.type "list") (g1 aj2):=.one Ss λS t x H Q R rx hg k=>by
 cases t<;>try exact hg.elim
 obtain⟨p,xs,rfl,e,r⟩:=rx.lstI;exact⟨p,xs,rfl,(cH e).2,λa ha=>k _ _ _ hg (Same.upd ha) (yw r (Same.upd ha) ha bW)⟩
def amE:T->(OT->Prop)->Prop
 |.int i,q=>q (.fz (.int i))
 |.bl b,q=>q (.fz (.int (if b then 1 else 0)))
 |_,_=>False
theorem afQ:GC X (.type "int") (g1 amE):=.one WY λS t x H Q R rx hg k=>by
 cases t<;>try exact hg.elim
 .cases rx;exact .inr ⟨_,rfl,k H _ _ hg (.refl _) (NR.fz (.int _))⟩
 .cases rx;exact .inl ⟨_,rfl,k H _ _ hg (.refl _) (NR.fz (.int _))⟩
inductive Knd where
 |int|bool|str|list|tuple
noncomputable def Knd.s:Knd->String
 |.int=>"int"
 |.bool=>"bool"
 |.str=>"str"
 |.list=>"list"
 |.tuple=>"tuple"
noncomputable def isK:Knd->T->Option Bool
 |.int,.int _=>some true
 |.int,.bl _=>some true
 |.bool,.bl _=>some true
 |.str,.str _=>some true
 |.list,.lst _=>some true
 |.tuple,.tup _=>some true
 |_,.any=>none
 |_,.val _=>none
 |_,.scr _=>none
 |_,.ins _ _ _=>none
 |_,.dct _ _=>none
 |_,_=>some false
theorem adQ(kd:Knd):GC X (.builtin "isinstance") (λts q=>match ts with|[t,.val v]=>v=.ty kd.s/\oT (isK kd t) λb=>q (.fz (.bl b))|_=>False):=by
 intro aa s σ H xs us Q I rs h;obtain⟨S,ts,R,_,rp,hg,k⟩:=h
 match ts,hg with
 |[t,.val v],hg =>
  obtain⟨x,y,rfl,rx,ry⟩:=rp.two;cases ry;obtain⟨rfl,hg⟩:=hg;obtain⟨b,j,q⟩:=ac5 hg;have hk:kd.s∈["bool","int","str","list","tuple","dict"]:=by cases kd<;>decide
  cases t with
  |tup ts =>
   obtain⟨p,ys,rfl,e,r⟩:=rx.tupI;have eb:b=Nh "tuple" kd.s:=by cases kd<;>cases j<;>decide
   exact Ph aa s σ H _ us Q I rs ⟨p,kd.s,ys,rfl,hk,cM.tup e,k H _ _ q (.refl _) (NR.fz (eb ▸ .bl _))⟩
  |lst ts =>
   obtain⟨p,ys,rfl,e,r⟩:=rx.lstI;have eb:b=Nh "list" kd.s:=by cases kd<;>cases j<;>decide
   exact uK aa s σ H _ us Q I rs ⟨_,kd.s,"list",rfl,hk,by show(match H p with|some (.lst _)=>some "list" |some (.tup _)=>some "tuple" |some (.dK _)=>some "dict" |_=>none)=_;rw[(cH e).2],k H _ _ q (.refl _) (NR.fz (eb ▸ .bl _))⟩
  |non =>
   cases rx;have eb:b=Nh "NoneType" kd.s:=by cases kd<;>cases j<;>decide
   exact uK aa s σ H _ us Q I rs ⟨_,kd.s,"NoneType",rfl,hk,rfl,k H _ _ q (.refl _) (NR.fz (eb ▸ .bl _))⟩
  |bl c =>
   cases rx;have eb:b=Nh "bool" kd.s:=by cases kd<;>cases j<;>decide
   exact uK aa s σ H _ us Q I rs ⟨_,kd.s,"bool",rfl,hk,rfl,k H _ _ q (.refl _) (NR.fz (eb ▸ .bl _))⟩
  |int i =>
   cases rx;have eb:b=Nh "int" kd.s:=by cases kd<;>cases j<;>decide
   exact uK aa s σ H _ us Q I rs ⟨_,kd.s,"int",rfl,hk,rfl,k H _ _ q (.refl _) (NR.fz (eb ▸ .bl _))⟩
  |str c =>
   cases rx;have eb:b=Nh "str" kd.s:=by cases kd<;>cases j<;>decide
   exact uK aa s σ H _ us Q I rs ⟨_,kd.s,"str",rfl,hk,rfl,k H _ _ q (.refl _) (NR.fz (eb ▸ .bl _))⟩
  |_=>cases kd<;>cases j
def ak9(kd:Knd)(a:RE):RE:=λo q=>a o λx=>oT (isK kd (frz x)) λb=>q (.fz (.bl b))
theorem pR(kd:Knd){a:Expr}{ra:RE}{y:Str}{p2:Pos}(ha:QE X a ra)(hg:Gl X "isinstance")(hm:X.mg "isinstance"=none)(hg2:Gl X y)(kq:X.mg y=none)(lP:bootBuiltins y=some (.type kd.s))(im:y≠"__name__":=by decide)(m3:qk y:=by decide)
 (he:starEach (a::[.Name y p2]) X.env=(false,eval a X.env)::starEach [.Name y p2] X.env:=by rfl):QE X (.Call (.Name "isinstance" p) [a,.Name y p2] [] pos) (ak9 kd ra) :=
 (Qd (adQ kd) hg hm boot_isinstance (cN ha (cN (aaU (v:=.ty kd.s) hg2 kq lP rfl im m3) lA) he) (by decide) (by decide) he).imp λσ H Q ⟨own,o,R,h,hr,k⟩=>tQ.mk h hr λH1 v x q E1 r1 =>
  ⟨Ow own,[frz x,.val (.ty kd.s)],R,λb z=>((h.same E1).sole z).ne,.cons r1 (.cons (.val _) .nil),⟨rfl,q⟩,λH' v z rz E n=>k H' v z rz (E1.trans E) (n.back E1)⟩
end
structure DT where
 nx:List OT->Prop
 rt:OT->Prop
 bk:List OT->Prop:=λ_=>False
 ct:List OT->Prop:=λ_=>False
 xc:Addr->Θ->List T->Prop:=λ_ _ _=>False
abbrev RS:=DT->List OT->Prop
def zx(X:Cx):XK:=λC d H'=>(∀aa σ H s a s' B,Inv X aa σ H s->Fly X.prog X.w X.stack H s a C H' s' B d->X.xe (.ref a) s') /\
 ∀aa σ H s a c,C=.ref c->Inv X aa σ H s->H a=some (XN a c d)->X.s₀.heap.objs.size<=a->out H a=H'->X.xe (.ref a) s
structure Lnk(K:Frag)(Z:XK)(F:Hp)(E:DT)(D:Ends):Prop where
 nx:∀own H σ o,E.nx o->Same F (hd (Ow own) H)->SR K own H σ o->D.nx σ H
 rt:∀S H v x B,E.rt x->Same F (hd S H)->Slo K (hd S H) H (some v) B x->(∀a∈B,S a)->D.rt v H
 bk:∀own H σ o,E.bk o->Same F (hd (Ow own) H)->SR K own H σ o->D.bk σ H
 ct:∀own H σ o,E.ct o->Same F (hd (Ow own) H)->SR K own H σ o->D.ct σ H
 xc:∀H C d ks vs ts,E.xc C ks ts->Same F H->H d=some (.xd (ks.zip vs))->bU K H vs ts->Z (.ref C) (some d) H
theorem Lnk.step{K:Frag}{Z:XK}{F F':Hp}{E:DT}{D:Ends}(h:Lnk K Z F E D)(S:Same F F'):Lnk K Z F' E D :=
 ⟨λown H σ o e s=>h.nx own H σ o e (S.trans s),λT H v x B e s=>h.rt T H v x B e (S.trans s),λown H σ o e s=>h.bk own H σ o e (S.trans s),λown H σ o e s=>h.ct own H σ o e (S.trans s),λH C d ks vs ts e s=>h.xc H C d ks vs ts e (S.trans s)⟩
def tQS(X:Cx)(r:RS):TS:=λD σ H=>∃own o E,SR X.K own H σ o/\r E o/\Lnk X.K (zx X) (hd (Ow own) H) E D
def QS(X:Cx)(st:Stmt)(r:RS):Prop:=PS X st (tQS X r)
def QSs(X:Cx)(st:List Stmt)(r:RS):Prop:=PSs X st (tQS X r)
theorem PS.imp{X:Cx}{st:Stmt}{t t':TS}(h:PS X st t)(i:∀D σ H,t' D σ H->t D σ H):PS X st t':=λaa s σ H D I q=>h aa s σ H D I (i D σ H q)
theorem PSs.imp{X:Cx}{st:List Stmt}{t t':TS}(h:PSs X st t)(i:∀D σ H,t' D σ H->t D σ H):PSs X st t':=λaa s σ H D I q=>h aa s σ H D I (i D σ H q)
def ajg:RS:=λE o=>E.nx o
def jw(a b:RS):RS:=λE o=>a { E with nx:=b E } o
def ais(i:Nat)(a:RE):RS:=λE o=>a o λx=>E.nx (o.set i (.fz (frz x)))
def afN(i:Nat)(a:RE):RS:=λE o=>a o λx=>E.nx (o.set i x)
def agN(a:RE):RS:=λE o=>a o λ_=>E.nx o
def ali(a:RE):RS:=λE o=>a o E.rt
def ac1(i:Nat):RS:=λE o=>match slot o i with|.und=>False|x=>E.rt x
def ajw(c:RT)(a b:RS):RS:=λE o=>c o λk=>sw k (a E o) (b E o)
def aeb:RS:=λ_ _=>False
def ajX(i:Nat)(a:RS):RS:=λE o=>match slot o i with|.und=>False|x=>a E (o.set i (.fz (frz x)))
section
variable{K:Frag}{own:zk}{H H':Hp}{σ:L2.St}{o:List OT}
theorem SR.putA(h:SR K own H σ o)(E:Same H H'){v:V}{x:OT}(n:NR K (Ow own) H H' v x)(i:Nat):∃am,SR K am H' (σ.set i (some v)) (o.set i x)/\Same (hd (Ow own) H) (hd (Ow am) H'):=by
 by_cases hi:i<o.length
 .exact h.put E n hi
 .rw[Zzx (Nat.not_lt.mp hi),Zzx (h.len ▸ Nat.not_lt.mp hi)];exact⟨own,h.same E,bN E⟩
theorem NR.frz{S:Addr->Prop}{v:V}{x:OT}(n:NR K S H H' v x)(hs:∀b,S b->H b≠none):NR K S H H' v (.fz (L2.frz x)):=NR.fz (n.rep hs)
theorem Slo.val{F:Hp}{v:Option V}{A:Φ}{x:OT}(h:Slo K F H v A x)(n:x≠.und):∃u,v=some u:=by
 cases x with
 |und=>exact absurd rfl n
 |fz t=>exact⟨_,h.2.choose_spec.1⟩
 |l1 ts=>obtain⟨a,xs,e,_⟩:=h;exact⟨_,e⟩
 |l2 ts=>obtain⟨a,xs,e,_⟩:=h;exact⟨_,e⟩
 |d1 ks ts=>obtain⟨a,xs,e,_⟩:=h;exact⟨_,e⟩
 |ob a d C ks ts=>obtain⟨xs,e,_⟩:=h;exact⟨_,e⟩
 |la a ts=>obtain⟨xs,e,_⟩:=h;exact⟨_,e⟩
theorem SR.val(h:SR K own H σ o){i:Nat}{x:OT}(e:slot o i=x)(n:x≠.und):∃u,σ[i]?=some (some u)/\Slo K (hd (Ow own) H) H (some u) (own i) x:=by
 have s:=h.sl i x (gR e n);obtain⟨u,hu⟩:=s.val n;rw[hu]at s;refine⟨u,?_,s⟩;cases z:σ[i]? with
 |none=>rw[z]at hu;cases hu
 |some w=>rw[z]at hu;exact ZH some hu
end
section
variable{X:Cx}{st:Stmt}{sts:List Stmt}{a b:RS}{e:Expr}{re:RE}{pos:Pos}
theorem bQ:QSs X [] ajg:=Vb.imp λD σ H hP=>by obtain⟨own,o,E,h,hr,L⟩:=hP;exact L.nx own H σ o hr (.refl _) h
theorem amA{D:Ends}{σ:L2.St}{H:Hp}(h:tQS X (jw a b) D σ H):WW (tQS X a) (tQS X b) D σ H:=by
 obtain⟨own,o,E,h,hr,L⟩:=h;exact⟨own,o,_,h,hr,λam H' σ' o' q S h'=>⟨am,o',E,h',q,L.step S⟩,L.rt,L.bk,L.ct,L.xc⟩
theorem bC(h1:QS X st a)(h2:QSs X sts b):QSs X (st::sts) (jw a b):=(uL h1 h2).imp λ_ _ _=>amA
theorem bG(h:QS X st a):QSs X [st] a:=rY h
theorem bO(i:Nat){x:Str}{aI:Pos}(hN:X.N.Nodup)(hx:Loc X.env.scope x)(he:QE X e re)(hi:X.N[i]?=some x:=by rfl)(hs:swapsWith e (some (.Name x aI)) pos.line X.env=pure false:=by rfl)(hf:qi X x:=by first|exact .inl rfl|exact .inr rfl|assumption) :
  QS X (.Assign [.Name x aI] e pos) (ais i re):=(Xu hN hi hx he hs hf).imp λD σ H ⟨own,o,E,h,hr,L⟩=>⟨own,o,_,h,hr,λH' v y q S n=>by
 obtain⟨am,h',S'⟩:=h.putA S (n.frz λb z=>(h.sole z).ne) i;exact L.nx am H' _ _ q S' h'⟩
theorem jz(i:Nat){x:Str}{aI:Pos}(hN:X.N.Nodup)(hx:Loc X.env.scope x)(he:QE X e re)(hi:X.N[i]?=some x:=by rfl)(hs:swapsWith e (some (.Name x aI)) pos.line X.env=pure false:=by rfl)(hf:qi X x:=by first|exact .inl rfl|exact .inr rfl|assumption) :
  QS X (.Assign [.Name x aI] e pos) (afN i re):=(Xu hN hi hx he hs hf).imp λD σ H ⟨own,o,E,h,hr,L⟩=>⟨own,o,_,h,hr,λH' v y q S n=>by
 obtain⟨am,h',S'⟩:=h.putA S n i;exact L.nx am H' _ _ q S' h'⟩
theorem mG(he:QE X e re)(hs:swapsWith e none pos.line X.env=pure false:=by rfl):QS X (.Expr e pos) (agN re):=(jV he hs).imp λD σ H hP=>by obtain⟨own,o,E,h,hr,L⟩:=hP;exact⟨own,o,_,h,hr,λH' v y q S n=>L.nx own H' σ o q (bN S) (h.same S)⟩
theorem bL(he:QE X e re):QS X (.Return (some e) pos) (ali re):=(Cz he).imp λD σ H ⟨own,o,E,h,hr,L⟩=>⟨own,o,_,h,hr,λH' v y q S n=>by
 obtain⟨B,nb,s⟩:=n;exact L.rt _ H' v y B q (fL (λb z=>z.imp id (nb b)) S) s λa ha=>.inr ha⟩
theorem oK(i:Nat){x:Str}{p:Pos}(hN:X.N[i]?=some x:=by rfl)(hv:qF X.env.scope x=true:=by rfl)(hd:qk x:=by decide)(a9:qf x:=by decide):QS X (.Return (some (.Name x p)) pos) (ac1 i):=(Cz (pv i hN hv hd a9)).imp λD σ H hP=>by
 obtain⟨own,o,E,h,hr,L⟩:=hP;have hr:E.rt (slot o i)/\slot o i≠.und:=by
  unfold ac1 at hr;cases e:slot o i<;>rw[e]at hr<;>first|exact hr.elim|exact⟨hr,λz=>by cases z⟩
 obtain⟨u,e,s⟩:=h.val rfl hr.2;exact⟨u,e,L.rt (Ow own) H u _ _ hr.1 (.refl _) s λa ha=>⟨i,ha⟩⟩
theorem cB{c:Expr}{ss ts:List Stmt}{qc:RT}(hc:QT X c qc)(ha:QSs X ss a)(hb:QSs X ts b):QS X (.If c ss ts pos) (ajw qc a b):=(adh hc ha hb).imp λD σ H ⟨own,o,E,h,hr,L⟩=>tQT.mk h hr λH1 c q E1 =>
 Gx q (λq=>⟨own,o,E,h.same E1,q,L.step (bN E1)⟩) λq=>⟨own,o,E,h.same E1,q,L.step (bN E1)⟩
theorem eU:QS X st aeb:=aad.imp λD σ H hP=>by obtain⟨own,o,E,h,hr,L⟩:=hP;exact hr
theorem GD(i:Nat)(hs:QS X st a):QS X st (ajX i a):=PS.imp hs λD σ H hP=>by
 obtain⟨own,o,E,h,hr,L⟩:=hP;have hr:a E (o.set i (.fz (frz (slot o i))))/\slot o i≠.und:=by
  unfold ajX at hr;cases e:slot o i<;>rw[e]at hr<;>first|exact hr.elim|exact⟨hr,λz=>by cases z⟩
 obtain⟨u,e1,s⟩:=h.val rfl hr.2;obtain⟨am,h',S⟩:=h.frz (gR rfl hr.2) e1;exact⟨am,_,E,h',hr.1,L.step S⟩
theorem vg{S:Addr->Prop}{H:Hp}{D:Addr}{u:HO}(h:S D):hd S (upd H D u)=hd S H:=funext λb=>by
 by_cases z:S b
 .rw[m_ z,m_ z]
 .rw[cI z,cI z,bR λ(e:b=D)=>z (e.symm ▸ h)]
noncomputable def asL:OT->Option (List T×(List T->OT))
 |.l1 ts=>some (ts,.l1)
 |.la a ts=>some (ts,.la a)
 |_=>none
def onL(x:OT)(k:List T->(List T->OT)->Prop):Prop:=match asL x with|some (ts,c)=>k ts c|none=>False
theorem Cq{x:OT}{k:List T->(List T->OT)->Prop}(h:onL x k):∃ts c,k ts c/\((x=.l1 ts/\c=.l1)\/∃a,x=.la a ts/\c=.la a):=by
 cases x with
 |l1 ts=>exact⟨ts,_,h,.inl ⟨rfl,rfl⟩⟩
 |la a ts=>exact⟨ts,_,h,.inr ⟨a,rfl,rfl⟩⟩
 |_=>exact h.elim
def amo(i:Nat)(a:RE):RS:=λE o=>onL (slot o i) λts c=>a o λy=>ts.length<sizeLine/\E.nx (o.set i (c (ts++[frz y])))
theorem SR.l1{K:Frag}{own:zk}{H:Hp}{σ:L2.St}{o:List OT}(h:SR K own H σ o){i:Nat}{ts:List T}{c:List T->OT}(e:(slot o i=.l1 ts/\c=.l1)\/∃a,slot o i=.la a ts/\c=.la a):∃l xs,σ[i]?=some (some (.ref l))/\own i=[l]/\H l=some (.lst xs)/\bU K (hd (Ow own) H) xs ts/\∀(H':Hp)(ys:Ε)us,H' l=some (.lst ys)->bU K (hd (Ow own) H') ys us->Slo K (hd (Ow own) H') H' (some (.ref l)) [l] (c us):=by
 rcases e with⟨e,rfl⟩|⟨a,e,rfl⟩
 .obtain⟨u,e1,l,xs,e2,e3,e4,r⟩:=h.val e (by intro z;cases z);cases e2;exact⟨l,xs,e1,e3,e4,r,λH' ys us a b=>⟨l,ys,rfl,rfl,a,b⟩⟩
 .obtain⟨u,e1,xs,e2,e3,e4,r⟩:=h.val e (by intro z;cases z);cases e2;exact⟨a,xs,e1,e3,e4,r,λH' ys us a b=>⟨ys,rfl,rfl,a,b⟩⟩
theorem Hu{o:List OT}{i:Nat}{ts:List T}{c:List T->OT}(e:(slot o i=.l1 ts/\c=.l1)\/∃a,slot o i=.la a ts/\c=.la a):∃x,o[i]?=some x:=by
 rcases e with⟨e,_⟩|⟨a,e,_⟩
 .exact⟨_,gR e (by intro z;cases z)⟩
 .exact⟨_,gR e (by intro z;cases z)⟩
theorem SR.chg1{K:Frag}{own:zk}{H:Hp}{σ:L2.St}{o:List OT}(h:SR K own H σ o){i:Nat}{us:List T}{c:List T->OT}(e:∃x,o[i]?=some x){l:Addr}{ys:Ε}(eσ:σ[i]?=some (some (.ref l)))(eo:own i=[l])(sl:∀(H':Hp)(ys:Ε)us,H' l=some (.lst ys)->bU K (hd (Ow own) H') ys us->Slo K (hd (Ow own) H') H' (some (.ref l)) [l] (c us))(r:bU K (hd (Ow own) H) ys us):SR K own (upd H l (.lst ys)) σ (o.set i (c us))/\Same (hd (Ow own) H) (hd (Ow own) (upd H l (.lst ys))):=by
 obtain⟨x,e⟩:=e;refine h.chg e (λb u hb e=>(bR λz=>hb (by rw[eo,z];simp)).trans e) ?_;rw[eσ,eo];exact sl _ ys us bW (by rw[vg ⟨i,by rw[eo];simp⟩];exact r)
theorem wg(i:Nat){x:Str}{ai ag p:Pos}(he:QE X e re)(hN:X.N[i]?=some x:=by rfl)(hv:qF X.env.scope x=true:=by rfl)(bv:qk x:=by decide)(a9:qf x:=by decide)
 (hb:attributeBase (.Name x p) "append" X.env (eval (.Name x p) X.env)=eval (.Name x p) X.env:=by rfl)
 (hf:qr X ag e:=by rfl)
 (hl:zw ai ag:=by rfl)(bE:qo X e []:=by rfl)(hp:qh X ag []:=by rfl)
 (hs:swapsWith (.Call (.Attribute (.Name x p) "append" ai) [e] [] ag) none pos.line X.env=pure false:=by rfl) :
  QS X (.Expr (.Call (.Attribute (.Name x p) "append" ai) [e] [] ag) pos) (amo i re):=(jV (RM (pv i hN hv bv a9) (cN he lA bE) hb hf hl bE hp) hs).imp λD σ H hP=>by
 obtain⟨own,o,E,h,hr,L⟩:=hP;obtain⟨ts,c,hr,es⟩:=Cq hr;obtain⟨l,xs,e1,e2,e3,r,sl⟩:=h.l1 es;refine⟨_,e1,l,xs,rfl,e3,tQ.mk h hr λH1 v y q E1 r1=>⟨v,xs,rfl,E1 _ _ e3,by rw[r.len];exact q.1,?_⟩⟩;obtain⟨h',S⟩:=(h.same E1).chg1 (Hu es) e1 e2 sl ((r.same (bN E1)).app (.cons r1 .nil));exact L.nx own _ σ _ q.2 ((bN E1).trans S) h'
def ak1(i:Nat)(a b:RE):RS:=λE o=>onL (slot o i) λts c=>a o λy=>b o λk=>(match frz k with|.int j=>∃n,ixN ts.length j=some n/\E.nx (o.set i (c (ts.set n (frz y))))|_=>False)
theorem uq(i:Nat){x:Str}{k:Expr}{rk:RE}{ax p:Pos}(he:QE X e re)(hk:QE X k rk)(hN:X.N[i]?=some x:=by rfl)(hv:qF X.env.scope x=true:=by rfl)(bv:qk x:=by decide)(a9:qf x:=by decide)
 (ha:∀v,assign (.Subscript (.Name x p) k ax) X.env v=(do
   let ov <- holding [v] (eval (.Name x p) X.env)
   let iv <- holding [v,ov] (eval k X.env)
   standAt ax
   holding [v,ov,iv] (setItem ov iv v)
   release [v,ov,iv] []):=by intro _;rfl)
 (hs:swapsWithSole [.Subscript (.Name x p) k ax] e pos.line X.env=pure false:=by rfl)(hw:swappedStores [.Subscript (.Name x p) k ax] e X.env=pure none:=by rfl)
 (h1:(assignEach [.Subscript (.Name x p) k ax] X.env).map (·.2)=[assign (.Subscript (.Name x p) k ax) X.env]:=by rfl):QS X (.Assign [.Subscript (.Name x p) k ax] e pos) (ak1 i re rk):=(Tt he (Xg (pv i hN hv bv a9) hk set_list ha) hs hw h1).imp λD σ H hP=>by
 obtain⟨own,o,E,h,hr,L⟩:=hP;obtain⟨ts,c,hr,es⟩:=Cq hr;obtain⟨l,xs,e1,e2,e3,r,sl⟩:=h.l1 es;refine tQ.mk h hr λH1 v y q E1 r1=>⟨_,e1,tQ.mk (h.same E1) q λH2 w z q E2 r2=>?_⟩;have r1:=r1.same (bN E2)
 revert r2 q
 generalize frz z=t;intro q r2;cases t<;>try exact q.elim
 cases r2;obtain⟨n,en,q⟩:=q;have bX:=E1.trans E2;refine⟨l,xs,_,n,rfl,rfl,bX _ _ e3,by rw[r.len];exact en,?_⟩;obtain⟨h',S⟩:=(h.same bX).chg1 (Hu es) e1 e2 sl (bU.set r1 n (r.same (bN bX)));exact L.nx own _ σ _ q ((bN bX).trans S) h'
def amk(i:Nat)(b:RE):RE:=λo q=>onL (slot o i) λts _=>b o λy=>(match frz y with|.int j=>∃t,ixT ts j=some t/\q (.fz t)|_=>False)
theorem yt(i:Nat){x:Str}{p:Pos}{b:Expr}{rb:RE}(hb:QE X b rb)(hN:X.N[i]?=some x:=by rfl)(hv:qF X.env.scope x=true:=by rfl)(bv:qk x:=by decide)
 (a9:qf x:=by decide)(hs:sy b:=by exact λ_ _=>rfl):QE X (.Subscript (.Name x p) b pos) (amk i rb):=(Jw xq (pv i hN hv bv a9) hb hs).imp λσ H Q hP=>by
 obtain⟨own,o,R,h,hr,k⟩:=hP;obtain⟨ts,c,hr,es⟩:=Cq hr;obtain⟨a,xs,e1,e2,e3,r,sl⟩:=h.l1 es;refine⟨_,e1,tQ.mk h hr λH1 v y q E1 r1=>?_⟩
 revert r1 q
 generalize frz y=t;intro q r1;cases t<;>try exact q.elim
 cases r1;obtain⟨t,j,q⟩:=q;obtain⟨v,e',r'⟩:=r.ix j;exact⟨a,xs,_,v,rfl,rfl,.of (E1 _ _ e3),e',k H1 _ _ q E1 (NR.fz (r'.same (bN E1)))⟩
def adv(i:Nat)(f:Int->Int->Int)(a:RE):RS:=λE o=>match slot o i with|.fz (.int k)=>a o λy=>(match frz y with|.int j=>E.nx (o.set i (.fz (.int (f k j))))|_=>False)|_=>False
theorem adV(i:Nat){x:Str}{op:Operator}{f:Int->Int->Int}{aI:Pos}(hN:X.N.Nodup)(hx:Loc X.env.scope x)(ho:PIp X op (ipI f))(he:QE X e re)(hi:X.N[i]?=some x:=by rfl)(hf:qi X x:=by first|exact .inl rfl|exact .inr rfl|assumption):QS X (.AugAssign (.Name x aI) op e pos) (adv i f re):=(aej hN hi hx he ho hf).imp λD σ H hP=>by
 obtain⟨own,o,E,h,hr,L⟩:=hP;unfold adv at hr;cases es:slot o i with
 |fz t =>
  rw[es]at hr;cases t<;>try exact hr.elim
  obtain⟨u,e1,r⟩:=h.get (gR es (by intro z;cases z));cases r;refine⟨_,e1,tQ.mk h hr λH1 v y q E1 r1=>?_⟩
  revert r1 q
  generalize frz y=t;intro q r1;cases t<;>try exact q.elim
  cases r1;refine⟨_,_,rfl,rfl,?_⟩;obtain⟨am,h',S⟩:=(h.same E1).putA (.refl _) (NR.fz (.int _)) i;exact L.nx am _ _ _ q ((bN E1).trans S) h'
 |_=>rw[es]at hr;exact hr.elim
def BW(n:Nat)(own am:zk)(σ σ':L2.St):Prop:=(∀j,am j=own j\/(j<n/\am j=[]))/\σ'.length=σ.length/\∀j,n<=j->σ'[j]?=σ[j]?
theorem BW.refl{n:Nat}{own:zk}{σ:L2.St} : BW n own own σ σ:=⟨λ_=>.inl rfl,rfl,λ_ _=>rfl⟩
theorem BW.trans{n:Nat}{own own1 b5:zk}{σ σ1 σ2:L2.St}(a:BW n own own1 σ σ1)(b:BW n own1 b5 σ1 σ2):BW n own b5 σ σ2 :=
 ⟨λj=>(b.1 j).elim (λe=>(a.1 j).imp (λz=>e.trans z) λz=>⟨z.1,e.trans z.2⟩) .inr,b.2.1.trans a.2.1,λj hj=>(b.2.2 j hj).trans (a.2.2 j hj)⟩
theorem BW.same{n:Nat}{own am:zk}{σ σ':L2.St}(a:BW n own am σ σ'){H:Hp} : Same (hd (Ow own) H) (hd (Ow am) H):=fL (λb hP=>by obtain⟨j,z⟩:=hP;exact .inl ⟨j,(a.1 j).elim (λe=>e ▸ z) λe=>by rw[e.2]at z;cases z⟩) λ_ _ z=>z
abbrev qE:Type:=T->List OT->(List OT->Prop)->Prop
def tQG(K:Frag)(n:Nat)(g:qE):TG:=λv σ H Q=>∃own o t R,SR K own H σ o/\Rep K (hd (Ow own) H) v t/\g t o R/\∀am σ' o',R o'->BW n own am σ σ'->SR K am H σ' o'->Q σ' H
def QG(X:Cx)(n:Nat)(tg:Expr)(g:qE):Prop:=PG X tg (tQG X.K n g)
abbrev qA:Type:=List T->List OT->(List OT->Prop)->Prop
def QGs(X:Cx)(n:Nat)(tg:List Expr)(g:qA):Prop:=PGs X tg λv σ H Q=>∃own o t R,SR X.K own H σ o/\bU X.K (hd (Ow own) H) v t/\g t o R/\∀am σ' o',R o'->BW n own am σ σ'->SR X.K am H σ' o'->Q σ' H
theorem PGs.imp{tg:List Expr}{t t':TGs}(h:PGs X tg t)(i:∀v σ H Q,t' v σ H Q->t v σ H Q):PGs X tg t':=λaa s σ H v u Q I r q=>h aa s σ H v u Q I r (i _ _ _ _ q)
noncomputable def hName(i:Nat):qE:=λt o q=>q (o.set i (.fz t))
noncomputable def akZ:qA:=λts o q=>match ts with|[]=>q o|_=>False
noncomputable def agO(g:qE)(gs:qA):qA:=λts o q=>match ts with|t::ts=>g t o λo'=>gs ts o' q|_=>False
noncomputable def alx(n:Nat)(gs:qA):qE:=λt o q=>match t with|.tup ts=>ts.length=n/\gs ts o q|_=>False
theorem SR.setF{K:Frag}{own:zk}{H:Hp}{σ:L2.St}{o:List OT}(h:SR K own H σ o){v:V}{t:T}(r:Rep K (hd (Ow own) H) v t){n i:Nat}(hi:i<n):∃am,SR K am H (σ.set i (some v)) (o.set i (.fz t))/\BW n own am σ (σ.set i (some v)):=by
 have le:Same (hd (Ow own) H) (hd (Ow (own1 own i [])) H):=fL (λb z=>.inl (z.of1.elim id λy=>(nomatch y))) λ_ _ z=>z;have go:BW n own (own1 own i []) σ (σ.set i (some v)):=⟨λj=>by
  by_cases z:j=i
  .exact .inr ⟨z ▸ hi,by rw[z,iW]⟩
  .exact .inl (eF z),VZ,λj hj=>VW (by lia)⟩
 by_cases hl:i<o.length
 .refine⟨own1 own i [],⟨by rw[VZ,VZ,h.len],λj y e=>?_,λj hj a ha=>?_,λj k a e1 e2=>?_⟩,go⟩
  .by_cases z:j=i
   .subst z;rw[UY hl]at e;cases e;rw[iW,UY (h.len ▸ hl)];exact⟨rfl,v,rfl,r.same le⟩
   .rw[VW (Ne.symm z)]at e;rw[eF z,VW (Ne.symm z)];exact(h.sl j y e).same le λ_ _ z=>z
  .rw[VZ]at hj;rw[eF (by lia)]at ha;exact h.out j hj a ha
  .by_cases z:j=i
   .rw[z,iW]at e1;cases e1
   by_cases y:k=i
   .rw[y,iW]at e2;cases e2
   .rw[eF z]at e1;rw[eF y]at e2;exact h.dis j k a e1 e2
 .refine⟨own,?_,⟨λ_=>.inl rfl,go.2⟩⟩;rw[Zzx (Nat.not_lt.mp hl),Zzx (h.len ▸ Nat.not_lt.mp hl)];exact h
theorem bZ{n:Nat}(i:Nat){x:Str}(hN:X.N.Nodup)(hx:Loc X.env.scope x)(hi:X.N[i]?=some x:=by rfl)(hn:i<n:=by decide)(hf:qi X x:=by first|exact .inl rfl|exact .inr rfl|assumption):QG X n (.Name x pos) (hName i):=(iJ hN hi hx hf).imp λv σ H Q hP=>by
 obtain⟨own,o,t,R,h,r,hg,k⟩:=hP;obtain⟨am,h',S⟩:=h.setF r hn;exact k am _ _ hg S h'
theorem dz{n:Nat} : QGs X n [] akZ:=Uh.imp λv σ H Q hP=>by
 obtain⟨own,o,t,R,h,r,hg,k⟩:=hP;cases r with
 |nil=>exact⟨rfl,k own σ o hg .refl h⟩
 |cons _ _=>exact hg.elim
theorem bT{n:Nat}{e:Expr}{es:List Expr}{g:qE}{gs:qA}(h1:QG X n e g)(h2:QGs X n es gs)(hs:(assignEach (e::es) X.env).map (·.2)=assign e X.env::(assignEach es X.env).map (·.2):=by rfl):QGs X n (e::es) (agO g gs):=(Gp h1 h2 hs).imp λv σ H Q hP=>by
 obtain⟨own,o,t,R,h,r,hg,k⟩:=hP;cases r with
 |nil=>exact hg.elim
 |cons a b=>exact⟨_,_,rfl,own,o,_,_,h,a,hg,λam σ' o' q S h'=>⟨am,o',_,R,h',b.same S.same,q,λb5 σ2 o2 q S2 h2=>k b5 σ2 o2 q (S.trans S2) h2⟩⟩
theorem eZ{m:Nat}{es:List Expr}{k:Nat}{gs:qA}{n:Nat}(hc:X.calm=true)(h:QGs X m es gs)(hn:(assignEach es X.env).length=n:=by rfl)(bE:zb X es:=by rfl):QG X m (.Tuple es k pos) (alx n gs):=(Yn hc h hn bE).imp λv σ H Q hP=>by
 obtain⟨own,o,t,R,h,r,hg,k⟩:=hP;cases t<;>try exact hg.elim
 obtain⟨a,xs,rfl,e,r⟩:=r.tupI;exact⟨a,xs,rfl,cM.tup e,r.len.trans hg.1,own,o,_,R,h,r,hg.2,k⟩
def als(a:RE)(g:qE):RS:=λE o=>a o λx=>g (frz x) o E.nx
theorem Ga{n:Nat}{tg:Expr}{g:qE}(he:QE X e re)(hg:QG X n tg g)(hs:swapsWithSole [tg] e pos.line X.env=pure false:=by rfl)(hw:swappedStores [tg] e X.env=pure none:=by rfl)(h1:(assignEach [tg] X.env).map (·.2)=[assign tg X.env]:=by rfl):QS X (.Assign [tg] e pos) (als re g) :=
 (Tt he hg hs hw h1).imp λD σ H hP=>by obtain⟨own,o,E,h,hr,L⟩:=hP;exact tQ.mk h hr λH1 v y q E1 r1=>⟨own,o,_,_,h.same E1,r1,q,λam σ' o' q S h'=>L.nx am H1 σ' o' q ((bN E1).trans S.same) h'⟩
end
section
variable{P:Program}{w:World}{K:Frag}{mg:Str->Ψ}{base:Heap}
noncomputable def start'(n:Nat)(ts:List T):List OT:=ts.map OT.fz++List.replicate (n-ts.length) .und
theorem SR.start{H:Hp}{vs:Ε}{ts:List T}(r:bU K H vs ts)(N:Θ):SR K (λ_=>[]) H (start N vs) (start' N.length ts):=by
 have e0:Ow (λ_=>[])=λ_=>False:=funext λb=>propext ⟨λhP=>by obtain⟨_,z⟩:=hP;exact(nomatch z),False.elim⟩;refine⟨by unfold start' L2.start;simp[r.len],λi x e=>?_,λ_ _ _ z=>(nomatch z),λi j a z=>(nomatch z)⟩;rw[e0,Ez];unfold start' at e;unfold L2.start;by_cases hi:i<ts.length
 .rw[aF (by simpa using hi),aq,aj hi]at e;cases e;obtain⟨v,e1,r1⟩:=r.at_ (aj hi);rw[aF (by rw[ak,r.len];exact hi),aq,e1];exact⟨rfl,v,rfl,r1⟩
 .rw[aD (by simpa using hi),ak,X0]at e;by_cases hj:i-ts.length<N.length-ts.length
  .rw[ZY hj]at e;cases e;rfl
  .rw[ZZ hj]at e;cases e
theorem Fun.okT{x af:Str}{st:Stmt}{f:Addr}{fd:FuncData}{N ps:Θ}{k:Nat}{S:ST}(F:Fun K x af st f fd)(sc:bK N ps (bF st))(len:∀ts R,S ts R->ts.length=ps.length)
 (be:∀(ah:Value)(A:Around)(outer:List Env)(s:Shared)(H:Hp)(E:XK),dF k (A.deeper (envOfC af (bF st) s.heap.objs.size f ah)) ->
   ∃r,QSs (zR CX0 P w K mg base N af (bF st) f ah A outer s H E).nox (dH st) r/\∀ts R,S ts R->r { nx:=λ_=>R (.fz .non),rt:=R } (start' N.length ts)):b_ P w K mg base CX0 (k+1) f fd ps (spT K S):=by
 refine F.ok sc (λvs H Q E h=>?_) λah A outer s H vs Q E hr h=>?_
 .obtain⟨ts,R,r,hS,_⟩:=h;exact r.len.trans (len ts R hS)
 .obtain⟨ts,R,r,hS,q⟩:=h;obtain⟨rd,h1,h2⟩:=be ah A outer s H E hr;have e0:hd (Ow λ_=>[]) H=H:=by rw[show Ow (λ_=>[])=λ_=>False from funext λb=>propext ⟨λhP=>by obtain⟨_,z⟩:=hP;exact(nomatch z),False.elim⟩,Ez]
  have aE:∀(S:Addr->Prop)H' v x B,R x->Same H (hd S H')->Slo K (hd S H') H' (some v) B x->(∀a∈B,S a)->Q v H':=λS' H' v x B rx E s hB =>
   q H' v x rx (E.trans cM) ⟨B,λa ha=>E.free (m_ (hB a ha)),s.same (fL (λb z=>.inl (z.elim False.elim (hB b))) λ_ _ z=>z) λ_ _ z=>z⟩
  refine⟨_,h1,λ_=>[],_,_,SR.start r N,h2 ts R hS,⟨λown H' σ o rx E h=>?_,λS' H' v x B rx E s hB=>aE S' H' v x B rx (e0 ▸ E) s hB,λ_ _ _ _ z=>z.elim,λ_ _ _ _ z=>z.elim,λ_ _ _ _ _ _ z=>z.elim⟩⟩;exact aE (Ow own) H' .non _ [] rx (e0 ▸ E) ⟨rfl,_,rfl,.non⟩ λ_ z=>(nomatch z)
end
abbrev RI:=List OT->(List T->Prop)->Prop
def Wlk(K:Frag)(J:It)(F:Hp)(xs:List T):Prop:=∀(S:Addr->Prop)(H:Hp)(i:Nat),(∀b,S b->H b≠none)->Same F (hd S H) ->
 (i=xs.length->J.stop i H)/\∀t,xs[i]?=some t->J.go i H/\∀x H',J.yld i H x H'->Same H H'/\Rep K (hd S H') x t
def tQI(K:Frag)(r:RI):TI:=λσ H Q=>∃own o R,SR K own H σ o/\r o R/\∀H' J xs,R xs->Same H H'->Wlk K J (hd (Ow own) H') xs->Q J H'
def QI(X:Cx)(tg it:Expr)(r:RI):Prop:=PI X tg it (tQI X.K r)
theorem PI.imp{X:Cx}{tg it:Expr}{t t':TI}(h:PI X tg it t)(i:∀σ H Q,t' σ H Q->t σ H Q):PI X tg it t':=λaa s σ H Q I q=>h aa s σ H Q I (i σ H Q q)
def akG(a:RE):RI:=λo q=>a o λx=>match frz x with|.lst ts=>q ts|_=>False
def al4(a:RE):RI:=λo q=>a o λx=>match frz x with|.tup ts=>q ts|_=>False
theorem Xm{S:Addr->Prop}{H:Hp}{t:Addr}{u:HO}(n:H t=none)(hs:∀b,S b->H b≠none):hd S (upd H t u) t=some u:=by rw[cI λz=>hs t z n];exact bW
section
variable{X:Cx}{tg:Expr}{e a b:Expr}{re ra rb:RE}{p pos ax:Pos}
theorem cF(he:QE X e re):QI X tg e (akG re):=(acw he).imp λσ H Q ⟨own,o,R,h,hr,k⟩=>tQ.mk h hr λH1 v x q E1 r1=>by
 revert r1 q
 generalize frz x=t;intro q r1;cases t<;>try exact q.elim
 obtain⟨a,xs,rfl,e,r⟩:=r1.lstI;refine⟨a,rfl,⟨xs,.of (cH e).2⟩,k H1 _ _ q E1 λS H2 i _ SF=>⟨λhi=>⟨xs,.of (cH (SF _ _ e)).2,by rw[r.len];exact WH hi.symm⟩,λt ht=>?_⟩⟩;obtain⟨y,ey,ry⟩:=r.at_ ht;refine⟨⟨xs,y,.of (cH (SF _ _ e)).2,ey⟩,?_⟩;rintro x H3 ⟨rfl,hx⟩;have:=hx xs (.of (cH (SF _ _ e)).2);rw[ey]at this;cases this;exact⟨.refl _,ry.same SF⟩
theorem adW(he:QE X e re):QI X tg e (al4 re):=(aea he).imp λσ H Q ⟨own,o,R,h,hr,k⟩=>tQ.mk h hr λH1 v x q E1 r1=>by
 revert r1 q
 generalize frz x=t;intro q r1;cases t<;>try exact q.elim
 obtain⟨a,xs,rfl,e,r⟩:=r1.tupI;refine⟨a,rfl,⟨xs,cM.tup e⟩,k H1 _ _ q E1 λS H2 i _ SF=>⟨λhi=>⟨xs,(SF.trans cM).tup e,by rw[r.len];exact WH hi.symm⟩,λt ht=>?_⟩⟩;obtain⟨y,ey,ry⟩:=r.at_ ht;refine⟨⟨xs,y,(SF.trans cM).tup e,ey⟩,?_⟩;rintro x H3 ⟨rfl,hx⟩;have:=hx xs ((SF.trans cM).tup e);rw[ey]at this;cases this;exact⟨.refl _,ry.same SF⟩
noncomputable def rng(lo:Int)(n:Nat):List T:=(List.range n).map λk:Nat=>.int (lo+k)
theorem UW{K:Frag}{lo:Int}{n:Nat}{F:Hp} : Wlk K (Itr lo n) F (rng lo n):=λS H i _ _=>⟨λhi=>by rw[rng,ak,WJ]at hi;exact WH hi.symm,λt ht=>by
 unfold rng at ht;rw[aq]at ht;by_cases hi:i<n
 .rw[UZ hi]at ht;cases ht;refine⟨hi,?_⟩;rintro x H' ⟨rfl,rfl⟩;exact⟨.refl _,.int _⟩
 .rw[aM (by simpa using hi)]at ht;cases ht⟩
def alc(r:RA):RI:=λo q=>r o λts=>match ts with|[.int j]=>(-(2^62)<=j/\j<2^62)/\q (rng 0 j.toNat)|_=>False
def amT(r:RA):RI:=λo q=>r o λts=>match ts with|[.int i,.int j]=>(-(2^62)<=i/\i<2^62/\-(2^62)<=j/\j<2^62)/\q (rng i (j-i).toNat)|_=>False
theorem dX{r:RA}(hg:Gl X "range")(hm:X.mg "range"=none)(ha:QA X [a] r)(hs:starEach [a] X.env=[(false,eval a X.env)]:=by rfl):QI X tg (.Call (.Name "range" p) [a] [] pos) (alc r):=(WR hg hm ha hs).imp λσ H Q ⟨own,o,R,h,hr,k⟩=>⟨own,o,_,h,hr,λH1 vs ts q _ E1 r1=>by
 match ts,q with
 |[.int j],q =>
  obtain⟨x,rfl,rx⟩:=r1.one;cases rx;exact⟨j,rfl,q.1.1,q.1.2,k H1 _ _ q.2 E1 UW⟩⟩
theorem JQ{r:RA}(hg:Gl X "range")(hm:X.mg "range"=none)(ha:QA X [a,b] r)(hs:starEach [a,b] X.env=[(false,eval a X.env),(false,eval b X.env)]:=by rfl)(dS:starEach [b] X.env=[(false,eval b X.env)]:=by rfl):QI X tg (.Call (.Name "range" p) [a,b] [] pos) (amT r):=(WM hg hm ha hs dS).imp λσ H Q ⟨own,o,R,h,hr,k⟩=>⟨own,o,_,h,hr,λH1 vs ts q _ E1 r1=>by
 match ts,q with
 |[.int i,.int j],q =>
  obtain⟨x,y,rfl,rx,ry⟩:=r1.two;cases rx;cases ry;exact⟨i,j,rfl,q.1,k H1 _ _ q.2 E1 UW⟩⟩
def yc(ts:List T):List T:=ts.zipIdx.map λp=>.tup [.int (p.2:Nat),p.1]
def al9(r:RA):RI:=λo q=>r o λts=>match ts with|[.lst ts]=>q (yc ts)|_=>False
theorem zG{r:RA}{b6:List Expr}{x1}(hg:Gl X "enumerate")(hm:X.mg "enumerate"=none)(ha:QA X [a] r)(hs:starEach [a] X.env=[(false,eval a X.env)]:=by rfl):QI X (.Tuple b6 x1 ax) (.Call (.Name "enumerate" p) [a] [] pos) (al9 r):=(aaP hg hm ha hs).imp λσ H Q ⟨own,o,R,h,hr,k⟩=>⟨own,o,_,h,hr,λH1 vs ts q _ E1 r1=>by
 match ts,q with
 |[.lst ts],q =>
  obtain⟨x,rfl,rx⟩:=r1.one;obtain⟨a,xs,rfl,e,r⟩:=rx.lstI;refine⟨a,xs,rfl,(cH e).2,k H1 _ _ q E1 λS H2 i hs SF=>⟨λhi=>⟨xs,(cH (SF _ _ e)).2,by rw[r.len,hi];simp[yc]⟩,λt ht=>?_⟩⟩;unfold yc at ht;rw[aq]at ht;by_cases hi:i<ts.length
  .rw[aj (by simpa using hi),List.getElem_zipIdx]at ht;cases ht;obtain⟨y,ey,ry⟩:=r.at_ (aj hi);refine⟨⟨xs,(cH (SF _ _ e)).2,by rw[r.len];exact hi⟩,?_⟩;rintro x H3 ⟨eL,x',t,e',ex,n,rfl,rfl⟩;rw[(cH (SF _ _ e)).2]at e';cases e';rw[ey]at ex;cases ex;refine⟨Same.upd n,.tup (.of (Xm n hs)) (.cons ?_ (.cons (ry.same (SF.trans (bN (Same.upd n)))) .nil))⟩;rw[show((0+i:Nat):Int)=(i:Int)by lia];exact .int _
  .rw[aM (by simpa using hi)]at ht;cases ht⟩
def Iu(ts us:List T):List T:=(ts.zip us).map λp=>.tup [p.1,p.2]
def amg(r:RA):RI:=λo q=>r o λts=>match ts with|[.lst ts,.lst us]=>q (Iu ts us)|_=>False
theorem Rm{r:RA}{b6:List Expr}{x1}(hg:Gl X "zip")(hm:X.mg "zip"=none)(ha:QA X [a,b] r)(hs:starEach [a,b] X.env=[(false,eval a X.env),(false,eval b X.env)]:=by rfl)(dS:starEach [b] X.env=[(false,eval b X.env)]:=by rfl):QI X (.Tuple b6 x1 ax) (.Call (.Name "zip" p) [a,b] [] pos) (amg r):=(aae hg hm ha hs dS).imp λσ H Q ⟨own,o,R,h,hr,k⟩=>⟨own,o,_,h,hr,λH1 vs ts q _ E1 r1=>by
 match ts,q with
 |[.lst ts,.lst us],q =>
  obtain⟨x,y,rfl,rx,ry⟩:=r1.two;obtain⟨a,xs,rfl,e,r⟩:=rx.lstI;obtain⟨b,ys,rfl,e2,r2⟩:=ry.lstI;refine⟨a,b,xs,ys,rfl,(cH e).2,(cH e2).2,k H1 _ _ q E1 λS H2 i hs SF=>⟨λhi=>⟨xs,ys,(cH (SF _ _ e)).2,(cH (SF _ _ e2)).2,?_⟩,λt ht=>?_⟩⟩
  .rw[r.len,r2.len];rw[Iu,ak,VT]at hi;lia
  .unfold Iu at ht;rw[aq]at ht;by_cases hi:i<ts.length/\i<us.length
   .rw[aj (by rw[VT];omega),List.getElem_zip]at ht;cases ht;obtain⟨y,ey,ry⟩:=r.at_ (aj hi.1);obtain⟨z,ez,rz⟩:=r2.at_ (aj hi.2);refine⟨⟨xs,ys,(cH (SF _ _ e)).2,(cH (SF _ _ e2)).2,by rw[r.len];exact hi.1,by rw[r2.len];exact hi.2⟩,?_⟩;rintro x H3 ⟨eL,iA,x',y',t,e',kB,ex,ey',n,rfl,rfl⟩;rw[(cH (SF _ _ e)).2]at e';cases e';rw[(cH (SF _ _ e2)).2]at kB;cases kB;rw[ey]at ex;cases ex;rw[ez]at ey';cases ey';have S3:=SF.trans (bN (S:=S) (Same.upd (o:=.tup [y,z]) n));exact⟨Same.upd n,.tup (.of (Xm n hs)) (.cons (ry.same S3) (.cons (rz.same S3) .nil))⟩
   .rw[aM (by rw[VT];omega)]at ht;cases ht⟩
def xV(g:qE)(b:RS)(E:DT):List T->List OT->Prop
 |[],o=>E.nx o
 |t::ts,o=>∃N:List OT->Prop,(∀o,N o->xV g b E ts o)/\g t o λo'=>b { E with nx:=N,ct:=N,bk:=E.nx } o'
def alh(it:RI)(g:qE)(b:RS):RS:=λE o=>it o λxs=>xV g b E xs o
theorem dO{n:Nat}{iter:Expr}{bz:List Stmt}{ri:RI}{g:qE}{rb:RS}(hp:PassesOwn (model X.prog X.w) X.A X.env X.xe)(hc:X.calm=true)(hi:QI X tg iter ri)(hg:QG X n tg g)(hb:QSs X bz rb)
 (hs:qV X iter:=by intro _;rfl):QS X (.For tg iter bz [] pos) (alh ri g rb):=(XF hp hc hi hg hb hs).imp λD σ H ⟨own,o,E,h,hr,L⟩=>⟨own,o,_,h,hr,λH1 J xs q E1 wk=>by
 refine⟨λi m σ' H'=>∃am o',SR X.K am H' σ' o'/\Same (hd (Ow own) H1) (hd (Ow am) H')/\xV g rb E (xs.drop i) o'/\i<=xs.length/\m=xs.length-i,⟨_,own,o,h.same E1,.refl _,q,aZ _,rfl⟩,?_⟩;rintro i m σ' H' ⟨am,o',h',S',hl,il,rfl⟩;obtain⟨w1,w2⟩:=wk (Ow am) H' i (λb z=>(h'.sole z).ne) S';have S0:=(bN E1).trans S';by_cases hi:i<xs.length
 .right;obtain⟨go,yl⟩:=w2 _ (aj hi);rw[QP hi]at hl;obtain⟨N,hN,hl⟩:=hl;refine⟨go,λσ2 H2=>∃b5 o2,SR X.K b5 H2 σ2 o2/\Same (hd (Ow own) H1) (hd (Ow b5) H2)/\xV g rb E (xs.drop (i+1)) o2,λσ2 H2 ⟨b5,o2,a,b,c⟩=>⟨xs.length-(i+1),by omega,b5,o2,a,b,c,hi,rfl⟩,λx H2 y=>?_⟩;obtain⟨E2,rx⟩:=yl x H2 y;refine⟨am,o',_,_,h'.same E2,rx,hl,λeT σ3 o3 q3 h9 h3=>⟨eT,o3,_,h3,q3,?_⟩⟩;have S3:=S'.trans ((bN (S:=Ow am) E2).trans h9.same);have L3:=L.step ((bN E1).trans S3);exact⟨λcm H4 σ4 o4 q S h=>⟨cm,o4,h,S3.trans S,hN _ q⟩,L3.rt,λcm H4 σ4 o4 q S h=>L3.nx cm H4 σ4 o4 q S h,λcm H4 σ4 o4 q S h=>⟨cm,o4,h,S3.trans S,hN _ q⟩,L3.xc⟩
 .left;refine⟨w1 (by lia),?_⟩;rw[Th (Nat.not_lt.mp hi)]at hl;exact L.nx am H' σ' o' hl S0 h'⟩
def afD(c:RT)(b:RS):RS:=λE o=>∃W:Nat->List OT->Prop,(∃m,W m o)/\∀m o,W m o->c o λk=>sw k (∃N:List OT->Prop,(∀o',N o'->∃m',m'<m/\W m' o')/\b { E with nx:=N,ct:=N,bk:=E.nx } o) (E.nx o)
theorem Qf{c:Expr}{bz:List Stmt}{rc:RT}{rb:RS}(hp:PassesOwn (model X.prog X.w) X.A X.env X.xe)(hc:QT X c rc)(hb:QSs X bz rb):QS X (.While c bz [] pos) (afD rc rb):=(Xc hp hc hb).imp λD σ H hP=>by
 obtain⟨own,o,E,h,hr,L⟩:=hP;obtain⟨W,⟨m0,w0⟩,st⟩:=hr;refine⟨λm σ' H'=>∃am o',SR X.K am H' σ' o'/\Same (hd (Ow own) H) (hd (Ow am) H')/\W m o',⟨m0,own,o,h,.refl _,w0⟩,?_⟩;rintro m σ' H' ⟨am,o',h',S',wm⟩;refine tQT.mk h' (st m o' wm) λH1 k q E1=>Gx q (λhP=>?_) λq=>L.nx am H1 σ' o' q (S'.trans (bN E1)) (h'.same E1);obtain⟨N,hN,q⟩:=hP;have S1:=S'.trans (bN E1);have L1:=L.step S1;refine⟨λσ2 H2=>∃b5 o2,SR X.K b5 H2 σ2 o2/\Same (hd (Ow own) H) (hd (Ow b5) H2)/\N o2,λσ2 H2 hP=>?_,am,o',_,h'.same E1,q,⟨λcm H4 σ4 o4 q S h=>⟨cm,o4,h,S1.trans S,q⟩,L1.rt,λcm H4 σ4 o4 q S h=>L1.nx cm H4 σ4 o4 q S h,λcm H4 σ4 o4 q S h=>⟨cm,o4,h,S1.trans S,q⟩,L1.xc⟩⟩;obtain⟨b5,o2,a,b,c⟩:=hP;obtain⟨m',lt,w⟩:=hN o2 c;exact⟨m',lt,b5,o2,a,b,w⟩
end
def iZ(g:qE)(c:RT)(e:RE)(o:List OT):List T->(List T->Prop)->Prop
 |[],q=>q []
 |t::ts,q=>∃(N:T->Prop)(M:Prop),(∀y,N y->iZ g c e o ts λus=>q (y::us))/\(M->iZ g c e o ts q)/\g t o λo'=>c o' λb=>sw b (e o' λy=>N (frz y)) M
def alO:RT:=λ_ q=>q true
def Vz(it:RI)(n:Nat)(g:qE)(c:RT)(e:RE):RE:=λo q=>it o λxs=>xs.length<=sizeLine/\iZ g c e (List.replicate n .und++o) xs λus=>q (.l1 us)
noncomputable def ownS(n L:Nat)(own:zk)(D:Addr):zk:=λi=>if i<n then[]else if i<n+L then own (i-n)else if i=n+L then[D]else own (i-n-1)
theorem Ow.ownS{n L:Nat}{own:zk}{D b:Addr} : Ow (ownS n L own D) b↔Ow own b\/b=D:=by
 constructor
 .rintro⟨i,z⟩;unfold L2.ownS at z;by_cases h1:i<n
  .rw[ZY h1]at z;cases z
  rw[ZZ h1]at z;by_cases h2:i<n+L
  .rw[ZY h2]at z;exact .inl ⟨_,z⟩
  rw[ZZ h2]at z;by_cases h3:i=n+L
  .rw[ZY h3]at z;exact .inr (YR.mp z)
  .rw[ZZ h3]at z;exact .inl ⟨_,z⟩
 .rintro(⟨i,z⟩|rfl)
  .by_cases h:i<L
   .exact⟨n+i,by unfold L2.ownS;rw[ZZ (UK (X2 _ _)),ZY (Nat.add_lt_add_left h _),show n+i-n=i by exact Tk _ _];exact z⟩
   .exact⟨n+i+1,by unfold L2.ownS;rw[ZZ (by lia),ZZ (by lia),ZZ (by lia),show n+i+1-n-1=i by lia];exact z⟩
  .exact⟨n+L,by unfold L2.ownS;rw[ZZ (UK (X2 _ _)),ZZ (X9 _),ZY rfl];simp⟩
theorem SR.block{K:Frag}{own:zk}{H:Hp}{σ:L2.St}{o:List OT}(h:SR K own H σ o){D:Addr}{ys:Ε}{H':Hp}(E:Same H H')(nD:H D=none)(eD:H' D=some (.lst ys))(pre:L2.St):SR K (ownS pre.length o.length own D) H' (pre++σ) (List.replicate pre.length .und++o):=by
 have le:Same (hd (Ow own) H) (hd (Ow (ownS pre.length o.length own D)) H'):=fL (λb z=>(Ow.ownS.mp z).imp id λ(e:b=D)=>e ▸ nD) E;have fw:∀j,D∉own j:=λj z=>(h.sole ⟨j,z⟩).ne nD;refine⟨by simp[h.len],λi x e=>?_,λi hi a ha=>?_,λi j a e1 e2=>?_⟩
 .by_cases h1:i<pre.length
  .rw[aF (by simpa using h1),X0,ZY h1]at e;cases e;show ownS _ _ _ _ i=[];unfold ownS;rw[ZY h1]
  .rw[aD (by simpa using h1),aN]at e;have h2:i-pre.length<o.length:=(ao.mp e).1;rw[aD (Nat.not_lt.mp h1)];have:ownS pre.length o.length own D i=own (i-pre.length):=by unfold ownS;rw[ZZ h1,ZY (by omega)]
   rw[this];exact(h.sl _ x e).same le E
 .rw[aA,aN]at hi;unfold ownS at ha;rw[ZZ (by lia),ZZ (UK hi)]at ha;by_cases h3:i=pre.length+o.length
  .rw[ZY h3]at ha;cases YR.mp ha;exact⟨_,eD⟩
  .rw[ZZ h3]at ha;obtain⟨xs,e⟩:=h.out _ (by lia) a ha;exact⟨xs,E _ _ e⟩
 .unfold ownS at e1 e2;by_cases a1:i<pre.length
  .rw[ZY a1]at e1;cases e1
  by_cases b1:j<pre.length
  .rw[ZY b1]at e2;cases e2
  rw[ZZ a1]at e1;rw[ZZ b1]at e2;by_cases a2:i<pre.length+o.length<;>by_cases b2:j<pre.length+o.length
  .rw[ZY a2]at e1;rw[ZY b2]at e2;have:=h.dis _ _ a e1 e2;omega
  .rw[ZY a2]at e1;rw[ZZ b2]at e2;by_cases b3:j=pre.length+o.length
   .rw[ZY b3]at e2;cases YR.mp e2;exact absurd e1 (fw _)
   .rw[ZZ b3]at e2;have:=h.dis _ _ a e1 e2;omega
  .rw[ZZ a2]at e1;rw[ZY b2]at e2;by_cases a3:i=pre.length+o.length
   .rw[ZY a3]at e1;cases YR.mp e1;exact absurd e2 (fw _)
   .rw[ZZ a3]at e1;have:=h.dis _ _ a e1 e2;lia
  .rw[ZZ a2]at e1;rw[ZZ b2]at e2;by_cases a3:i=pre.length+o.length<;>by_cases b3:j=pre.length+o.length
   .exact Eq.trans a3 (Eq.symm b3)
   .rw[ZY a3]at e1;rw[ZZ b3]at e2;cases YR.mp e1;exact absurd e2 (fw _)
   .rw[ZZ a3]at e1;rw[ZY b3]at e2;cases YR.mp e2;exact absurd e1 (fw _)
   .rw[ZZ a3]at e1;rw[ZZ b3]at e2;have:=h.dis _ _ a e1 e2;lia
theorem QB{n:Nat}{own am:zk}{pre σ σ':L2.St}(hp:pre.length=n)(g:BW n own am (pre++σ) σ'):∃b8:L2.St,b8.length=n/\σ'=b8++σ:=by
 obtain⟨_,l,k⟩:=g;refine⟨σ'.take n,by rw[aY,l,aA];lia,?_⟩;refine List.ext_getElem? λi=>?_;by_cases hi:i<n
 .rw[aF (by rw[aY,l,aA];lia),List.getElem?_take_of_lt hi]
 .rw[aD (by rw[aY,l,aA];lia),k i (Up hi),aD (by lia),aY,l,aA]
  congr 1
  lia
theorem O7{K:Frag}{σ:L2.St}{Q:VK}{n:Nat}{g:qE}{rc:RT}{re:RE}{own:zk}{o:List OT}{H1:Hp}{J:It}{xs:List T}{R:OT->Prop}{D:Addr}(h1:SR K own H1 σ o)(wk:Wlk K J (hd (Ow own) H1) xs)(lx:xs.length<=sizeLine)(q:iZ g rc re (List.replicate n .und++o) xs λus=>R (.l1 us))(nD:H1 D=none)(k:∀H' v x,R x->Same H1 H'->NR K (Ow own) H1 H' v x->Q v H') :
  ∃W:Nat->Nat->Ε->Hp->Prop,(∃m,W 0 m [] (upd H1 D (.lst [])))/\∀i m ys Hc,W i m ys Hc ->
   (J.stop i Hc/\Q (.ref D) Hc)\/(J.go i Hc/\∀x H',J.yld i Hc x H'->∀pre:L2.St,pre.length=n->tMG (tQG K n g) x (pre++σ) H' λσ2 H2=>∃b8:L2.St,b8.length=n/\σ2=b8++σ/\tMT (tQT K rc) σ2 H2 λb H3 =>
    match b with
    |true=>tM (tQ K re) σ2 H3 λy H4=>ys.length<sizeLine/\H4 D=some (.lst ys)/\∃m',m'<m/\W (i+1) m' (ys++[y]) (upd H4 D (.lst (ys++[y])))
    |false=>∃m',m'<m/\W (i+1) m' ys H3):=by
 generalize hO:List.replicate n OT.und++o=ob at q;refine⟨λi m ys Hc=>∃ts,Hc D=some (.lst ys)/\Same H1 Hc/\bU K (hd (λb=>Ow own b\/b=D) Hc) ys ts/\ys.length<=i/\i<=xs.length/\m=xs.length-i/\iZ g rc re ob (xs.drop i) λus=>R (.l1 (ts++us)),⟨_,[],bW,Same.upd nD,.nil,aG _,aZ _,rfl,q⟩,?_⟩;rintro i m ys Hc ⟨ts,eD,Ec,rs,il,ix,rfl,hl⟩;have hn:∀b,Ow own b\/b=D->Hc b≠none:=λb z=>z.elim (λz=>((h1.same Ec).sole z).ne) λe z=>by rw[e,eD]at z;cases z
 have SD:Same (hd (Ow own) H1) (hd (λb=>Ow own b\/b=D) Hc):=fL (λb z=>z.imp id λ(e:b=D)=>e ▸ nD) Ec;obtain⟨w1,w2⟩:=wk (λb=>Ow own b\/b=D) Hc i hn SD;by_cases hi:i<xs.length
 .right;obtain⟨go,yl⟩:=w2 _ (aj hi);rw[QP hi]at hl;obtain⟨N,M,hN,hM,hl⟩:=hl;refine⟨go,λx H2 y pre hp=>?_⟩;obtain⟨E2,rx⟩:=yl x H2 y;have eO:(λb=>Ow own b\/b=D)=Ow (ownS n o.length own D):=funext λb=>propext Ow.ownS.symm;have hb:SR K (ownS n o.length own D) H2 (pre++σ) ob:=by
   have:=h1.block (Ec.trans E2) nD (E2 _ _ eD) pre;rw[hp,hO]at this;exact this
  rw[eO]at rx rs;refine⟨_,⟨ownS n o.length own D,ob,_,_,hb,rx,hl,λeT σ3 o3 q3 h9 h3=>?_⟩,λ_ _ z=>z⟩;obtain⟨b8,d6,rfl⟩:=QB hp h9;have e3:eT=ownS n o.length own D:=funext λj=>by
   rcases h9.1 j with e|⟨e1,e2⟩
   .exact e
   .rw[e2];unfold ownS;rw[ZY e1]
  subst e3;refine⟨b8,d6,rfl,_,tQT.mk h3 q3 λH3 b q4 E3=>?_,λ_ _ z=>z⟩;have q4:sw b (re o3 λy=>N (frz y)) M:=q4;cases b with
  |false=>exact⟨xs.length-(i+1),by lia,ts,E3 _ _ (E2 _ _ eD),Ec.trans (E2.trans E3),by rw[eO];exact rs.same (bN (E2.trans E3)),by exact aL il (X2 _ _),by exact hi,rfl,hM q4⟩
  |true =>
   refine⟨_,tQ.mk (h3.same E3) q4 λH4 v y q5 E4 r4=>⟨by lia,E4 _ _ (E3 _ _ (E2 _ _ eD)),xs.length-(i+1),by lia,ts++[frz y],bW,λb u e=>?_,?_,by rw[aA,List.length_singleton];exact Nat.succ_le_succ il,by exact hi,rfl,?_⟩,λ_ _ z=>z⟩
   .rw[bR λz=>by rw[z,nD]at e;cases e];exact E4 _ _ (E3 _ _ (E2 _ _ (Ec _ _ e)))
   .rw[vg (S:=λb=>Ow own b\/b=D) (.inr rfl),eO];exact(rs.same (bN (E2.trans (E3.trans E4)))).app (.cons r4 .nil)
   .have:=hN _ q5;simp only[WZ,List.singleton_append];exact this
 .left;have:i=xs.length:=by lia
  refine⟨w1 this,?_⟩;rw[Th (Up hi)]at hl;have hl:R (.l1 (ts++[])):=hl;rw[List.append_nil]at hl;exact k Hc _ _ hl Ec (NR.l1 nD eD rs)
theorem Gy{K:Frag}{σ:L2.St}{H:Hp}{Q:VK}{ri:RI}{n:Nat}{g:qE}{rc:RT}{re:RE}(h:tQ K (Vz ri n g rc re) σ H Q):qy (tQI K ri) n (tMG (tQG K n g)) (tMT (tQT K rc)) (tM (tQ K re)) σ H Q:=by
 obtain⟨own,o,R,h,hr,k⟩:=h;exact⟨own,o,_,h,hr,λH1 J xs q E1 wk D nD=>O7 (h.same E1) wk q.1 q.2 nD λH' v x rx E n=>k H' v x rx (E1.trans E) (n.back E1)⟩
section
variable{X:Cx}{tg iter bg:Expr}{az:List Expr}{ri:RI}{g:qE}{rc:RT}{re:RE}{scope:Scope}{pos:Pos}
def QTs(X:Cx)(az:List Expr)(r:RT):Prop:=PTs X az (tQT X.K r)
theorem cG:QTs X [] alO:=λaa s σ H Q I hP=>by obtain⟨own,o,R,h,hr,k⟩:=hP;exact acI aa s σ H Q I (k H true hr (.refl _))
theorem U6{c:Expr}{rc:RT}(h:QT X c rc):QTs X [c] rc:=abf h
theorem d_(sc:Scope)(N N' xs:Θ)(hi:QI X tg iter ri)(hg:∀{C s₀ H₀ ex pn},QG (X.compG N' scope xs C s₀ H₀ ex pn) xs.length tg g)(ht:∀{C s₀ H₀ ex pn},QTs (X.compG N' scope xs C s₀ H₀ ex pn) az rc)(he:∀{C s₀ H₀ ex pn},QE (X.compG N' scope xs C s₀ H₀ ex pn) bg re)
 (cr:X.env.scope=sc:=by rfl)(cK:X.N=N:=by rfl)(hc:X.calm=true:=by rfl)(hk:scope.kind=.function:=by rfl)(h:CK sc scope N N' xs:=by decide +kernel)(hs:qV X iter:=by intro _;rfl):QE X (.ListComp bg [⟨tg,iter,az,0⟩] scope pos) (Vz ri xs.length g rc re) :=
 (ZS (gt:=tQG X.K xs.length g) (tc:=tQT X.K rc) (te:=tQ X.K re) sc N N' xs hi hg ht he cr cK hc hk h hs).imp λ_ _ _=>Gy
theorem acr(sc:Scope)(N N':Θ)(x0:Str)(hi:QI X tg iter ri)(hg:∀{C s₀ H₀ ex pn},QG (X.compGC N' scope x0 C s₀ H₀ ex pn) 1 tg g)(ht:∀{C s₀ H₀ ex pn},QTs (X.compGC N' scope x0 C s₀ H₀ ex pn) az rc)(he:∀{C s₀ H₀ ex pn},QE (X.compGC N' scope x0 C s₀ H₀ ex pn) bg re)
 (cr:X.env.scope=sc:=by rfl)(cK:X.N=N:=by rfl)(hc:X.calm=true:=by rfl)(hk:scope.kind=.function:=by rfl)(fN:∀n acc,cellsFrom n scope.names acc=(x0,n)::acc:=by intro _ _;rfl)(fy:∀h,pushCells h scope.names=h.push { cls:=.type "cell",data:=.cell none }:=by intro _;rfl)(h:(∀y∈scope.names,y.2=.cell->y.1=x0)/\CK0 sc scope N N' [x0]:=by decide +kernel)(hs:qV X iter:=by intro _;rfl):QE X (.ListComp bg [⟨tg,iter,az,0⟩] scope pos) (Vz ri 1 g rc re) :=
 (Zc (gt:=tQG X.K 1 g) (tc:=tQT X.K rc) (te:=tQ X.K re) sc N N' x0 hi hg ht he cr cK hc hk fN fy h hs).imp λ_ _ _=>Gy
theorem U7{N0:Θ}{x0:Str}{sO:Scope}{C0:Addr}{s0:Shared}{H0:Hp}{eB:Φ}{dC:Γ}(sc:Scope)(N N' xs:Θ)(hi:QI (X.compGC N0 sO x0 C0 s0 H0 eB dC) tg iter ri)(hg:∀{C s₀ H₀ ex pn},QG ((X.compGC N0 sO x0 C0 s0 H0 eB dC).compG N' scope xs C s₀ H₀ ex pn) xs.length tg g)(ht:∀{C s₀ H₀ ex pn},QTs ((X.compGC N0 sO x0 C0 s0 H0 eB dC).compG N' scope xs C s₀ H₀ ex pn) az rc)(he:∀{C s₀ H₀ ex pn},QE ((X.compGC N0 sO x0 C0 s0 H0 eB dC).compG N' scope xs C s₀ H₀ ex pn) bg re)
 (cr:X.env.scope=sc:=by rfl)(cK : [x0]++N0=N:=by rfl)(hc:X.calm=true:=by rfl)(hk:scope.kind=.function:=by rfl)(h:CK (rlb sc sO) scope N N' xs:=by decide +kernel)(hs:∀z,foldedSetIterable iter (X.compGC N0 sO x0 C0 s0 H0 eB dC).env z=pure z:=by intro _;rfl):QE (X.compGC N0 sO x0 C0 s0 H0 eB dC) (.ListComp bg [⟨tg,iter,az,0⟩] scope pos) (Vz ri xs.length g rc re) :=
 PE.imp (ad1 (gt:=tQG X.K xs.length g) (tc:=tQT X.K rc) (te:=tQ X.K re) sc N N' xs hi hg ht he cr cK hc hk h hs) λ_ _ _=>Gy
theorem aeh{i0:Nat}{y0:Str}{py b9:Pos}(sc:Scope)(N N' xs:Θ)(hi:QI X tg iter ri)(hg:∀{C s₀ H₀ ex pn},QG (X.compG N' scope xs C s₀ H₀ ex pn) xs.length tg g)(ht:∀{C s₀ H₀ ex pn},QTs (X.compG N' scope xs C s₀ H₀ ex pn) az rc)(he:∀{C s₀ H₀ ex pn},QE (X.compG N' scope xs C s₀ H₀ ex pn) bg re)(fA:PG X (.Name y0 py) (xW i0))
 (cr:X.env.scope=sc:=by rfl)(cK:X.N=N:=by rfl)(hc:X.calm=true:=by rfl)(hk:scope.kind=.function:=by rfl)(h:CK sc scope N N' xs:=by decide +kernel)(fx:swapsWith (.ListComp bg [⟨tg,iter,az,0⟩] scope pos) (some (.Name y0 py)) b9.line X.env=pure true:=by rfl)(hs:qV X iter:=by intro _;rfl) :
  QS X (.Assign [.Name y0 py] (.ListComp bg [⟨tg,iter,az,0⟩] scope pos) b9) (afN i0 (Vz ri xs.length g rc re)):=(ZJ (gt:=tQG X.K xs.length g) (tc:=tQT X.K rc) (te:=tQ X.K re) sc N N' xs hi hg ht he fA cr cK hc hk h fx hs).imp λD σ H ⟨own,o,E,h,hr,L⟩=>Gy ⟨own,o,_,h,hr,λH' v y q S n=>by
 obtain⟨am,h',S'⟩:=h.putA S n i0;exact L.nx am H' _ _ q S' h'⟩
theorem gj{N' xs:Θ}{C s₀ H₀ ex pn}{n i:Nat}{x:Str}{p:Pos}(hN:(xs++N').Nodup:=by decide +kernel)(hi:(xs++N')[i]?=some x:=by rfl)(hn:i<n:=by decide)(hx:Loc (X.compG N' scope xs C s₀ H₀ ex pn).env.scope x:=by exact Or.inl rfl)(hf:(X.compG N' scope xs C s₀ H₀ ex pn).fn x=true\/(X.compG N' scope xs C s₀ H₀ ex pn).env.scope.names.lookup x=some .local:=by exact Or.inr rfl):QG (X.compG N' scope xs C s₀ H₀ ex pn) n (.Name x p) (hName i):=bZ i hN hx hi hn hf
theorem adk{N':Θ}{x0:Str}{C s₀ H₀ ex pn}{p:Pos}(hN:([x0]++N').Nodup:=by decide +kernel)(hx:Loc (X.compGC N' scope x0 C s₀ H₀ ex pn).env.scope x0:=by exact Or.inr rfl):QG (X.compGC N' scope x0 C s₀ H₀ ex pn) 1 (.Name x0 p) (hName 0)   := bZ 0 hN hx rfl (by decide) (.inl (beq_self_eq_true _))
end
theorem WQ{g:qE}{c:RT}{e:RE}{o:List OT}{t:T}{ts:List T}{q:List T->Prop}(h:g t o λo'=>c o' λb=>sw b (e o' λy=>iZ g c e o ts λus=>q (frz y::us)) (iZ g c e o ts q)):iZ g c e o (t::ts) q:=⟨λy=>iZ g c e o ts λus=>q (y::us),_,λ_ h=>h,id,h⟩
section
variable{X:Cx}{a b e:Expr}{ra rb re:RE}{rt:RT}{pos:Pos}
theorem bU.reps{K:Frag}{F:Hp}{xs:Ε}{ts:List T}(h:bU K F xs ts):∀n:Nat,bU K F (List.replicate n xs).flatten (List.replicate n ts).flatten
 |0=>.nil
 |n+1=>by rw[List.replicate_succ,List.replicate_succ,List.flatten_cons,List.flatten_cons];exact h.app (bU.reps h n)
theorem cC:GO X (binaryOp .Mult) akX:=λaa s σ H x y v u Q I rx ry h=>by
 obtain⟨S,t,w,R,_,hx,hy,hg,k⟩:=h;cases w with
 |int j=>?_
 |_=>cases t<;>exact hg.elim
 cases hy;cases t<;>try exact hg.elim
 .cases hx;exact aa7 aa s σ H _ _ v u Q I rx ry ⟨_,_,rfl,rfl,hg.1,k H _ _ hg.2 (.refl _) (NR.fz (.int _))⟩
 .cases hx;obtain⟨c,rfl,h1,h2,q⟩:=hg;exact abh aa s σ H _ _ v u Q I rx ry ⟨c,j,rfl,rfl,h1,h2,λz hz=>k H _ _ (q z hz) (.refl _) (NR.fz (.str _))⟩
 .obtain⟨p,xs,rfl,e,r⟩:=hx.lstI;obtain⟨⟨h1,h2,h3⟩,q⟩:=hg;exact afB aa s σ H _ _ v u Q I rx ry ⟨p,j,xs,rfl,rfl,(cH e).2,h1,h2,by rw[r.len];exact h3,λa ha=>k _ _ _ (q _ rfl) (Same.upd ha) (yw (r.reps j.toNat) (Same.upd ha) ha bW)⟩
mutual
def ofD:PyData->T
 |.none=>.non
 |.bool b=>.bl b
 |.int i=>.int i
 |.str s=>.str s
 |.list ds=>.lst (Yo ds)
 |.tuple ds=>.tup (Yo ds)
 |.dict _=>.any
def Yo:List PyData->List T
 |[]=>[]
 |d::ds=>ofD d::Yo ds
end
mutual
theorem Rep.shows{K:Frag}{F:Hp} : ∀{x:V}{t:T},Rep K F x t->∀d,t=ofD d->d.canLay0=true->iu K F x d
 |_,_,.any v,d,e,s=>by cases d<;>cases e;cases s
 |_,_,.non,d,e,_=>by cases d<;>cases e;exact .non
 |_,_,.bl b,d,e,_=>by cases d<;>cases e;exact .bl _
 |_,_,.int i,d,e,_=>by cases d<;>cases e;exact .int _
 |_,_,.str s,d,e,_=>by cases d<;>cases e;exact .str _
 |_,_,.val v,d,e,_=>by cases d<;>cases e
 |_,_,.tup q h,d,e,s=>by
  cases d<;>cases e;exact .tup q (bU.shows h _ rfl s)
 |_,_,.lst q h,d,e,s=>by
  cases d<;>cases e;exact .lst q (bU.shows h _ rfl s)
 |_,_,.scr q h,d,e,_=>by cases d<;>cases e
 |_,_,.dct q l h,d,e,_=>by cases d<;>cases e
 |_,_,.ins q d' l h,d,e,_=>by cases d<;>cases e
theorem bU.shows{K:Frag}{F:Hp} : ∀{xs:Ε}{ts:List T},bU K F xs ts->∀ds,ts=Yo ds->PyData.canLayAll0 ds=true->dY K F xs ds
 |_,_,.nil,ds,e,_=>by cases ds<;>cases e;exact .nil
 |_,_,.cons a b,ds,e,s=>by
  cases ds<;>cases e;obtain⟨s1,s2⟩:=Bool.and_eq_true_iff.mp s;exact .cons (Rep.shows a _ rfl s1) (bU.shows b _ rfl s2)
end
noncomputable def xr:Bool->Bool->Bool
 |false,b=>b
 |true,b=>!b
noncomputable def eqS:T->T->Option Bool
 |.int i,.int j=>some (decide (i=j))
 |.str i,.str j=>some (decide (i=j))
 |.bl i,.bl j=>some (decide (i=j))
 |.non,.non=>some true
 |.non,.int _=>some false
 |.int _,.non=>some false
 |.non,.str _=>some false
 |.str _,.non=>some false
 |.int _,.str _=>some false
 |.str _,.int _=>some false
 |.tup [.int a,.int b],.tup [.int c,.int d]=>some (decide (a=c)&&decide (b=d))
 |_,_=>none
def gEq(neg:Bool)(t u:T)(q:OT->Prop):Prop:=match eqS t u with
 |some b=>q (.fz (.bl (xr neg b)))
 |none=>∃d e,t=ofD d/\u=ofD e/\SeqAt.shaped d=true/\SeqAt.shaped e=true/\q (.fz (.bl (xr neg (PyData.eqv d e))))
theorem aia(a b c d:Int):PyData.eqv (.tuple [.int a,.int b]) (.tuple [.int c,.int d])=(decide (a=c)&&decide (b=d)):=by
 simp only[PyData.eqv,PyData.eqvAll,Bool.and_true]
 rfl
theorem afU{K:Frag}{F H:Hp}{x y:V}{t u:T}{b:Bool}(S:Same F H)(hx:Rep K F x t)(hy:Rep K F y u)(e:eqS t u=some b):(aaW x y=true/\decide (x=y)=b)\/∃d e,iu K H x d/\iu K H y e/\SeqAt.shaped d=true/\SeqAt.shaped e=true/\PyData.eqv d e=b:=by
 unfold eqS at e;split at e<;>cases e
 .cases hx;cases hy;exact .inl ⟨rfl,by simp⟩
 .cases hx;cases hy;exact .inl ⟨rfl,by simp⟩
 .cases hx;cases hy;exact .inl ⟨rfl,by simp⟩
 .cases hx;cases hy;exact .inl ⟨rfl,rfl⟩
 .cases hx;cases hy;exact .inl ⟨rfl,rfl⟩
 .cases hx;cases hy;exact .inl ⟨rfl,rfl⟩
 .cases hx;cases hy;exact .inl ⟨rfl,rfl⟩
 .cases hx;cases hy;exact .inl ⟨rfl,rfl⟩
 .cases hx;cases hy;exact .inl ⟨rfl,rfl⟩
 .cases hx;cases hy;exact .inl ⟨rfl,rfl⟩
 .exact .inr ⟨.tuple [.int _,.int _],.tuple [.int _,.int _],(hx.shows _ rfl rfl).same S,(hy.shows _ rfl rfl).same S,rfl,rfl,aia _ _ _ _⟩
theorem YT(neg:Bool){op:CmpOp}(h1:OpR X (compareOp op) λx y H Q=>aaW x y=true/\Q (.bl (xr neg (decide (x=y)))) H)(h2:OpR X (compareOp op) (ae3 X.K neg)):GO X (compareOp op) (gEq neg):=λaa s σ H x y v u Q I rx ry h=>by
 obtain⟨S,t,w,R,_,hx,hy,hg,k⟩:=h;have xe:∀b:Bool,(if neg then !b else b)=xr neg b:=λb=>by cases neg<;>rfl
 unfold gEq at hg;cases es:eqS t w with
 |some b =>
  rw[es]at hg;rcases afU cM hx hy es with⟨a,c⟩|⟨d,e,s1,s2,s3,s4,c⟩
  .exact h1 aa s σ H x y v u Q I rx ry ⟨a,by rw[c];exact k H _ _ hg (.refl _) (NR.fz (.bl _))⟩
  .exact h2 aa s σ H x y v u Q I rx ry ⟨d,e,s1,s2,s3,s4,by rw[xe,c];exact k H _ _ hg (.refl _) (NR.fz (.bl _))⟩
 |none =>
  rw[es]at hg;obtain⟨d,e,e1,e2,s1,s2,q⟩:=hg;exact h2 aa s σ H x y v u Q I rx ry ⟨d,e,(hx.shows d e1 (Bool.and_eq_true_iff.mp s1).1).same cM,(hy.shows e e2 (Bool.and_eq_true_iff.mp s2).1).same cM,s1,s2,by rw[xe];exact k H _ _ q (.refl _) (NR.fz (.bl _))⟩
theorem go_eq(hu:X.A.units+64<cLine):GO X (compareOp .Eq) (gEq false):=YT false akh (adN hu)
theorem pF(hu:X.A.units+64<cLine):GO X (compareOp .NotEq) (gEq true):=YT true agV (afq hu)
def flat:OT->Prop
 |.fz (.int _)=>True
 |.fz (.bl _)=>True
 |.fz (.str _)=>True
 |.fz .non=>True
 |_=>False
def alW(i:Nat)(a:RE):RE:=λo q=>match slot o i with|.und=>False|x=>a (o.set i (.fz (frz x))) λy=>flat y/\q y
def ahE(i:Nat)(a:RT):RT:=λo q=>match slot o i with|.und=>False|x=>a (o.set i (.fz (frz x))) q
theorem T5{i:Nat}{o:List OT}{P:OT->Prop}(h:match slot o i with|.und=>False|x=>P x):P (slot o i)/\slot o i≠.und:=by
 cases e:slot o i<;>rw[e]at h<;>first|exact h.elim|exact⟨h,λz=>by cases z⟩
theorem Ro(i:Nat)(h:QE X e re):QE X e (alW i re):=PE.imp h λσ H Q hP=>by
 obtain⟨own,o,R,h,hr,k⟩:=hP;obtain⟨hr,ne⟩:=T5 (P:=λx=>re (o.set i (.fz (frz x))) λy=>flat y/\R y) hr;obtain⟨u,e1,s⟩:=h.val rfl ne;obtain⟨am,h',S⟩:=h.frz (gR rfl ne) e1;refine⟨am,_,_,h',hr,λH' v x q E n=>k H' v x q.2 E ?_⟩;have fl:=q.1;have rp:=n.rep λb z=>(h'.sole z).ne;cases x with
 |fz t=>cases t<;>first|exact fl.elim|(cases rp;first|exact NR.fz (.int _)|exact NR.fz (.bl _)|exact NR.fz (.str _)|exact NR.fz .non)
 |_=>exact fl.elim
theorem R8(i:Nat)(h:QT X e rt):QT X e (ahE i rt):=PT.imp h λσ H Q hP=>by
 obtain⟨own,o,R,h,hr,k⟩:=hP;obtain⟨hr,ne⟩:=T5 (P:=λx=>rt (o.set i (.fz (frz x))) R) hr;obtain⟨u,e1,s⟩:=h.val rfl ne;obtain⟨am,h',S⟩:=h.frz (gR rfl ne) e1;exact⟨am,_,_,h',hr,k⟩
noncomputable def Wi:T->Option Key
 |.int i=>some (.inl i)
 |.str s=>some (.inr s)
 |_=>none
noncomputable def pG{α:Type} : List Key->List α->Key->Option α
 |k::ks,t::ts,j=>if k=j then some t else pG ks ts j
 |_,_,_=>none
theorem NP{K:Frag}{F:Hp}{x:V}{t:T}{k:Key}(h:Rep K F x t)(e:Wi t=some k):x=kV k:=by
 cases h<;>cases e<;>rfl
theorem Ci{K:Frag}{F:Hp}{k:Key} : ∀{ks:List Key}{xs:Ε}{ts:List T},bU K F xs ts->(∀t,pG ks ts k=some t->∃x,Gi (ks.zip xs) k=some x/\Rep K F x t)/\(pG ks ts k=none->Gi (ks.zip xs) k=none)
 |[],_,_,_=>⟨λ_ z=>(nomatch z),λ_=>rfl⟩
 |_::_,_,_,.nil=>⟨λ_ z=>(nomatch z),λ_=>rfl⟩
 |j::ks,_,_,.cons a b=>by
  by_cases h:j=k
  .refine⟨λt z=>?_,λz=>?_⟩
   .unfold pG at z;rw[ZY h]at z;cases z;exact⟨_,Rb h,a⟩
   .unfold pG at z;rw[ZY h]at z;cases z
  .obtain⟨i1,i2⟩:=Ci (k:=k) (ks:=ks) b;refine⟨λt z=>?_,λz=>?_⟩
   .unfold pG at z;rw[ZZ h]at z;obtain⟨x,e,r⟩:=i1 t z;exact⟨x,(Hi h).trans e,r⟩
   .unfold pG at z;rw[ZZ h]at z;exact(Hi h).trans (i2 z)
def ah9:zz
 |.dct ks ts,u,q=>∃k t,Wi u=some k/\pG ks ts k=some t/\q (.fz t)
 |_,_,_=>False
theorem Lz(hu:X.A.units+1<cLine)(ha:QE X a ra)(hb:QE X b rb)(hs:adU b:=by exact λ_ _=>rfl):QE X (.Subscript a b pos) (rOp ah9 ra rb):=(aaX hu ha hb hs).imp λσ H Q ⟨own,o,R,h,hr,k⟩=>tQ.mk h hr λH1 v x q E1 r1=>tQ.mk (h.same E1) q λH2 w y q E2 r2=>by
 have r1:=r1.same (bN E2)
 revert r1 q
 generalize frz x=t;intro q r1;cases t<;>try exact q.elim
 obtain⟨d,xs,rfl,e,l,r⟩:=r1.dctI;obtain⟨j,t,e1,e2,q⟩:=q;obtain⟨z,e3,r3⟩:=(Ci r).1 t e2;cases NP r2 e1;exact⟨d,z,rfl,.inl ⟨_,_,cM.rd e,rfl,e3.symm⟩,k H2 _ _ q (E1.trans E2) (NR.fz r3)⟩
def ad3(neg:Bool):zz
 |u,.dct ks ts,q=>∃k,Wi u=some k/\q (.fz (.bl (xr neg (pG ks ts k).isSome)))
 |_,_,_=>False
theorem aaj{neg:Bool}{σ:L2.St}{H:Hp}{Q:VK}(h:tQ X.K (rOp (ad3 neg) ra rb) σ H Q):(tQ X.K ra) σ H λy H1=>(tQ X.K rb) σ H1 λx H2=>∃a o,x=.ref a/\Ce H2 a y o/\Q (.bl (xr neg o.isSome)) H2:=by
 obtain⟨own,o,R,h,hr,k⟩:=h;refine tQ.mk h hr λH1 v x q E1 r1=>tQ.mk (h.same E1) q λH2 w y q E2 r2=>?_;have r1:=r1.same (bN E2)
 revert r2 q
 generalize frz y=t;intro q r2;cases t with
 |dct ks ts =>
  obtain⟨d,xs,rfl,e,l,r⟩:=r2.dctI;obtain⟨j,e1,q⟩:=q;cases NP r1 e1;refine⟨d,_,rfl,.inl ⟨_,_,cM.rd e,rfl,rfl⟩,?_⟩;have:(Gi (ks.zip xs) j).isSome=(pG ks ts j).isSome:=by
   cases z:pG ks ts j with
   |none=>rw[(Ci r).2 z];rfl
   |some t=>obtain⟨x,e,_⟩:=(Ci r).1 t z;rw[e];rfl
  rw[this];exact k H2 _ _ q (E1.trans E2) (NR.fz (.bl _))
 |_=>cases frz x<;>exact q.elim
theorem ac7{r:RE}{tt:TE}(i:∀σ H Q,tQ X.K r σ H Q->tt σ H Q){σ:L2.St}{H:Hp}{Q:Bool->Hp->Prop}(h:tQT X.K (rB r) σ H Q):tB tt σ H Q:=by
 obtain⟨own,o,R,h,hr,k⟩:=h;refine i σ H _ (tQ.mk h hr λH1 v x q E1 r1=>?_)
 revert r1 q
 generalize frz x=t;intro q r1;cases r1<;>try exact q.elim
 exact⟨_,rfl,k _ _ q E1⟩
theorem ZG(hu:X.A.units+1<cLine)(ha:QE X a ra)(hb:QE X b rb)(h1:behindInMarks .In b=false:=by rfl):QT X (.Compare a [.In] [b] pos) (rB (rOp (ad3 false) ra rb)):=(aac (ae7 hu ha hb) h1).imp λ_ _ _=>ac7 λ_ _ _=>aaj (neg:=false)
theorem Wx(hu:X.A.units+1<cLine)(ha:QE X a ra)(hb:QE X b rb)(h1:behindInMarks .NotIn b=false:=by rfl):QT X (.Compare a [.NotIn] [b] pos) (rB (rOp (ad3 true) ra rb)):=(aac (VF hu ha hb) h1).imp λ_ _ _=>ac7 λ_ _ _=>aaj (neg:=true)
def ajM:RE:=λ_ q=>q (.d1 [] [])
theorem K9:QE X (.Dict [] [] pos) ajM:=Yi.imp λσ H Q ⟨own,o,R,h,hr,k⟩ p hp=>k _ _ _ hr (Same.upd hp) ⟨[p],λa ha=>(YR.mp ha) ▸ hp,p,[],rfl,rfl,bW,rfl,.nil⟩
def am1(i:Nat)(a b:RE):RS:=λE o=>match slot o i with|.d1 ks ts=>a o λy=>b o λk=>∃j,Wi (frz k)=some j/\pG ks ts j=none/\ks.length<sizeLine/\ks.length=ts.length/\E.nx (o.set i (.d1 (ks++[j]) (ts++[frz y])))|_=>False
end
noncomputable def lkF{α:Type} : Θ->List α->Str->Option α
 |k::ks,t::ts,f=>if k=f then some t else lkF ks ts f
 |_,_,_=>none
noncomputable def Ht:Θ->Str->Θ
 |[],f=>[f]
 |k::ks,f=>if k=f then k::ks else k::Ht ks f
noncomputable def xO{α:Type} : Θ->List α->Str->α->List α
 |k::ks,t::ts,f,v=>if k=f then v::ts else t::xO ks ts f v
 |_,ts,_,v=>ts++[v]
theorem XH{K:Frag}{F:Hp}{f:Str} : ∀{ks:Θ}{xs:Ε}{ts:List T},bU K F xs ts->(∀t,lkF ks ts f=some t->∃x,(ks.zip xs).lookup f=some x/\Rep K F x t)/\(lkF ks ts f=none->(ks.zip xs).lookup f=none)
 |[],_,_,_=>⟨λ_ z=>(nomatch z),λ_=>rfl⟩
 |_::_,_,_,.nil=>⟨λ_ z=>(nomatch z),λ_=>rfl⟩
 |j::ks,_,_,.cons a b=>by
  obtain⟨i1,i2⟩:=XH (f:=f) (ks:=ks) b;by_cases h:j=f
  .refine⟨λt z=>?_,λz=>?_⟩
   .unfold lkF at z;rw[ZY h]at z;cases z;exact⟨_,by rw[List.zip_cons_cons,List.lookup_cons,h,beq_self_eq_true],a⟩
   .unfold lkF at z;rw[ZY h]at z;cases z
  .have e:∀x(r:List (Str×V)),((j,x)::r).lookup f=r.lookup f:=λx r=>by rw[List.lookup_cons,beq_false_of_ne (Ne.symm h)]
   refine⟨λt z=>?_,λz=>?_⟩
   .unfold lkF at z;rw[ZZ h]at z;obtain⟨x,e1,r⟩:=i1 t z;exact⟨x,(e _ _).trans e1,r⟩
   .unfold lkF at z;rw[ZZ h]at z;exact(e _ _).trans (i2 z)
theorem Q0{f:Str}{v:V} : ∀{ks:Θ}{xs:Ε},ks.length=xs.length->ud f v (ks.zip xs)=(Ht ks f).zip (xO ks xs f v)/\(Ht ks f).length=(xO ks xs f v).length
 |[],[],_=>⟨rfl,rfl⟩
 |k::ks,x::xs,l=>by
  obtain⟨i1,i2⟩:=Q0 (f:=f) (v:=v) (ks:=ks) (xs:=xs) (Nat.succ.inj l);show(if k=f then(k,v)::ks.zip xs else(k,x)::ud f v (ks.zip xs))=_/\_;unfold Ht xO;by_cases h:k=f
  .rw[ZY h,ZY h,ZY h];exact⟨rfl,l⟩
  .rw[ZZ h,ZZ h,ZZ h,i1];exact⟨rfl,ZH (· + 1) i2⟩
 |[],_::_,l=>by cases l
 |_::_,[],l=>by cases l
theorem bU.put{K:Frag}{F:Hp}{f:Str}{v:V}{t:T}(r:Rep K F v t):∀{ks:Θ}{xs:Ε}{ts:List T},bU K F xs ts->bU K F (xO ks xs f v) (xO ks ts f t)
 |[],_,_,h=>h.app (.cons r .nil)
 |_::_,_,_,.nil=>.cons r .nil
 |k::ks,_,_,.cons a b=>by
  unfold xO;by_cases h:k=f
  .rw[ZY h,ZY h];exact .cons r b
  .rw[ZZ h,ZZ h];exact .cons a (bU.put r b)
abbrev SI:=Addr->Θ->List T->List T->(Θ->List T->Prop)->Prop
def Slf(a dx b:Addr):Prop:=b=a\/b=dx
def spI(K:Frag)(S:SI):Sp:=λvs H Q _=>∃a dx C ks xs ts us as R,vs=.ref a::us/\H a=some (.ins C dx (ks.zip xs))/\H dx=some (.own a)/\ks.length=xs.length/\bU K (hd (Slf a dx) H) xs ts/\bU K (hd (Slf a dx) H) us as/\S C ks ts as R /\
 ∀H' dQ eL c6,R dQ c6->Same (hd (Slf a dx) H) (hd (Slf a dx) H')->H' a=some (.ins C dx (dQ.zip eL))->H' dx=some (.own a)->dQ.length=eL.length->bU K (hd (Slf a dx) H') eL c6->Q .non H'
section
variable{P:Program}{w:World}{K:Frag}{mg:Str->Ψ}{base:Heap}
def startI(n:Nat)(a dx C:Addr)(ks:Θ)(ts as:List T):List OT:=.ob a dx C ks ts::start' (n-1) as
noncomputable def agw(a dx:Addr):zk
 |0=>[a,dx]
 |_+1=>[]
theorem Uw(a dx:Addr):Ow (agw a dx)=Slf a dx:=funext λb=>propext ⟨(λh=>by
  obtain⟨i,z⟩:=h;cases i with
  |zero =>
   rcases YU.mp z with z|z
   .exact .inl z
   .exact .inr (YR.mp z)
  |succ i=>cases z),λz=>⟨0,by show b∈[a,dx];rcases z with rfl|rfl<;>simp⟩⟩
theorem SR.startI{H:Hp}{a dx C:Addr}{ks:Θ}{xs:Ε}{ts as:List T}{us:Ε}(ha:H a=some (.ins C dx (ks.zip xs)))(bv:H dx=some (.own a))(l:ks.length=xs.length)(r:bU K (hd (Slf a dx) H) xs ts)(r2:bU K (hd (Slf a dx) H) us as)(N:Θ)(hN:us.length+1<=N.length) :
  SR K (agw a dx) H (L2.start N (.ref a::us)) (L2.startI N.length a dx C ks ts as):=by
 have eO:=Uw a dx;refine⟨?_,λi x e=>?_,λi hi b hb=>?_,λi j b e1 e2=>?_⟩
 .unfold L2.startI start' L2.start;have:=r2.len;simp only[List.length_cons,aA,ak,aN];lia
 .rw[eO];unfold L2.startI at e;cases i with
  |zero =>
   cases e;exact⟨xs,rfl,rfl,ha,bv,l,r⟩
  |succ i =>
   rw[List.getElem?_cons_succ]at e;show Slo K _ _ _ [] x;unfold start' at e;unfold L2.start;rw[List.map_cons,List.cons_append,List.getElem?_cons_succ];by_cases hi:i<as.length
   .rw[aF (by simpa using hi),aq,aj hi]at e;cases e;obtain⟨v,e1,r1⟩:=r2.at_ (aj hi);rw[aF (by rw[ak,r2.len];exact hi),aq,e1];exact⟨rfl,v,rfl,r1⟩
   .rw[aD (by simpa using hi),ak,X0]at e;by_cases hj:i-as.length<N.length-1-as.length
    .rw[ZY hj]at e;cases e;rfl
    .rw[ZZ hj]at e;cases e
 .unfold L2.startI at hi;cases i with
  |zero=>cases hi
  |succ i=>cases hb
 .cases i with
  |zero =>
   cases j with
   |zero=>rfl
   |succ j=>cases e2
  |succ i=>cases e1
theorem Fun.okI{x af:Str}{st:Stmt}{f:Addr}{fd:FuncData}{N ps:Θ}{k:Nat}{S:SI}(F:Fun K x af st f fd)(sc:bK N ps (bF st))(len:∀C ks ts as R,S C ks ts as R->as.length+1=ps.length)(hn:ps.length<=N.length)
 (be:∀(ah:Value)(A:Around)(outer:List Env)(s:Shared)(H:Hp)(E:XK),dF k (A.deeper (envOfC af (bF st) s.heap.objs.size f ah)) ->
   ∃r,QSs (zR CX0 P w K mg base N af (bF st) f ah A outer s H E).nox (dH st) r/\∀a dx C ks ts as R,S C ks ts as R->r { nx:=λo=>∃dQ c6,slot o 0=.ob a dx C dQ c6/\R dQ c6,rt:=λ_=>False } (startI N.length a dx C ks ts as)):b_ P w K mg base CX0 (k+1) f fd ps (spI K S):=by
 refine F.ok sc (λvs H Q E h=>?_) λah A outer s H vs Q E hr h=>?_
 .obtain⟨a,dx,C,ks,xs,ts,us,as,R,rfl,_,_,_,_,r2,hS,_⟩:=h;rw[List.length_cons,r2.len];exact len _ _ _ _ _ hS
 .obtain⟨a,dx,C,ks,xs,ts,us,as,R,rfl,ha,bv,l,r,r2,hS,q⟩:=h;obtain⟨rd,h1,h2⟩:=be ah A outer s H E hr;have s0:=SR.startI ha bv l r r2 N (by rw[r2.len,len _ _ _ _ _ hS];exact hn);have eO:=Uw a dx;refine⟨_,h1,_,_,_,s0,h2 a dx C ks ts as R hS,⟨λown H' σ o rx E h=>?_,λ_ _ _ _ _ z=>z.elim,λ_ _ _ _ z=>z.elim,λ_ _ _ _ z=>z.elim,λ_ _ _ _ _ _ z=>z.elim⟩⟩;obtain⟨dQ,c6,es,rx⟩:=rx;rw[eO]at E;obtain⟨u,_,eL,e1,e2,e3,e4,e5,e6⟩:=h.val es (by intro z;cases z);have sub:Same (hd (Ow own) H') (hd (Slf a dx) H'):=fL (λb z=>.inl ⟨0,by rw[e2];rcases z with rfl|rfl<;>simp⟩) λ_ _ z=>z;exact q H' dQ eL c6 rx (E.trans sub) e3 e4 e5 (e6.same sub)
end
section
variable{X:Cx}{e:Expr}{es:List Expr}{re:RE}{r:RA}{f:Str}{pos ai p:Pos}{Fm:Addr->Prop}
def ade(Fm:Addr->Prop)(i:Nat)(f:Str):RE:=λo q=>match slot o i with|.ob _ _ C ks ts=>Fm C/\∃t,lkF ks ts f=some t/\q (.fz t)|_=>False
theorem ab4(i:Nat){x:Str}(c:∀C,Fm C->Cls X.K C/\bY X.K C f)(hN:X.N[i]?=some x:=by rfl)(hv:qF X.env.scope x=true:=by rfl)(bv:qk x:=by decide)(a9:qf x:=by decide)(hb:attributeBase (.Name x p) f X.env (eval (.Name x p) X.env)=eval (.Name x p) X.env:=by rfl):QE X (.Attribute (.Name x p) f pos) (ade Fm i f):=(Xe (pv i hN hv bv a9) hb).imp λσ H Q hP=>by
 obtain⟨own,o,R,h,hr,k⟩:=hP;unfold ade at hr;cases es:slot o i with
 |ob a dx C ks ts =>
  rw[es]at hr;obtain⟨u,e1,xs,e2,e3,e4,e5,l,r⟩:=h.val es (by intro z;cases z);cases e2;obtain⟨hf,t,e6,q⟩:=hr;obtain⟨v,e7,r7⟩:=(XH r).1 t e6;exact⟨_,e1,a,C,dx,_,v,rfl,e4,(c C hf).1,(c C hf).2,e7,k H _ _ q (.refl _) (NR.fz r7)⟩
 |_=>rw[es]at hr;exact hr.elim
def ac4(Fm:Addr->Prop)(i:Nat)(f:Str)(a:RE):RS:=λE o=>match slot o i with|.ob b dx C ks ts=>a o λy=>(Fm C/\ks.length<1000)/\E.nx (o.set i (.ob b dx C (Ht ks f) (xO ks ts f (frz y))))|_=>False
theorem qd(i:Nat){x:Str}{ax:Pos}(c:∀C,Fm C->Cls X.K C/\bY X.K C f)(he:QE X e re)(hN:X.N[i]?=some x:=by rfl)(hv:qF X.env.scope x=true:=by rfl)(bv:qk x:=by decide)(a9:qf x:=by decide)(hs:swapsWith e (some (.Attribute (.Name x p) f ax)) pos.line X.env=pure false:=by rfl):QS X (.Assign [.Attribute (.Name x p) f ax] e pos) (ac4 Fm i f re):=(adO (pv i hN hv bv a9) he hs).imp λD σ H hP=>by
 obtain⟨own,o,E,h,hr,L⟩:=hP;unfold ac4 at hr;cases es:slot o i with
 |ob a dx C ks ts =>
  rw[es]at hr;obtain⟨u,e1,xs,e2,e3,e4,e5,l,r⟩:=h.val es (by intro z;cases z);cases e2;refine tQ.mk h hr λH1 v y q E1 r1=>⟨_,e1,a,C,dx,_,rfl,E1 _ _ e4,(c C q.1.1).1,(c C q.1.1).2,by rw[VT,<- l,UX];exact q.1.2,?_⟩;obtain⟨pz,pl⟩:=Q0 (f:=f) (v:=v) l;rw[pz];have g6:dx≠a:=Gb e5 e4 (by intro z;cases z);obtain⟨h',S⟩:=(h.same E1).chg (gR es (by intro z;cases z)) (y:=.ob a dx C (Ht ks f) (xO ks ts f (frz y))) (H':=upd H1 a (.ins C dx ((Ht ks f).zip (xO ks xs f v)))) (λb u hb e=>(bR λz=>hb (by rw[e3,z];simp)).trans e) (by
   rw[e1,vg ⟨i,by rw[e3];simp⟩];exact⟨_,rfl,e3,bW,(bR g6).trans (E1 _ _ e5),pl,bU.put r1 (r.same (bN E1))⟩)
  exact L.nx own _ σ _ q.2 ((bN E1).trans S) h'
 |_=>rw[es]at hr;exact hr.elim
def alj(Fm:Addr->Prop)(f:Str)(a:RE):RE:=λo q=>a o λx=>match frz x with|.ins C ks ts=>Fm C/\∃t,lkF ks ts f=some t/\q (.fz t)|_=>False
theorem sG(c:∀C,Fm C->Cls X.K C/\bY X.K C f)(he:QE X e re)(hb:qB X e f:=by rfl):QE X (.Attribute e f pos) (alj Fm f re):=(Xe he hb).imp λσ H Q ⟨own,o,R,h,hr,k⟩=>tQ.mk h hr λH1 v x q E1 r1=>by
 revert r1 q
 generalize frz x=t;intro q r1;cases t<;>try exact q.elim
 obtain⟨a,dx,xs,rfl,e,d,l,r⟩:=r1.insI;obtain⟨hf,t,e6,q⟩:=q;obtain⟨v,e7,r7⟩:=(XH r).1 t e6;exact⟨a,_,dx,_,v,rfl,(cH e).2,(c _ hf).1,(c _ hf).2,e7,k H1 _ _ q E1 (NR.fz r7)⟩
abbrev OkM(X:Cx)(k:Nat)(fa:Addr)(ps:Θ)(S:ST):Prop:=zg X CX0 k fa ps (spT X.K S)
theorem OkI.hid{P:Program}{w:World}{K:Frag}{mg:Str->Ψ}{base:Heap}{k:Nat}{fa:Addr}{ps:Θ}{sp:Sp}(G:OkI P w K mg base CX0 k fa ps sp):OkI P w K mg base CX0 k fa ps (spH sp):=by obtain⟨fd,F,b⟩:=G;exact⟨fd,F.hid,b⟩
theorem PX{S:ST}{H1:Hp}{σ:L2.St}{own:zk}{o:List OT}{R:OT->Prop}{Q:VK}{vs:Ε}{ts:List T}{E:XK}(h1:SR X.K own H1 σ o)(r1:bU X.K (hd (Ow own) H1) vs ts)(q:S ts R)(k:∀H' v x,R x->Same H1 H'->NR X.K (Ow own) H1 H' v x->Q v H'):spH (spT X.K S) vs H1 Q E:=by
 refine⟨Ow own,h1.hid,ts,R,r1,q,λG v x rx E n bj=>?_⟩;have EH:Same H1 (mrg (Ow own) H1 G):=λb u e=>by
  by_cases z:Ow own b
  .rw[vU z];exact e
  .rw[j6 z];exact E b u ((cI z).trans e)
 have EG:Same G (mrg (Ow own) H1 G):=λb u e=>by rw[j6 λz=>by rw[bj b z]at e;cases e];exact e
 refine k _ v x rx EH ?_;obtain⟨B,nb,s⟩:=n;have out:∀a∈B,¬Ow own a:=λa ha z=>(s.sole ha).ne (bj a z);refine⟨B,λa ha=>by have:=nb a ha;rwa[cI (out a ha)]at this,s.same (fL (λb z=>?_) EG) EG⟩;rcases z with z|z
 .exact .inr (bj b z)
 .exact .inl (.inr z)
def ada(C:Addr)(KS:Θ)(S:ST)(a:RE)(r:RA):RE:=λo q=>a o λx=>match frz x with|.ins C' ks ts=>(C'=C/\ks=KS)/\r o λas=>S (.ins C' ks ts::as) q|_=>False
theorem Ms{f:Str} : ∀{KS:Θ}{xs:Ε},f∉KS->(KS.zip xs).lookup f=none
 |[],_,_=>rfl
 |_::_,[],_=>rfl
 |k::KS,x::xs,h=>by
  rw[List.zip_cons_cons,List.lookup_cons,beq_false_of_ne λ(z:f=k)=>h (by rw[z];exact aO ..)];exact Ms λz=>h (aJ _ z)
theorem Ep{o:Expr}{ro:RE}{k:Nat}{fa C:Addr}{ps KS:Θ}{S:ST}{pl:Sem Bool}(he:QE X o ro)(c:Cls X.K C)(hm:Meth X.K C f fa)(G:OkM X k fa ps S)(hr:dF k X.A)(ha:QA X (e::es) r)(hk:f∉KS:=by decide +kernel)
 (bE:qo X e es:=by rfl)(aS:qh X pos es:=by rfl)
 (ht:eval (.Call (.Attribute o f ai) (e::es) [] pos) X.env=(do
   let ov <- eval o X.env
   standAt ai.atName
   let(f,first) <- holding [ov] (getMethod ov f pl)
   callWith pos f first (backTo pos (starEach (e::es) X.env)) (backToKw pos (keywordEach [] X.env))):=by rfl) :
  QE X (.Call (.Attribute o f ai) (e::es) [] pos) (ada C KS S ro r):=(X4 (pl:=pl) he c hm (OkI.hid G) hr ha bE aS ht).imp λσ H Q ⟨own,o,R,h,hr,k⟩=>tQ.mk h hr λH1 v x q E1 r1=>by
 revert r1 q
 generalize frz x=t;intro q r1;cases t<;>try exact q.elim
 obtain⟨a,dx,xs,rfl,e,d,l,r⟩:=r1.insI;obtain⟨⟨rfl,rfl⟩,q⟩:=q;refine⟨a,dx,_,rfl,(cH e).2,Ms hk,tQA.mk (h.same E1) q λH2 vs as q _ E2 r2=>?_⟩;exact PX ((h.same E1).same E2) (.cons (r1.same (bN E2)) r2) q λH' v x rx E n=>k H' v x rx (E1.trans (E2.trans E)) (n.back (E1.trans E2))
theorem yR{o:Expr}{ro:RE}{k:Nat}{fa C:Addr}{ps KS:Θ}{S:ST}{pl:Sem Bool}(he:QE X o ro)(c:Cls X.K C)(hm:Meth X.K C f fa)(G:OkM X k fa ps S)(hr:dF k X.A)(hk:f∉KS:=by decide +kernel)
 (ht:eval (.Call (.Attribute o f ai) [] [] pos) X.env=(do
   let ov <- eval o X.env
   standAt ai.atName
   let(f,first) <- holding [ov] (getMethod ov f pl)
   callWith pos f first (backTo pos (starEach [] X.env)) (backToKw pos (keywordEach [] X.env))):=by rfl) :
  QE X (.Call (.Attribute o f ai) [] [] pos) (ada C KS S ro afR):=(V9 (pl:=pl) he c hm (OkI.hid G) hr ht).imp λσ H Q ⟨own,o,R,h,hr,k⟩=>tQ.mk h hr λH1 v x q E1 r1=>by
 revert r1 q
 generalize frz x=t;intro q r1;cases t<;>try exact q.elim
 obtain⟨a,dx,xs,rfl,e,d,l,r⟩:=r1.insI;obtain⟨⟨rfl,rfl⟩,q⟩:=q;refine⟨a,dx,_,rfl,(cH e).2,Ms hk,?_⟩;exact PX (E:=E0) (h.same E1) (.cons r1 .nil) q λH' v x rx E n=>k H' v x rx (E1.trans E) (n.back E1)
def ai5(C:Addr)(S:SI)(r:RA):RE:=λo q=>r o λas=>S C [] [] as λks ts=>q (.fz (.ins C ks ts))
theorem Ba{x:Str}{k:Nat}{fa C:Addr}{ps:Θ}{S:SI}(M:Mk X.K C fa)(G:zg X CX0 k fa ps (spI X.K S))(hr:dF (k+1) X.A)(hg:Gl X x)(hm:X.mg x=some (.ref C))(ha:QA X (e::es) r)(bu:qk x:=by decide)
 (he:qo X e es:=by rfl)(aS:qh X pos es:=by rfl):QE X (.Call (.Name x p) (e::es) [] pos) (ai5 C S r):=(Zt M (OkI.hid G) hr hg hm ha bu he aS).imp λσ H Q ⟨own,o,R,h,hr,k⟩=>tQA.mk h hr λH1 vs as q _ E1 r1 a dx na nd ne=>by
 have h1:=h.same E1;have E2:Same H1 (upd (upd H1 dx (.own a)) a (.ins C dx [])):=(Same.upd nd).trans (Same.upd ((bR (Ne.symm ne)).trans na));have h2:=h1.same E2;have oa:¬Ow own a:=λz=>(h1.sole z).ne na;have od:¬Ow own dx:=λz=>(h1.sole z).ne nd;refine⟨Ow own,h2.hid,a,dx,C,[],[],[],vs,as,_,rfl,(cI oa).trans bW,(cI od).trans ((bR ne).trans bW),rfl,.nil,r1.same (λb u e=>?_),q,λG dQ eL c6 rx E ea ed l r bj=>⟨rfl,?_⟩⟩
 .obtain⟨n,e⟩:=cH e;have n2:¬Slf a dx b:=λz=>by rcases z with rfl|rfl<;>rw[e]at *<;>contradiction
  rw[cI n2,cI n];exact E2 _ _ e
 .have EG:Same G (mrg (Ow own) (upd (upd H1 dx (.own a)) a (.ins C dx [])) G):=λb u e=>by rw[j6 λz=>by rw[bj b z]at e;cases e];exact e
  refine k _ _ _ rx (E1.trans λb u e=>?_) (NR.fz (.ins (dx:=dx) (ks:=dQ) (xs:=eL) ?_ ?_ l (r.same λb u e=>?_)))
  .by_cases z:Ow own b
   .rw[vU z];exact E2 _ _ e
   .have n2:¬Slf a dx b:=λz=>by rcases z with rfl|rfl<;>rw[e]at *<;>contradiction
    exact EG _ _ (cH (E b u ((cI n2).trans ((cI z).trans (E2 _ _ e))))).2
  .rw[cI oa];exact EG _ _ ea
  .rw[cI od];exact EG _ _ ed
  .have e':=(cH e).2;rw[cI λz=>by rw[bj b z]at e';cases e'];exact EG _ _ e'
def acX(i:Nat)(S:SI)(r:RA):RS:=λE o=>match slot o i with|.ob a dx C ks ts=>r o λas=>S C ks ts as λdQ c6=>E.nx (o.set i (.ob a dx C dQ c6))|_=>False
theorem Ek(i:Nat){x y m:Str}{p2 ag:Pos}{k:Nat}{fa B:Addr}{ps:Θ}{S:SI}{pl:Sem Bool}(c:Dd X.K B m fa)(G:zg X CX0 k fa ps (spI X.K S))(hr:dF k X.A)(hg:Gl X x)(hm:X.mg x=some (.ref B))(ha:QA X es r)
 (hN:X.N[i]?=some y:=by rfl)(hv:qF X.env.scope y=true:=by rfl)(bv:qk y:=by decide)(a9:qf y:=by decide)(bu:qk x:=by decide)
 (bE:starEach (.Name y p2::es) X.env=(false,eval (.Name y p2) X.env)::starEach es X.env:=by rfl)(aS:qh X ag es:=by rfl)
 (ht:eval (.Call (.Attribute (.Name x p) m ai) (.Name y p2::es) [] ag) X.env=(do
   let ov <- eval (.Name x p) X.env
   standAt ai.atName
   let(f,first) <- holding [ov] (getMethod ov m pl)
   callWith ag f first (backTo ag (starEach (.Name y p2::es) X.env)) (backToKw ag (keywordEach [] X.env))):=by rfl)
 (hs:swapsWith (.Call (.Attribute (.Name x p) m ai) (.Name y p2::es) [] ag) none pos.line X.env=pure false:=by rfl) :
  QS X (.Expr (.Call (.Attribute (.Name x p) m ai) (.Name y p2::es) [] ag) pos) (acX i S r):=(jV (aaz (pl:=pl) c (OkI.hid G) hr hg hm (cN (pv i hN hv bv a9) ha bE) bu bE aS ht) hs).imp λD σ H hP=>by
 obtain⟨own,o,E,h,hr,L⟩:=hP;unfold acX at hr;cases es:slot o i with
 |ob a dx C ks ts =>
  rw[es]at hr;obtain⟨u,e1,xs,e2,e3,e4,e5,l,r⟩:=h.val es (by intro z;cases z);cases e2;refine⟨_,e1,tQA.mk h hr λH1 vs as q _ E1 r1=>?_⟩;have h1:=h.same E1;have sub:∀b,Slf a dx b->b∈own i:=λb z=>by rw[e3];rcases z with rfl|rfl<;>simp
  have bus:∀b,b∈own i->Slf a dx b:=λb z=>by
   rw[e3]at z;rcases YU.mp z with z|z
   .exact .inl z
   .exact .inr (YR.mp z)
  have hid:Hid H1 (λb=>Ow own b/\¬Slf a dx b):=⟨λb z=>h1.sole z.1,λb C d f ⟨⟨j,z⟩,n⟩ e=>⟨⟨j,(h1.mate z).1 C d f e⟩,λy=>n (bus b ((h1.dis j i d ((h1.mate z).1 C d f e) (sub d y)) ▸ z))⟩,λb x ⟨⟨j,z⟩,n⟩ e=>⟨⟨j,(h1.mate z).2 x e⟩,λy=>n (bus b ((h1.dis j i x ((h1.mate z).2 x e) (sub x y)) ▸ z))⟩⟩;have eqF:∀H':Hp,hd (Slf a dx) (hd (λb=>Ow own b/\¬Slf a dx b) H')=hd (Ow own) H':=λH'=>funext λb=>by
   by_cases z:Slf a dx b
   .rw[m_ z,m_ ⟨i,sub b z⟩]
   .rw[cI z];by_cases y:Ow own b
    .rw[m_ (⟨y,z⟩ : Ow own b/\¬Slf a dx b),m_ y]
    .rw[cI (λw=>y w.1),cI y]
  have na:¬(Ow own a/\¬Slf a dx a):=λz=>z.2 (.inl rfl);have nd:¬(Ow own dx/\¬Slf a dx dx):=λz=>z.2 (.inr rfl);refine⟨_,hid,a,dx,C,ks,xs,ts,vs,as,_,rfl,(cI na).trans (E1 _ _ e4),(cI nd).trans (E1 _ _ e5),l,by rw[eqF];exact r.same (bN E1),by rw[eqF];exact r1,q,λG dQ eL c6 rx EE ea ed l' r' bj=>?_⟩;rw[eqF]at EE;have df:∀{b:Addr}{u:HO},G b=some u->mrg (λb=>Ow own b/\¬Slf a dx b) H1 G b=some u:=λ{b u}e=>(j6 λz=>by rw[bj b z]at e;cases e).trans e;obtain⟨h',S'⟩:=h1.chg (gR es (by intro z;cases z)) (y:=.ob a dx C dQ c6) (H':=mrg (λb=>Ow own b/\¬Slf a dx b) H1 G) (λb u hb e=>by
   by_cases z:Ow own b
   .rw[vU ⟨z,λy=>hb (sub b y)⟩];exact e
   .exact df (cH (EE b u ((cI z).trans e))).2) (by
   rw[e1];refine⟨eL,rfl,e3,df ea,df ed,l',r'.same λb u e=>?_⟩;obtain⟨n1,e⟩:=cH e;rw[cI λz=>by rw[bj b ⟨z,n1⟩]at e;cases e];exact df e)
  exact L.nx own _ σ _ rx ((bN E1).trans S') h'
 |_=>rw[es]at hr;exact hr.elim
end
section
variable{X:Cx}{a b c e:Expr}{ra rb rc re:RE}{pos p:Pos}
theorem jL{x:Str}{A:Addr}{i j:Int}{pos:Pos}(hg:Gl X x)(hm:X.mg x=some (.ref A))(kt:∀H,SqT X.K H A [.int i,.int j])(hd:qk x:=by decide):QE X (.Name x pos) (rC (.tup [.int i,.int j])):=qC (aas hg hm hd) λF=>.tup (kt F) (.cons (.int _) (.cons (.int _) .nil))
theorem QE.any{Fm:Addr->Prop}{r:Addr->RE}(h:∀C,Fm C->QE X e (r C)):QE X e (λo q=>∃C,Fm C/\r C o q):=λaa s σ H Q I ⟨own,o,R,hs,⟨C,hC,hr⟩,k⟩=>h C hC aa s σ H Q I ⟨own,o,R,hs,hr,k⟩
theorem p8{tg iter bg:Expr}{az:List Expr}{ri:RI}{g:qE}{rc:RT}{scope:Scope}{i0:Nat}{y0:Str}{py b9:Pos}(sc:Scope)(N N' xs:Θ)(hi:QI X tg iter ri)(hg:∀{C s₀ H₀ ex pn},QG (X.compG N' scope xs C s₀ H₀ ex pn) xs.length tg g)(ht:∀{C s₀ H₀ ex pn},QTs (X.compG N' scope xs C s₀ H₀ ex pn) az rc)(he:∀{C s₀ H₀ ex pn},QE (X.compG N' scope xs C s₀ H₀ ex pn) bg re)(fA:PG X (.Name y0 py) (xW i0))
 (cr:X.env.scope=sc:=by rfl)(cK:X.N=N:=by rfl)(hc:X.calm=true:=by rfl)(hk:scope.kind=.function:=by rfl)(h:CK sc scope N N' xs:=by decide +kernel)(fx:swapsWith (.ListComp bg [⟨tg,iter,az,0⟩] scope pos) (some (.Name y0 py)) b9.line X.env=pure true:=by rfl)(hs:qV X iter:=by intro _;rfl) :
  QS X (.Assign [.Name y0 py] (.ListComp bg [⟨tg,iter,az,0⟩] scope pos) b9) (ais i0 (Vz ri xs.length g rc re)):=(ZJ (gt:=tQG X.K xs.length g) (tc:=tQT X.K rc) (te:=tQ X.K re) sc N N' xs hi hg ht he fA cr cK hc hk h fx hs).imp λD σ H ⟨own,o,E,h,hr,L⟩=>Gy ⟨own,o,_,h,hr,λH' v y q S n=>by
 obtain⟨am,h',S'⟩:=h.putA S (n.frz λb z=>(h.sole z).ne) i0;exact L.nx am H' _ _ q S' h'⟩
def ak0(i j:Nat)(r:RA):RS:=λE o=>r o λts=>match ts with|[t,u]=>E.nx ((o.set i (.fz t)).set j (.fz u))|_=>False
theorem afC(i j:Nat){x y:Str}{r:RA}{px py pt:Pos}{kt k2 pt2}(hc:X.calm=true)(hN:X.N.Nodup)(io:i≠j)(ha:QA X [a,b] r)(hi:X.N[i]?=some x:=by rfl)(hj:X.N[j]?=some y:=by rfl)
 (hx:X.env.scope.names.lookup x=some .local:=by rfl)(hy:X.env.scope.names.lookup y=some .local:=by rfl)
 (hw:swappedStores [.Tuple [.Name x px,.Name y py] kt pt] (.Tuple [a,b] k2 pt2) X.env=pure (some [x,y]):=by rfl)
 (hs:swapsWithSole [.Tuple [.Name x px,.Name y py] kt pt] (.Tuple [a,b] k2 pt2) pos.line X.env=pure false:=by rfl) :
  QS X (.Assign [.Tuple [.Name x px,.Name y py] kt pt] (.Tuple [a,b] k2 pt2) pos) (ak0 i j r):=(afv hc hN hi hj io hx hy ha hw hs).imp λD σ H ⟨own,o,E,h,hr,L⟩=>⟨own,o,_,h,hr,λH1 vs ts q _ E1 r1=>by
 match ts,q with
 |[t,u],q =>
  obtain⟨v,w,rfl,rv,kQ⟩:=r1.two;refine⟨v,w,rfl,?_⟩;obtain⟨am,h',go⟩:=(h.same E1).setF rv (X1 i);obtain⟨b5,h2,S2⟩:=h'.putA (.refl _) (NR.fz (kQ.same go.same)) j;exact L.nx b5 H1 _ _ q ((bN E1).trans (go.same.trans S2)) h2⟩
theorem ix2{α β:Type}{xs:List α}{ys:List β}{j:Int}{y:β}(l:xs.length=ys.length)(e:ixT ys j=some y):∃n x,ixN ys.length j=some n/\ys[n]?=some y/\xs[n]?=some x/\atI xs j=some x:=by
 rw[TX]at e;unfold atI at e ⊢;rw[l];cases z:ixN ys.length j with
 |none=>rw[z]at e;cases e
 |some n =>
  rw[z]at e;have hn:n<xs.length:=l ▸ (ao.mp e).1;exact⟨n,xs[n],rfl,e,aj hn,aj hn⟩
theorem yS{α:Type} : ∀{l:List α},l.Nodup->∀{i j:Nat}{x:α},l[i]?=some x->l[j]?=some x->i=j
 |[],_,_,_,_,e,_=>by cases e
 |y::l,nd,i,j,x,e1,e2=>by
  obtain⟨n1,n2⟩:=List.nodup_cons.mp nd;cases i with
  |zero =>
   cases j with
   |zero=>rfl
   |succ j=>cases e1;exact absurd (aC (by simpa using e2)) n1
  |succ i =>
   cases j with
   |zero=>cases e2;exact absurd (aC (by simpa using e1)) n1
   |succ j=>exact ZH (· + 1) (yS n2 (by simpa using e1) (by simpa using e2))
theorem SR.l2{K:Frag}{own:zk}{H:Hp}{σ:L2.St}{o:List OT}(h:SR K own H σ o){i:Nat}{tss:List (List T)}(e:slot o i=.l2 tss):∃l bs,σ[i]?=some (some (.ref l))/\own i=l::bs/\(l::bs).Nodup/\H l=some (.lst (bs.map V.ref))/\bs.length=tss.length/\∀(i:Nat)b ts,bs[i]?=some b->tss[i]?=some ts->∃xs,H b=some (.lst xs)/\bU K (hd (Ow own) H) xs ts:=by
 obtain⟨u,e1,l,bs,e2,e3,nd,e4,ln,r⟩:=h.val e (by intro z;cases z);cases e2;exact⟨l,bs,e1,e3,nd,e4,ln,r⟩
theorem SR.chg2{K:Frag}{own:zk}{H:Hp}{σ:L2.St}{o:List OT}(h:SR K own H σ o){i n:Nat}{tss:List (List T)}(e:slot o i=.l2 tss){l b:Addr}{bs:Φ}{ys:Ε}{us:List T}(eσ:σ[i]?=some (some (.ref l)))(eo:own i=l::bs)(nd:(l::bs).Nodup)(e4:H l=some (.lst (bs.map V.ref)))(ln:bs.length=tss.length)(r:∀(i:Nat)b ts,bs[i]?=some b->tss[i]?=some ts->∃xs,H b=some (.lst xs)/\bU K (hd (Ow own) H) xs ts)(eb:bs[n]?=some b)(ry:bU K (hd (Ow own) H) ys us) :
  SR K own (upd H b (.lst ys)) σ (o.set i (.l2 (tss.set n us)))/\Same (hd (Ow own) H) (hd (Ow own) (upd H b (.lst ys))):=by
 have bm:=aC eb;obtain⟨nl,nd'⟩:=List.nodup_cons.mp nd;refine h.chg (gR e (by intro z;cases z)) (λc u hc e=>(bR λz=>hc (by rw[eo,z];exact aJ _ bm)).trans e) ?_;rw[eσ,vg ⟨i,by rw[eo];exact aJ _ bm⟩];refine⟨l,bs,rfl,eo,nd,(bR λ(z:l=b)=>nl (by rw[z];exact bm)).trans e4,by rw[VZ];exact ln,λk c ts e1 e2=>?_⟩;by_cases z:k=n
 .subst z;rw[eb]at e1;cases e1;rw[UY (ln ▸ (ao.mp eb).1)]at e2;cases e2;exact⟨ys,bW,ry⟩
 .rw[VW (Ne.symm z)]at e2;obtain⟨xs,q,rx⟩:=r k c ts e1 e2;refine⟨xs,(bR λy=>?_).trans q,rx⟩;have h1:=(ao.mp e1).1;have h2:=(ao.mp eb).1;exact z (yS nd' e1 (by rw[eb,y]))
theorem Ry{bs:Φ}{j:Int}{c:Addr}(e:atI bs j=some c):atI (bs.map V.ref) j=some (.ref c):=by
 have:atI (bs.map V.ref) j=(atI bs j).map V.ref:=by unfold atI;rw[ak];cases ixN bs.length j<;>simp
 rw[this,e];rfl
def adp(i:Nat)(a b:RE):RE:=λo q=>match slot o i with
 |.l2 tss=>a o λx=>(match frz x with|.int j=>∃ts,ixT tss j=some ts/\b o λy=>(match frz y with|.int m=>∃t,ixT ts m=some t/\q (.fz t)|_=>False)|_=>False)
 |_=>False
theorem aa4(i:Nat){x:Str}{p2:Pos}(ha:QE X a ra)(hb:QE X b rb)(hN:X.N[i]?=some x:=by rfl)(hv:qF X.env.scope x=true:=by rfl)(bv:qk x:=by decide)
 (a9:qf x:=by decide)(gi:sy a:=by exact λ_ _=>rfl)(hs:sy b:=by exact λ_ _=>rfl):QE X (.Subscript (.Subscript (.Name x p) a p2) b pos) (adp i ra rb):=(Jw xq (Jw xq (pv i hN hv bv a9) ha gi) hb hs).imp λσ H Q hP=>by
 obtain⟨own,o,R,h,hr,k⟩:=hP;unfold adp at hr;cases es:slot o i with
 |l2 tss =>
  rw[es]at hr;obtain⟨l,bs,e1,e3,nd,e4,ln,r⟩:=h.l2 es;refine⟨_,e1,tQ.mk h hr λH1 v x q E1 r1=>?_⟩
  revert r1 q
  generalize frz x=t;intro q r1;cases t<;>try exact q.elim
  cases r1;obtain⟨ts,ej,q⟩:=q;obtain⟨n,c,_,et,ec,ei⟩:=ix2 (xs:=bs) ln ej;obtain⟨xs,eq,rx⟩:=r n c ts ec et;refine⟨l,bs.map V.ref,_,.ref c,rfl,rfl,.of (E1 _ _ e4),?_,tQ.mk (h.same E1) q λH2 w y q E2 r2=>?_⟩
  .exact Ry ei
  .revert r2 q
   generalize frz y=t;intro q r2;cases t<;>try exact q.elim
   cases r2;obtain⟨t,em,q⟩:=q;obtain⟨z,e7,r7⟩:=rx.ix em;have bX:=E1.trans E2;exact⟨c,xs,_,z,rfl,rfl,.of (bX _ _ eq),e7,k H2 _ _ q bX (NR.fz (r7.same (bN bX)))⟩
 |_=>rw[es]at hr;exact hr.elim
def ac3(i:Nat)(a b:RE):RS:=λE o=>match slot o i with
 |.l2 tss=>a o λx=>(match frz x with|.int j=>∃n ts,ixN tss.length j=some n/\tss[n]?=some ts/\ts.length<sizeLine/\b o λy=>E.nx (o.set i (.l2 (tss.set n (ts++[frz y]))))|_=>False)
 |_=>False
theorem ix3{α β:Type}{xs:List α}{ys:List β}{j:Int}{n:Nat}{y:β}(l:xs.length=ys.length)(e:ixN ys.length j=some n)(ey:ys[n]?=some y):∃x,xs[n]?=some x/\atI xs j=some x:=by
 have hn:n<xs.length:=l ▸ (ao.mp ey).1;exact⟨xs[n],aj hn,by unfold atI;rw[l,e];exact aj hn⟩
theorem abe(i:Nat){x:Str}{ai ag p2:Pos}(ha:QE X a ra)(he:QE X e re)(hN:X.N[i]?=some x:=by rfl)(hv:qF X.env.scope x=true:=by rfl)(bv:qk x:=by decide)(a9:qf x:=by decide)(gi:sy a:=by exact λ_ _=>rfl)
 (hb:attributeBase (.Subscript (.Name x p) a p2) "append" X.env (eval (.Subscript (.Name x p) a p2) X.env)=eval (.Subscript (.Name x p) a p2) X.env:=by rfl)
 (hf:qr X ag e:=by rfl)
 (hl:zw ai ag:=by rfl)(bE:qo X e []:=by rfl)(hp:qh X ag []:=by rfl)
 (hs:swapsWith (.Call (.Attribute (.Subscript (.Name x p) a p2) "append" ai) [e] [] ag) none pos.line X.env=pure false:=by rfl) :
  QS X (.Expr (.Call (.Attribute (.Subscript (.Name x p) a p2) "append" ai) [e] [] ag) pos) (ac3 i ra re):=(jV (RM (Jw xq (pv i hN hv bv a9) ha gi) (cN he lA bE) hb hf hl bE hp) hs).imp λD σ H hP=>by
 obtain⟨own,o,E,h,hr,L⟩:=hP;unfold ac3 at hr;cases es:slot o i with
 |l2 tss =>
  rw[es]at hr;obtain⟨l,bs,e1,e3,nd,e4,ln,r⟩:=h.l2 es;refine⟨_,e1,tQ.mk h hr λH1 v x q E1 r1=>?_⟩
  revert r1 q
  generalize frz x=t;intro q r1;cases t<;>try exact q.elim
  cases r1;obtain⟨n,ts,en,et,sz,q⟩:=q;obtain⟨c,ec,ei⟩:=ix3 (xs:=bs) ln en et;obtain⟨xs,eq,rx⟩:=r n c ts ec et;refine⟨l,bs.map V.ref,_,.ref c,rfl,rfl,.of (E1 _ _ e4),Ry ei,c,xs,rfl,E1 _ _ eq,tQ.mk (h.same E1) q λH2 w y q E2 r2=>?_⟩;have bX:=E1.trans E2;refine⟨w,xs,rfl,bX _ _ eq,by rw[rx.len];exact sz,?_⟩;obtain⟨h',S⟩:=(h.same bX).chg2 es e1 e3 nd (bX _ _ e4) ln (λi b ts a c=>let⟨xs,p,q⟩:=r i b ts a c;⟨xs,bX _ _ p,q.same (bN bX)⟩) ec ((rx.same (bN bX)).app (.cons r2 .nil));exact L.nx own _ σ _ q ((bN bX).trans S) h'
 |_=>rw[es]at hr;exact hr.elim
def adw(i:Nat)(c a b:RE):RS:=λE o=>match slot o i with
 |.l2 tss=>c o λy=>a o λx=>(match frz x with|.int j=>∃n ts,ixN tss.length j=some n/\tss[n]?=some ts/\b o λz=>(match frz z with|.int m=>∃k,ixN ts.length m=some k/\E.nx (o.set i (.l2 (tss.set n (ts.set k (frz y)))))|_=>False)|_=>False)
 |_=>False
theorem aa2(i:Nat){x:Str}{ax p2:Pos}(he:QE X e re)(ha:QE X a ra)(hk:QE X b rb)(hN:X.N[i]?=some x:=by rfl)(hv:qF X.env.scope x=true:=by rfl)(bv:qk x:=by decide)(a9:qf x:=by decide)(gi:sy a:=by exact λ_ _=>rfl)
 (hq:∀v,assign (.Subscript (.Subscript (.Name x p) a p2) b ax) X.env v=(do
   let ov <- holding [v] (eval (.Subscript (.Name x p) a p2) X.env)
   let iv <- holding [v,ov] (eval b X.env)
   standAt ax
   holding [v,ov,iv] (setItem ov iv v)
   release [v,ov,iv] []):=by intro _;rfl)
 (hs:swapsWithSole [.Subscript (.Subscript (.Name x p) a p2) b ax] e pos.line X.env=pure false:=by rfl)(hw:swappedStores [.Subscript (.Subscript (.Name x p) a p2) b ax] e X.env=pure none:=by rfl)
 (h1:(assignEach [.Subscript (.Subscript (.Name x p) a p2) b ax] X.env).map (·.2)=[assign (.Subscript (.Subscript (.Name x p) a p2) b ax) X.env]:=by rfl):QS X (.Assign [.Subscript (.Subscript (.Name x p) a p2) b ax] e pos) (adw i re ra rb):=(Tt he (Xg (Jw xq (pv i hN hv bv a9) ha gi) hk set_list hq) hs hw h1).imp λD σ H hP=>by
 obtain⟨own,o,E,h,hr,L⟩:=hP;unfold adw at hr;cases es:slot o i with
 |l2 tss =>
  rw[es]at hr;obtain⟨l,bs,e1,e3,nd,e4,ln,r⟩:=h.l2 es;refine tQ.mk h hr λH0 v0 y q E0' r0=>⟨_,e1,tQ.mk (h.same E0') q λH1 v x q E1 r1=>?_⟩
  revert r1 q
  generalize frz x=t;intro q r1;cases t<;>try exact q.elim
  cases r1;obtain⟨n,ts,en,et,q⟩:=q;obtain⟨c,ec,ei⟩:=ix3 (xs:=bs) ln en et;obtain⟨xs,eq,rx⟩:=r n c ts ec et;have E01:=E0'.trans E1;refine⟨l,bs.map V.ref,_,.ref c,rfl,rfl,.of (E01 _ _ e4),Ry ei,tQ.mk (h.same E01) q λH2 w z q E2 r2=>?_⟩
  revert r2 q
  generalize frz z=t;intro q r2;cases t<;>try exact q.elim
  cases r2;obtain⟨k,ek,q⟩:=q;have bX:=E01.trans E2;refine⟨c,xs,_,k,rfl,rfl,bX _ _ eq,by rw[rx.len];exact ek,?_⟩;obtain⟨h',S⟩:=(h.same bX).chg2 es e1 e3 nd (bX _ _ e4) ln (λi b ts a c=>let⟨xs,p,q⟩:=r i b ts a c;⟨xs,bX _ _ p,q.same (bN bX)⟩) ec (bU.set (r0.same (bN (E1.trans E2))) k (rx.same (bN bX)));exact L.nx own _ σ _ q ((bN bX).trans S) h'
 |_=>rw[es]at hr;exact hr.elim
noncomputable def alo:zz
 |.str i,.str j,q=>q (.fz (.bl (!decide (j.cps.toList<i.cps.toList))))
 |_,_,_=>False
theorem Zf:GO X (compareOp .LtE) alo:=adF.imp λx y H Q hP=>by
 obtain⟨S,t,u,R,_,hx,hy,hg,k⟩:=hP;cases hx<;>try exact hg.elim
 cases hy<;>try exact hg.elim
 exact⟨_,_,rfl,rfl,k H _ _ hg (.refl _) (NR.fz (.bl _))⟩
theorem abD:GC X (.builtin "len") (g1 amd):=.one Nb λS t x H Q R rx hg k=>by
 cases t<;>try exact hg.elim
 cases rx;exact⟨_,rfl,hg.1,k H _ _ hg.2 (.refl _) (NR.fz (.int _))⟩
def alk(a:RE):RI:=λo q=>a o λx=>match frz x with|.str s=>q (s.cps.toList.map λc=>.str ⟨#[c]⟩)|_=>False
theorem aeF{tg:Expr}(he:QE X e re):QI X tg e (alk re):=(afG he).imp λσ H Q ⟨own,o,R,h,hr,k⟩=>tQ.mk h hr λH1 v x q E1 r1=>by
 revert r1 q
 generalize frz x=t;intro q r1;cases t<;>try exact q.elim
 cases r1;refine⟨_,rfl,k H1 _ _ q E1 λS H2 i _ SF=>⟨λhi=>show i=_ by simpa using hi,λt ht=>?_⟩⟩;rw[aq]at ht;cases z:(‹Str›.cps.toList)[i]? with
 |none=>rw[z]at ht;cases ht
 |some c =>
  rw[z]at ht;cases ht;refine⟨show i<_ by simpa using(ao.mp z).1,?_⟩;rintro x H3 ⟨rfl,c',e',rfl⟩;rw[<- Array.getElem?_toList,z]at e';cases e';exact⟨.refl _,.str _⟩
end
noncomputable abbrev HG:=qE
section
variable{α β:Type}{g:HG}{b:RS}{E:DT}{o:List OT}
theorem Vp(h:α->T)(l:List α)(J:List α->List OT->Prop)(st:∀as a bs o,l=as++a::bs->J as o->g (h a) o λo'=>b { E with nx:=J (as++[a]),ct:=J (as++[a]),bk:=E.nx } o')(aE:∀o,J l o->E.nx o):∀(bs as:List α)(o:List OT),l=as++bs->J as o->xV g b E (bs.map h) o
 |[],as,o,e,j=>aE o (by rw[List.append_nil]at e;rw[e];exact j)
 |a::bs,as,o,e,j=>⟨J (as++[a]),λo k=>Vp h l J st aE bs (as++[a]) o (by rw[e];simp) k,st as a bs o e j⟩
theorem gZ(h:α->T)(l:List α)(J:List α->List OT->Prop)(j:J [] o)(st:∀as a bs o,l=as++a::bs->J as o->g (h a) o λo'=>b { E with nx:=J (as++[a]),ct:=J (as++[a]),bk:=E.nx } o')(aE:∀o,J l o->E.nx o):xV g b E (l.map h) o:=Vp h l J st aE l [] o rfl j
theorem Aw(J:Nat->List OT->Prop):∀(xs:List T)(k:Nat){o:List OT},J k o->(∀i t o,xs[i]?=some t->J (k+i) o->g t o λo'=>b { E with nx:=J (k+i+1),ct:=J (k+i+1),bk:=E.nx } o')->(∀o,J (k+xs.length) o->E.nx o)->xV g b E xs o
 |[],_,o,j,_,aE=>aE o j
 |t::ts,k,o,j,st,aE=>⟨J (k+1),λo z=>Aw J ts (k+1) z (λi t o e z=>by
   have:=st (i+1) t o (by simpa using e) (by rw[show k+(i+1)=k+1+i by lia];exact z);rw[show k+(i+1)+1=k+1+i+1 by lia]at this;exact this) (λo z=>aE o (by rw[List.length_cons,show k+(ts.length+1)=k+1+ts.length by lia];exact z)),st 0 t o rfl j⟩
theorem rM{n:Nat}(J:Nat->List OT->Prop)(j:J 0 o)(st:∀k o,k<n->J k o->g (.int (k:Nat)) o λo'=>b { E with nx:=J (k+1),ct:=J (k+1),bk:=E.nx } o')(aE:∀o,J n o->E.nx o):xV g b E (rng 0 n) o:=by
 refine Aw J (rng 0 n) 0 j (λi t o e z=>?_) λo z=>aE o (by rw[rng,ak,WJ,Nat.zero_add]at z;exact z);unfold rng at e;rw[aq]at e;by_cases hi:i<n
 .rw[UZ hi]at e;cases e;rw[Nat.zero_add]at z ⊢;have:=st i o hi z;show g (.int (0+((i:Nat):Int))) o _;rw[show(0:Int)+((i:Nat):Int)=((i:Nat):Int)by exact Int.zero_add _];exact this
 .rw[aM (by simpa using hi)]at e;cases e
theorem wN(h:α->T)(l:List α)(J:Nat->List OT->Prop)(j:J 0 o)(st:∀k a o,l[k]?=some a->J k o->g (.tup [.int (k:Nat),h a]) o λo'=>b { E with nx:=J (k+1),ct:=J (k+1),bk:=E.nx } o')(aE:∀o,J l.length o->E.nx o):xV g b E (yc (l.map h)) o:=by
 refine Aw J (yc (l.map h)) 0 j (λi t o e z=>?_) λo z=>aE o (by rw[yc,ak,List.length_zipIdx,ak,Nat.zero_add]at z;exact z);unfold yc at e;rw[aq]at e;by_cases hi:i<l.length
 .rw[aj (by simpa using hi),List.getElem_zipIdx,UV]at e;cases e;rw[Nat.zero_add]at z ⊢;have:=st i _ o (aj hi) z;exact this
 .rw[aM (by simpa using hi)]at e;cases e
variable{c:RT}{e:RE}{q:List T->Prop}
theorem comp_map(h:α->T)(f:α->T):∀(l:List α){q:List T->Prop},(∀a∈l,∀(N:T->Prop)(M:Prop),N (f a)->g (h a) o λo'=>c o' λb=>sw b (e o' λy=>N (frz y)) M)->q (l.map f)->iZ g c e o (l.map h) q
 |[],_,_,k=>k
 |a::l,q,st,k=>⟨λy=>y=f a,False,λy z=>comp_map h f l (λa ha=>st a (aJ _ ha)) (z ▸ k),False.elim,st a (aO ..) (λy=>y=f a) False rfl⟩
theorem qe(h:α->T)(p:α->Bool)(f:α->T):∀(l:List α){q:List T->Prop},(∀a∈l,∀(N:T->Prop)(M:Prop),(p a=true->N (f a))->(p a=false->M)->g (h a) o λo'=>c o' λb=>sw b (e o' λy=>N (frz y)) M)->q ((l.filter p).map f)->iZ g c e o (l.map h) q
 |[],_,_,k=>k
 |a::l,q,st,k=>⟨λy=>y=f a/\p a=true,p a=false,λy z=>qe h p f l (λa ha=>st a (aJ _ ha)) (by rw[List.filter_cons_of_pos z.2]at k;exact z.1 ▸ k),λz=>qe h p f l (λa ha=>st a (aJ _ ha)) (by rw[List.filter_cons_of_neg (by rw[z];decide)]at k;exact k),st a (aO ..) (λy=>y=f a/\p a=true) (p a=false) (λz=>⟨rfl,z⟩) id⟩
inductive aee(R:α->T->Prop):List α->List T->Prop
 |nil:aee R [] []
 |cons {a:α}{t:T}{l:List α}{ts:List T} : R a t->aee R l ts->aee R (a::l) (t::ts)
theorem T9(f:Nat->T)(n:Nat)(st:∀k,k<n->∀(N:T->Prop)(M:Prop),N (f k)->g (.int (k:Nat)) o λo'=>c o' λb=>sw b (e o' λy=>N (frz y)) M)(k:q ((List.range n).map f)):iZ g c e o (rng 0 n) q:=by
 refine comp_map (λk:Nat=>.int (0+k)) f (List.range n) (λa ha N M hN=>?_) k;have:=st a (List.mem_range.mp ha) N M hN;show g (.int (0+((a:Nat):Int))) o _;rw[show(0:Int)+((a:Nat):Int)=((a:Nat):Int)by exact Int.zero_add _];exact this
theorem zip_map{α β:Type}(h:α->T)(k:β->T)(xs:List α)(ys:List β):Iu (xs.map h) (ys.map k)=(xs.zip ys).map λp=>.tup [h p.1,k p.2]:=by
 unfold Iu;rw[List.zip_map,WP]
 rfl
theorem Yw{α:Type}(h:α->T)(xs:List α):yc (xs.map h)=xs.zipIdx.map λp=>.tup [.int (p.2:Nat),h p.1]:=by
 unfold yc;rw[List.zipIdx_map,WP]
 rfl
end
noncomputable def KZ(ks:List Key)(j:Key):Bool:=ks.any λk=>decide (k=j)
def kpK(ks:List Key)(j:Key):List Key:=if KZ ks j=true then ks else ks++[j]
def kpT{α:Type}(ks:List Key)(ts:List α)(j:Key)(t:α):List α:=if KZ ks j=true then ks.zipWith (λk x=>if k=j then t else x) ts else ts++[t]
theorem Y_{j:Key}{v:V}{ks:List Key}{xs:Ε}(l:ks.length=xs.length):putK (ks.zip xs) j v=(kpK ks j).zip (kpT ks xs j v)/\(kpK ks j).length=(kpT ks xs j v).length:=by
 have any:∀{ks:List Key}{xs:Ε},ks.length=xs.length->((ks.zip xs).any λkv=>decide (kv.1=j))=KZ ks j:=λ{ks}=>by
  induction ks with
  |nil=>intro xs _;rfl
  |cons k ks ih =>
   intro xs l;cases xs with
   |nil=>cases l
   |cons x xs=>rw[List.zip_cons_cons,List.any_cons,ih (Nat.succ.inj l)];rfl
 unfold putK kpK kpT;rw[any l];by_cases h:KZ ks j=true
 .rw[ZY h,ZY h,ZY h];refine⟨?_,by rw[TZ,l,UX]⟩
  clear any h
  induction ks generalizing xs with
  |nil=>rfl
  |cons k ks ih =>
   cases xs with
   |nil=>cases l
   |cons x xs =>
    rw[List.zip_cons_cons,List.map_cons,ih (Nat.succ.inj l),List.zipWith_cons_cons,List.zip_cons_cons];by_cases h:k=j
    .rw[ZY h,ZY h]
    .rw[ZZ h,ZZ h]
 .rw[ZZ h,ZZ h,ZZ h];exact⟨by rw[List.zip_append l];rfl,by simp[l]⟩
theorem bU.kp{K:Frag}{F:Hp}{j:Key}{v:V}{t:T}(r:Rep K F v t){ks:List Key}{xs:Ε}{ts:List T}(h:bU K F xs ts):bU K F (kpT ks xs j v) (kpT ks ts j t):=by
 unfold kpT;by_cases z:KZ ks j=true
 .rw[ZY z,ZY z]
  clear z
  induction ks generalizing xs ts with
  |nil=>exact .nil
  |cons k ks ih =>
   cases h with
   |nil=>exact .nil
   |cons a b =>
    rw[List.zipWith_cons_cons,List.zipWith_cons_cons];refine .cons ?_ (ih b);by_cases y:k=j
    .rw[ZY y,ZY y];exact r
    .rw[ZZ y,ZZ y];exact a
 .rw[ZZ z,ZZ z];exact h.app (.cons r .nil)
section
variable{X:Cx}{a b c e:Expr}{ra rb rc re:RE}{pos p:Pos}
def adu(i:Nat)(a b:RE):RS:=λE o=>match slot o i with|.d1 ks ts=>a o λy=>b o λk=>∃j,Wi (frz k)=some j/\ks.length<sizeLine/\E.nx (o.set i (.d1 (kpK ks j) (kpT ks ts j (frz y))))|_=>False
theorem SR.d1{K:Frag}{own:zk}{H:Hp}{σ:L2.St}{o:List OT}(h:SR K own H σ o){i:Nat}{ks:List Key}{ts:List T}(e:slot o i=.d1 ks ts):∃l xs,σ[i]?=some (some (.ref l))/\own i=[l]/\H l=some (.dK (ks.zip xs))/\ks.length=xs.length/\bU K (hd (Ow own) H) xs ts:=by
 obtain⟨u,e1,l,xs,e2,e3,e4,r⟩:=h.val e (by intro z;cases z);cases e2;exact⟨l,xs,e1,e3,e4,r⟩
theorem Lp(i:Nat){x:Str}{ax:Pos}(hu:X.A.units+1<cLine)(he:QE X e re)(hb:QE X b rb)(hN:X.N[i]?=some x:=by rfl)(hv:qF X.env.scope x=true:=by rfl)(bv:qk x:=by decide)(a9:qf x:=by decide)
 (hs:swapsWith e (some (.Subscript (.Name x p) b ax)) pos.line X.env=pure false:=by rfl):QS X (.Assign [.Subscript (.Name x p) b ax] e pos) (adu i re rb):=(acE hu (pv i hN hv bv a9) hb he hs).imp λD σ H hP=>by
 obtain⟨own,o,E,h,hr,L⟩:=hP;unfold adu at hr;cases es:slot o i with
 |d1 ks ts =>
  rw[es]at hr;obtain⟨l,xs,e1,e3,e4,ln,r⟩:=h.d1 es;refine tQ.mk h hr λH1 v y q E1 r1=>⟨_,e1,tQ.mk (h.same E1) q λH2 w z q E2 r2=>?_⟩;obtain⟨j,ek,sz,q⟩:=q;have bX:=E1.trans E2;cases NP r2 ek;obtain⟨pk,pl⟩:=Y_ (j:=j) (v:=v) ln;have lz:(ks.zip xs).length<sizeLine:=by rw[VT,<- ln,UX];exact sz
  refine⟨l,_,rfl,.inl ⟨_,j,bX _ _ e4,rfl,lz,rfl⟩,?_⟩;rw[pk];obtain⟨h',S⟩:=(h.same bX).chg (gR es (by intro z;cases z)) (y:=.d1 (kpK ks j) (kpT ks ts j (frz y))) (H':=upd H2 l (.dK ((kpK ks j).zip (kpT ks xs j v)))) (λb u hb e=>(bR λz=>hb (by rw[e3,z];simp)).trans e) (by
   rw[e1,vg ⟨i,by rw[e3];simp⟩];exact⟨l,_,rfl,e3,bW,pl,bU.kp (r1.same (bN E2)) (r.same (bN bX))⟩)
  exact L.nx own _ σ _ q ((bN bX).trans S) h'
 |_=>rw[es]at hr;exact hr.elim
def adx(i:Nat)(a b:RE):RE:=λo q=>match slot o i with|.d1 ks ts=>a o λy=>b o λz=>∃j,Wi (frz y)=some j/\q (.fz ((pG ks ts j).getD (frz z)))|_=>False
theorem abG(i:Nat){x:Str}{ai ag:Pos}(hu:X.A.units+1<cLine)(ha:QE X a ra)(hb:QE X b rb)(m:M2 X (.Name x p) "get" ai a b ag:=by first|exact⟨rfl,rfl,rfl,rfl⟩|constructor<;>rfl)(hN:X.N[i]?=some x:=by rfl)(hv:qF X.env.scope x=true:=by rfl)(bv:qk x:=by decide)(a9:qf x:=by decide) :
  QE X (.Call (.Attribute (.Name x p) "get" ai) [a,b] [] ag) (adx i ra rb):=(Zj hu (pv i hN hv bv a9) ha hb m).imp λσ H Q hP=>by
 obtain⟨own,o,R,h,hr,k⟩:=hP;unfold adx at hr;cases es:slot o i with
 |d1 ks ts =>
  rw[es]at hr;obtain⟨l,xs,e1,e3,e4,ln,r⟩:=h.d1 es;refine⟨_,e1,l,rfl,.inl ⟨_,.inl e4⟩,tQ.mk h hr λH1 v y q E1 r1=>tQ.mk (h.same E1) q λH2 w z q E2 r2=>?_⟩;obtain⟨j,ek,q⟩:=q;have bX:=E1.trans E2;cases NP r1 ek;refine⟨_,Ce.k (bX _ _ e4),?_⟩;have r:=r.same (bN bX);cases z1:pG ks ts j with
  |none =>
   rw[z1]at q;rw[(Ci r).2 z1];exact k H2 _ _ q bX (NR.fz r2)
  |some t =>
   rw[z1]at q;obtain⟨u,e5,r5⟩:=(Ci r).1 t z1;rw[e5];exact k H2 _ _ q bX (NR.fz r5)
 |_=>rw[es]at hr;exact hr.elim
noncomputable def kT:Key->T
 |.inl i=>.int i
 |.inr s=>.str s
def ac0(i n:Nat)(g:qE)(c:RT)(e:RE):RS:=λE o=>match slot o i with
 |.d1 ks ts=>ks.length<=sizeLine/\iZ g c e (List.replicate n .und++o.set i (.fz (.dct ks ts))) (ks.map kT) λus=>E.rt (.l1 us)
 |_=>False
theorem abx{K:Frag}{a:Addr}{ob:Obj}{ks:List Key}{xs:Ε}{F:Hp}(l:ks.length=xs.length)(e:F a=some (.frz ob (.dK (ks.zip xs)))):Wlk K (Itk a ob (ks.zip xs)) F (ks.map kT):=λS H i _ SF=>by
 have eH:=(cH (SF _ _ e)).2;have lz:(ks.zip xs).length=ks.length:=by rw[VT,<- l,UX]
 refine⟨λhi=>⟨eH,by rw[lz];simpa using hi⟩,λt ht=>?_⟩;rw[aq]at ht;cases z:ks[i]? with
 |none=>rw[z]at ht;cases ht
 |some k =>
  rw[z]at ht;cases ht;have hi:=(ao.mp z).1;refine⟨⟨eH,by rw[lz];exact hi⟩,?_⟩;rintro x H' ⟨rfl,k',y,e1,rfl⟩;rw[aj (by rw[lz];exact hi),List.getElem_zip]at e1;rw[aj hi]at z;cases z;cases e1;refine⟨.refl _,?_⟩;cases ks[i]with
  |inl j=>exact .int _
  |inr s=>exact .str _
theorem abS{tg bg:Expr}{az:List Expr}{g:qE}{rc:RT}{scope:Scope}{x:Str}{ag:Pos}(i:Nat)(sc:Scope)(N N' xs:Θ)(hg:∀{C s₀ H₀ ex pn},QG (X.compG N' scope xs C s₀ H₀ ex pn) xs.length tg g)(ht:∀{C s₀ H₀ ex pn},QTs (X.compG N' scope xs C s₀ H₀ ex pn) az rc)(he:∀{C s₀ H₀ ex pn},QE (X.compG N' scope xs C s₀ H₀ ex pn) bg re)
 (hN:X.N[i]?=some x:=by rfl)(hv:qF X.env.scope x=true:=by rfl)(bv:qk x:=by decide)(a9:qf x:=by decide)
 (cr:X.env.scope=sc:=by rfl)(cK:X.N=N:=by rfl)(hc:X.calm=true:=by rfl)(hk:scope.kind=.function:=by rfl)(h:CK sc scope N N' xs:=by decide +kernel)(hs:∀z,foldedSetIterable (.Name x p) X.env z=pure z:=by intro _;rfl) :
  QS X (.Return (some (.ListComp bg [⟨tg,.Name x p,az,0⟩] scope ag)) pos) (ac0 i xs.length g rc re):=(Cz (ZS (gt:=tQG X.K xs.length g) (tc:=tQT X.K rc) (te:=tQ X.K re) sc N N' xs (aaN (tg:=tg) (pv i hN hv bv a9)) hg ht he cr cK hc hk h hs)).imp λD σ H hP=>by
 obtain⟨own,o,E,h,hr,L⟩:=hP;unfold ac0 at hr;cases es:slot o i with
 |d1 ks ts =>
  rw[es]at hr;obtain⟨l,ys,e1,e3,e4,ln,r⟩:=h.d1 es;refine⟨_,e1,l,_,rfl,e4,λob DD nD=>?_⟩;have eo:∀b,Ow (own1 own i []) b->Ow own b/\b≠l:=λb hP=>by
   obtain⟨j,z⟩:=hP;by_cases y:j=i
   .rw[y,iW]at z;cases z
   .rw[eF y]at z;exact⟨⟨j,z⟩,λw=>y (h.dis j i b z (by rw[e3,w];simp))⟩
  have nl:¬Ow (own1 own i []) l:=λz=>(eo l z).2 rfl;have ol:Ow own l:=⟨i,by rw[e3];simp⟩;have S1:Same (hd (Ow own) H) (hd (Ow (own1 own i [])) (upd H l (.frz ob (.dK (ks.zip ys))))):=λb u e=>by
   obtain⟨n,e⟩:=cH e;rw[cI λz=>n (eo b z).1,bR λ(z:b=l)=>n (z.symm ▸ ol)];exact e
  have h1:SR X.K (own1 own i []) (upd H l (.frz ob (.dK (ks.zip ys)))) σ (o.set i (.fz (.dct ks ts))):=by
   have hi:i<o.length:=(ao.mp (gR es (by intro z;cases z))).1;refine⟨by rw[VZ,h.len],λj y e'=>?_,λj hj a ha=>?_,λj k a z1 z2=>?_⟩
   .by_cases z:j=i
    .subst z;rw[UY hi]at e';cases e';rw[iW,e1];exact⟨rfl,_,rfl,.dct (.inr ⟨ob,by rw[cI nl];exact bW⟩) ln (r.same S1)⟩
    .rw[VW (Ne.symm z)]at e';rw[eF z];exact((h.sl j y e').same S1 (.refl _)).off λb hb u e=>(bR λw=>z (h.dis j i b hb (by rw[e3,w];simp))).trans e
   .rw[VZ]at hj;rw[eF (by lia)]at ha;obtain⟨xs,e⟩:=h.out j hj a ha;exact⟨xs,(bR λw=>by have:=h.dis j i a ha (by rw[e3,w];simp);lia).trans e⟩
   .by_cases z:j=i
    .rw[z,iW]at z1;cases z1
    by_cases y:k=i
    .rw[y,iW]at z2;cases z2
    .rw[eF z]at z1;rw[eF y]at z2;exact h.dis j k a z1 z2
  have L1:=L.step S1;refine O7 h1 (abx ln (by rw[cI nl];exact bW)) (by simpa using hr.1) hr.2 nD λH' v y rx E n=>?_;obtain⟨B,nb,s⟩:=n;exact L1.rt _ H' v y B rx (fL (λb z=>z.imp id (nb b)) E) s λa ha=>.inr ha
 |_=>rw[es]at hr;exact hr.elim
end
def ae9(K:Frag)(as:Φ)(H:Hp)(tss:List (List T)):Prop:=tss.length=as.length/\∀(j:Nat)a ts,as[j]?=some a->tss[j]?=some ts->∃xs,H a=some (.lst xs)/\bU K (hd (· ∈ as) H) xs ts
abbrev SO:=List (List T)->List T->(List (List T)->Prop)->Prop
def spO(K:Frag)(S:SO):Sp:=λvs H Q _=>∃(as:Φ)(tss:List (List T))(us:Ε)(ts:List T)(R:List (List T)->Prop),vs=as.map V.ref++us/\as.Nodup/\ae9 K as H tss/\bU K (hd (· ∈ as) H) us ts/\S tss ts R /\
 ∀H' bi,R bi->Same (hd (· ∈ as) H) (hd (· ∈ as) H')->ae9 K as H' bi->Q .non H'
noncomputable def ownL(as:Φ)(i:Nat):Φ:=match as[i]? with|some a=>[a]|none=>[]
theorem DW{as:Φ}{i:Nat}{b:Addr}(h:b∈ownL as i):as[i]?=some b:=by
 unfold ownL at h;cases e:as[i]? with
 |none=>rw[e]at h;cases h
 |some a=>rw[e]at h;cases YR.mp h;rfl
theorem U3{as:Φ}{i:Nat}{b:Addr}(h:as[i]?=some b):ownL as i=[b]:=by unfold ownL;rw[h]
theorem Ow.ownL(as:Φ):Ow (L2.ownL as)=(· ∈ as):=funext λb=>propext ⟨λ⟨i,z⟩=>aC (DW z),λz=>by
 obtain⟨i,e⟩:=aV z;exact⟨i,by rw[U3 e];simp⟩⟩
def startO(n:Nat)(as:Φ)(tss:List (List T))(ts:List T):List OT:=List.zipWith OT.la as tss++start' (n-as.length) ts
section
variable{P:Program}{w:World}{K:Frag}{mg:Str->Ψ}{base:Heap}
theorem SR.startO{H:Hp}{as:Φ}{tss:List (List T)}{us:Ε}{ts:List T}(nd:as.Nodup)(h:ae9 K as H tss)(r:bU K (hd (· ∈ as) H) us ts)(N:Θ)(hN:as.length+us.length<=N.length):SR K (ownL as) H (L2.start N (as.map V.ref++us)) (L2.startO N.length as tss ts):=by
 have zl:(List.zipWith OT.la as tss).length=as.length:=by rw[TZ,h.1,UX]
 refine⟨?_,λi x e=>?_,λi hi b hb=>?_,λi j b e1 e2=>yS nd (DW e1) (DW e2)⟩
 .unfold L2.startO start' L2.start;have:=r.len;simp only[aA,ak,aN,zl];lia
 .rw[Ow.ownL];unfold L2.startO at e;unfold L2.start;by_cases hi:i<as.length
  .rw[aF (by rw[zl];exact hi),List.getElem?_zipWith]at e;have ea:=aj hi;have et:=aj (l:=tss) (by rw[h.1];exact hi);rw[ea,et]at e;cases e;rw[U3 ea,aF (by simp;exact WU _ hi),aq,aF (by simpa using hi),aq,ea];obtain⟨xs,q,rx⟩:=h.2 i _ _ ea et;exact⟨xs,rfl,rfl,q,rx⟩
  .have on:ownL as i=[]:=by unfold ownL;rw[aM (Nat.not_lt.mp hi)]
   rw[on];rw[aD (by rw[zl];exact Nat.not_lt.mp hi),zl]at e;unfold start' at e;by_cases hj:i-as.length<ts.length
   .rw[aF (by simpa using hj),aq,aj hj]at e;cases e;obtain⟨v,e1,r1⟩:=r.at_ (aj hj);have:=r.len;rw[aF (by simp;lia),aq,aD (by simpa using Nat.not_lt.mp hi),ak,e1];exact⟨rfl,v,rfl,r1⟩
   .rw[aD (by simpa using hj),ak,X0]at e;split at e
    .cases e;rfl
    .cases e
 .unfold L2.startO at hi;rw[aA,zl]at hi;have:=(ao.mp (DW hb)).1;lia
theorem slot_of:∀{o:List OT}{i:Nat}{x:OT},o[i]?=some x->slot o i=x
 |[],_,_,e=>by cases e
 |_::_,0,_,e=>by cases e;rfl
 |_::l,i+1,x,e=>slot_of (o:=l) (by simpa using e)
theorem Fun.okO{x af:Str}{st:Stmt}{f:Addr}{fd:FuncData}{N ps:Θ}{k:Nat}{S:SO}(F:Fun K x af st f fd)(sc:bK N ps (bF st))(len:∀tss ts R,S tss ts R->tss.length+ts.length=ps.length)(hn:ps.length<=N.length)
 (be:∀(ah:Value)(A:Around)(outer:List Env)(s:Shared)(H:Hp)(E:XK),dF k (A.deeper (envOfC af (bF st) s.heap.objs.size f ah)) ->
   ∃r,QSs (zR CX0 P w K mg base N af (bF st) f ah A outer s H E).nox (dH st) r/\∀as tss ts R,tss.length=as.length->S tss ts R->r { nx:=λo=>∃bi,(∀j,slot o j=slot (List.zipWith OT.la as bi) j\/as.length<=j)/\bi.length=as.length/\R bi,rt:=λ_=>False } (startO N.length as tss ts)):b_ P w K mg base CX0 (k+1) f fd ps (spO K S):=by
 refine F.ok sc (λvs H Q E h=>?_) λah A outer s H vs Q E hr h=>?_
 .obtain⟨as,tss,us,ts,R,rfl,_,l,r,hS,_⟩:=h;rw[aA,ak,<- l.1,r.len];exact len _ _ _ hS
 .obtain⟨as,tss,us,ts,R,rfl,nd,l,r,hS,q⟩:=h;obtain⟨rd,h1,h2⟩:=be ah A outer s H E hr;have s0:=SR.startO nd l r N (by rw[<- l.1,r.len,len _ _ _ hS];exact hn);refine⟨_,h1,_,_,_,s0,h2 as tss ts R l.1 hS,⟨λown H' σ o rx E h=>?_,λ_ _ _ _ _ z=>z.elim,λ_ _ _ _ z=>z.elim,λ_ _ _ _ z=>z.elim,λ_ _ _ _ _ _ z=>z.elim⟩⟩;obtain⟨bi,es,tl,rx⟩:=rx;rw[Ow.ownL]at E;have ck:∀(j:Nat)a t,as[j]?=some a->bi[j]?=some t->slot o j=.la a t:=λj a t e1 e2=>by
   rcases es j with z|z
   .rw[z];exact slot_of (by rw[List.getElem?_zipWith,e1,e2])
   .exact absurd (ao.mp e1).1 (Nat.not_lt.mpr z)
  have sub:Same (hd (Ow own) H') (hd (· ∈ as) H'):=fL (λb z=>.inl (by
   obtain⟨j,e⟩:=aV z;have lj:j<bi.length:=tl ▸ (ao.mp e).1;obtain⟨u,_,xs,_,e3,_⟩:=h.val (ck j b _ e (aj lj)) (by intro z;cases z);exact⟨j,by rw[e3];simp⟩)) λ_ _ z=>z
  refine q H' bi rx (E.trans sub) ⟨tl,λj a t e1 e2=>?_⟩;obtain⟨u,_,xs,_,_,e4,r4⟩:=h.val (ck j a t e1 e2) (by intro z;cases z);exact⟨xs,e4,r4.same sub⟩
end
section
variable{X:Cx}{es:List Expr}{r:RA}{pos p p1 p2 ag:Pos}
theorem Xd{K:Frag}{own:zk}{H:Hp}{σ:L2.St}{o:List OT}(h:SR K own H σ o){as:Φ}(hs:∀a∈as,∃j,own j=[a]):Hid H (λb=>Ow own b/\b∉as)/\∀H':Hp,hd (· ∈ as) (hd (λb=>Ow own b/\b∉as) H')=hd (Ow own) H':=by
 have in1:∀{b x:Addr}{j:Nat},b∈own j->b∉as->x∈own j->x∉as:=λ{b x j}hb n hx z=>by
  obtain⟨k,ek⟩:=hs x z;have:=h.dis j k x hx (by rw[ek];simp);subst this;rw[ek]at hb hx;cases YR.mp hb;exact n z
 refine⟨⟨λb z=>h.sole z.1,λb C d f ⟨⟨j,z⟩,n⟩ e=>⟨⟨j,(h.mate z).1 C d f e⟩,in1 z n ((h.mate z).1 C d f e)⟩,λb x ⟨⟨j,z⟩,n⟩ e=>⟨⟨j,(h.mate z).2 x e⟩,in1 z n ((h.mate z).2 x e)⟩⟩,λH'=>funext λb=>?_⟩;by_cases z:b∈as
 .obtain⟨k,ek⟩:=hs b z;rw[m_ z,m_ ⟨k,by rw[ek];simp⟩]
 .rw[cI z];by_cases y:Ow own b
  .rw[m_ (⟨y,z⟩ : Ow own b/\b∉as),m_ y]
  .rw[cI (λw=>y w.1),cI y]
def akA(i:Nat)(S:SO)(r:RA):RS:=λE o=>onL (slot o i) λts c=>r o λas=>S [ts] as λtss=>match tss with|[t]=>E.nx (o.set i (c t))|_=>False
theorem afA(i:Nat){x y:Str}{k:Nat}{ps:Θ}{S:SO}(G:OkF X.prog X.w X.K X.mg X.base k x ps (spO X.K S))(hr:dF k X.A)(hg:Gl X x)(ha:QA X es r)(hN:X.N[i]?=some y:=by rfl)(hv:qF X.env.scope y=true:=by rfl)(bv:qk y:=by decide)(a9:qf y:=by decide)(bu:qk x:=by decide)
 (he:starEach (.Name y p1::es) X.env=(false,eval (.Name y p1) X.env)::starEach es X.env:=by rfl)(aS:qh X ag es:=by rfl)(hs:swapsWith (.Call (.Name x p) (.Name y p1::es) [] ag) none pos.line X.env=pure false:=by rfl):QS X (.Expr (.Call (.Name x p) (.Name y p1::es) [] ag) pos) (akA i S r):=by
 obtain⟨f,fd,F,b,hm,kp⟩:=G;refine(jV (zE (sp:=spH (spO X.K S)) ⟨f,fd,F.hid,b,hm,kp⟩ hr hg (cN (pv i hN hv bv a9) ha he) bu he aS) hs).imp λD σ H hP=>?_;obtain⟨own,o,E,h,hr,L⟩:=hP;obtain⟨ts,c,hr,es⟩:=Cq hr;obtain⟨l,xs,e1,e2,e3,r0,sl⟩:=h.l1 es;refine⟨_,e1,tQA.mk h hr λH1 vs as q _ E1 r1=>?_⟩;have h1:=h.same E1;obtain⟨hid,eqF⟩:=Xd h1 (as:=[l]) λa ha=>⟨i,by rw[YR.mp ha];exact e2⟩;have nl:¬(Ow own l/\l∉[l]):=λz=>z.2 (by simp);refine⟨_,hid,[l],[ts],vs,as,_,rfl,by simp,⟨rfl,λj a t ea et=>?_⟩,by rw[eqF];exact r1,q,λG bi rx EE ls bj=>?_⟩
 .cases j with
  |zero=>cases ea;cases et;exact⟨xs,(cI nl).trans (E1 _ _ e3),by rw[eqF];exact r0.same (bN E1)⟩
  |succ j=>cases ea
 .match bi,rx,ls with
  |[t],rx,ls =>
   obtain⟨ys,ey,ry⟩:=ls.2 0 l t rfl rfl;rw[eqF]at EE;have df:∀{b:Addr}{u:HO},G b=some u->mrg (λb=>Ow own b/\b∉[l]) H1 G b=some u:=λ{b u}e=>(j6 λz=>by rw[bj b z]at e;cases e).trans e;obtain⟨x,ex⟩:=Hu es;obtain⟨h',S'⟩:=h1.chg ex (y:=c t) (H':=mrg (λb=>Ow own b/\b∉[l]) H1 G) (λb u hb e=>by
    by_cases z:Ow own b
    .rw[vU ⟨z,λy=>hb (by rw[e2];exact y)⟩];exact e
    .exact df (cH (EE b u ((cI z).trans e))).2) (by
    rw[e1,e2];refine sl _ ys t (df ey) (ry.same λb u e=>?_);obtain⟨n1,e⟩:=cH e;rw[cI λz=>by rw[bj b ⟨z,n1⟩]at e;cases e];exact df e)
   exact L.nx own _ σ _ rx ((bN E1).trans S') h'
def alI(i j:Nat)(S:SO)(r:RA):RS:=λE o=>onL (slot o i) λts c=>onL (slot o j) λus d=>r o λas=>S [ts,us] as λtss=>match tss with|[t,u]=>E.nx ((o.set i (c t)).set j (d u))|_=>False
theorem Ft(i j:Nat){x y z:Str}{k:Nat}{ps:Θ}{S:SO}(G:OkF X.prog X.w X.K X.mg X.base k x ps (spO X.K S))(hr:dF k X.A)(hg:Gl X x)(ha:QA X es r)(io:i≠j:=by decide)(hN:X.N[i]?=some y:=by rfl)(hv:qF X.env.scope y=true:=by rfl)(bv:qk y:=by decide)(a9:qf y:=by decide)(hN2:X.N[j]?=some z:=by rfl)(lP:qF X.env.scope z=true:=by rfl)(m3:qk z:=by decide)(ng:qf z:=by decide)(bu:qk x:=by decide)
 (he:starEach (.Name y p1::.Name z p2::es) X.env=(false,eval (.Name y p1) X.env)::starEach (.Name z p2::es) X.env:=by rfl)(he2:starEach (.Name z p2::es) X.env=(false,eval (.Name z p2) X.env)::starEach es X.env:=by rfl)(aS:(backTo ag (starEach (.Name z p2::es) X.env)).any (·.1)=false:=by rfl)(hs:swapsWith (.Call (.Name x p) (.Name y p1::.Name z p2::es) [] ag) none pos.line X.env=pure false:=by rfl):QS X (.Expr (.Call (.Name x p) (.Name y p1::.Name z p2::es) [] ag) pos) (alI i j S r):=by
 obtain⟨f,fd,F,b,hm,kp⟩:=G;refine(jV (zE (sp:=spH (spO X.K S)) ⟨f,fd,F.hid,b,hm,kp⟩ hr hg (cN (pv i hN hv bv a9) (cN (pv j hN2 lP m3 ng) ha he2) he) bu he aS) hs).imp λD σ H hP=>?_;obtain⟨own,o,E,h,hr,L⟩:=hP;obtain⟨ts,c,hr,es⟩:=Cq hr;obtain⟨us,d,hr,es2⟩:=Cq hr;obtain⟨l,xs,e1,e2,e3,r0,sl⟩:=h.l1 es;obtain⟨m,zs,f1,f2,f3,s0,sl2⟩:=h.l1 es2;have lm:l≠m:=λz=>io (h.dis i j l (by rw[e2];simp) (by rw[f2,z];simp));refine⟨_,e1,_,f1,tQA.mk h hr λH1 vs as q _ E1 r1=>?_⟩;have h1:=h.same E1;obtain⟨hid,eqF⟩:=Xd h1 (as:=[l,m]) λa ha=>by
  rcases YU.mp ha with z|z
  .exact⟨i,by rw[z];exact e2⟩
  .exact⟨j,by rw[YR.mp z];exact f2⟩
 have nl:¬(Ow own l/\l∉[l,m]):=λz=>z.2 (by simp);have nm:¬(Ow own m/\m∉[l,m]):=λz=>z.2 (by simp);refine⟨_,hid,[l,m],[ts,us],vs,as,_,rfl,by simp[lm],⟨rfl,λj a t ea et=>?_⟩,by rw[eqF];exact r1,q,λG bi rx EE ls bj=>?_⟩
 .match j,ea,et with
  |0,ea,et=>cases ea;cases et;exact⟨xs,(cI nl).trans (E1 _ _ e3),by rw[eqF];exact r0.same (bN E1)⟩
  |1,ea,et=>cases ea;cases et;exact⟨zs,(cI nm).trans (E1 _ _ f3),by rw[eqF];exact s0.same (bN E1)⟩
  |j+2,ea,_=>cases ea
 .match bi,rx,ls with
  |[t,u],rx,ls =>
   obtain⟨ys,ey,ry⟩:=ls.2 0 l t rfl rfl;obtain⟨ws,ew,kQ⟩:=ls.2 1 m u rfl rfl;rw[eqF]at EE;have df:∀{b:Addr}{u:HO},G b=some u->mrg (λb=>Ow own b/\b∉[l,m]) H1 G b=some u:=λ{b u}e=>(j6 λz=>by rw[bj b z]at e;cases e).trans e;generalize hM:mrg (λb=>Ow own b/\b∉[l,m]) H1 G=M at df;have keep:∀b u,b≠l->b≠m->H1 b=some u->M b=some u:=λb u n1 n2 e=>by
    by_cases z:Ow own b
    .rw[<- hM,vU ⟨z,by simp[n1,n2]⟩];exact e
    .exact df (cH (EE b u ((cI z).trans e))).2
   have back:∀(M':Hp),(∀b,b≠m->M' b=M b)->Same (hd (· ∈ [l,m]) G) (hd (Ow own) M'):=λM' hM' b u e=>by
    obtain⟨n1,e⟩:=cH e;rw[cI (λz=>by rw[bj b ⟨z,n1⟩]at e;cases e),hM' b λz=>n1 (by simp[z])];exact df e
   obtain⟨x,ex⟩:=Hu es;obtain⟨x2,ex2⟩:=Hu es2;obtain⟨h2,S2⟩:=h1.chg ex (y:=c t) (H':=upd M m (.lst zs)) (λb u hb e=>by
    by_cases z:b=m
    .rw[z,bW];rw[z,E1 _ _ f3]at e;exact e
    .rw[bR z];exact keep b u (λy=>hb (by rw[e2,y];simp)) z e) (by
    rw[e1,e2];exact sl _ ys t ((bR lm).trans (df ey)) (ry.same (back _ λb n=>bR n)))
   obtain⟨h3,S3⟩:=h2.chg (show(o.set i (c t))[j]?=some x2 by rw[VW io];exact ex2) (y:=d u) (H':=M) (λb w hb e=>by rw[bR λz=>hb (by rw[f2,z];simp)]at e;exact e) (by
    rw[f1,f2];exact sl2 _ ws u (df ew) (kQ.same (back _ λ_ _=>rfl)))
   exact L.nx own _ σ _ rx ((bN E1).trans (S2.trans S3)) h3
end
def HJ(g:qE)(c:RT)(e:RE)(o:List OT):List T->(List (List T)->Prop)->Prop
 |[],q=>q []
 |t::ts,q=>∃(N:List T->Prop)(M:Prop),(∀y,N y->HJ g c e o ts λus=>q (y::us))/\(M->HJ g c e o ts q)/\g t o λo'=>c o' λb=>sw b (e o' λy=>match y with|.l1 us=>N us|_=>False) M
def ZP(it:RI)(n:Nat)(g:qE)(c:RT)(e:RE):RE:=λo q=>it o λxs=>xs.length<=sizeLine/\HJ g c e (List.replicate n .und++o) xs λus=>q (.l2 us)
noncomputable def ownL2(n L:Nat)(own:zk)(A:Φ):zk:=λi=>if i<n then[]else if i<n+L then own (i-n)else if i=n+L then A else own (i-n-1)
theorem Ow.ownL2{n L:Nat}{own:zk}{A:Φ}{b:Addr} : Ow (ownL2 n L own A) b↔Ow own b\/b∈A:=by
 constructor
 .rintro⟨i,z⟩;unfold L2.ownL2 at z;by_cases h1:i<n
  .rw[ZY h1]at z;cases z
  rw[ZZ h1]at z;by_cases h2:i<n+L
  .rw[ZY h2]at z;exact .inl ⟨_,z⟩
  rw[ZZ h2]at z;by_cases h3:i=n+L
  .rw[ZY h3]at z;exact .inr z
  .rw[ZZ h3]at z;exact .inl ⟨_,z⟩
 .rintro(⟨i,z⟩|z)
  .by_cases h:i<L
   .exact⟨n+i,by unfold L2.ownL2;rw[ZZ (UK (X2 _ _)),ZY (Nat.add_lt_add_left h _),show n+i-n=i by exact Tk _ _];exact z⟩
   .exact⟨n+i+1,by unfold L2.ownL2;rw[ZZ (by lia),ZZ (by lia),ZZ (by lia),show n+i+1-n-1=i by lia];exact z⟩
  .exact⟨n+L,by unfold L2.ownL2;rw[ZZ (UK (X2 _ _)),ZZ (X9 _),ZY rfl];exact z⟩
theorem SR.blockL{K:Frag}{own:zk}{H:Hp}{σ:L2.St}{o:List OT}(h:SR K own H σ o){A:Φ}{H':Hp}(E:Same H H')(nA:∀a∈A,H a=none)(eA:∀a∈A,∃ys,H' a=some (.lst ys))(pre:L2.St):SR K (ownL2 pre.length o.length own A) H' (pre++σ) (List.replicate pre.length .und++o):=by
 have le:Same (hd (Ow own) H) (hd (Ow (ownL2 pre.length o.length own A)) H'):=fL (λb z=>(Ow.ownL2.mp z).imp id (nA b)) E;have fw:∀j,∀a∈A,a∉own j:=λj a ha z=>(h.sole ⟨j,z⟩).ne (nA a ha);refine⟨by simp[h.len],λi x e=>?_,λi hi a ha=>?_,λi j a e1 e2=>?_⟩
 .by_cases h1:i<pre.length
  .rw[aF (by simpa using h1),X0,ZY h1]at e;cases e;show ownL2 _ _ _ _ i=[];unfold ownL2;rw[ZY h1]
  .rw[aD (by simpa using h1),aN]at e;have h2:i-pre.length<o.length:=(ao.mp e).1;rw[aD (Nat.not_lt.mp h1)];have:ownL2 pre.length o.length own A i=own (i-pre.length):=by unfold ownL2;rw[ZZ h1,ZY (by omega)]
   rw[this];exact(h.sl _ x e).same le E
 .rw[aA,aN]at hi;unfold ownL2 at ha;rw[ZZ (by lia),ZZ (UK hi)]at ha;by_cases h3:i=pre.length+o.length
  .rw[ZY h3]at ha;exact eA a ha
  .rw[ZZ h3]at ha;obtain⟨xs,e⟩:=h.out _ (by lia) a ha;exact⟨xs,E _ _ e⟩
 .unfold ownL2 at e1 e2;by_cases a1:i<pre.length
  .rw[ZY a1]at e1;cases e1
  by_cases b1:j<pre.length
  .rw[ZY b1]at e2;cases e2
  rw[ZZ a1]at e1;rw[ZZ b1]at e2;by_cases a2:i<pre.length+o.length<;>by_cases b2:j<pre.length+o.length
  .rw[ZY a2]at e1;rw[ZY b2]at e2;have:=h.dis _ _ a e1 e2;omega
  .rw[ZY a2]at e1;rw[ZZ b2]at e2;by_cases b3:j=pre.length+o.length
   .rw[ZY b3]at e2;exact absurd e1 (fw _ a e2)
   .rw[ZZ b3]at e2;have:=h.dis _ _ a e1 e2;omega
  .rw[ZZ a2]at e1;rw[ZY b2]at e2;by_cases a3:i=pre.length+o.length
   .rw[ZY a3]at e1;exact absurd e2 (fw _ a e1)
   .rw[ZZ a3]at e1;have:=h.dis _ _ a e1 e2;lia
  .rw[ZZ a2]at e1;rw[ZZ b2]at e2;by_cases a3:i=pre.length+o.length<;>by_cases b3:j=pre.length+o.length
   .exact Eq.trans a3 (Eq.symm b3)
   .rw[ZY a3]at e1;rw[ZZ b3]at e2;exact absurd e2 (fw _ a e1)
   .rw[ZZ a3]at e1;rw[ZY b3]at e2;exact absurd e1 (fw _ a e2)
   .rw[ZZ a3]at e1;rw[ZZ b3]at e2;have:=h.dis _ _ a e1 e2;lia
theorem WK{K:Frag}{σ:L2.St}{Q:VK}{n:Nat}{g:qE}{rc:RT}{re:RE}{own:zk}{o:List OT}{H1:Hp}{J:It}{xs:List T}{R:OT->Prop}{D:Addr}(h1:SR K own H1 σ o)(wk:Wlk K J (hd (Ow own) H1) xs)(lx:xs.length<=sizeLine)(q:HJ g rc re (List.replicate n .und++o) xs λus=>R (.l2 us))(nD:H1 D=none)(k:∀H' v x,R x->Same H1 H'->NR K (Ow own) H1 H' v x->Q v H') :
  ∃W:Nat->Nat->Ε->Hp->Prop,(∃m,W 0 m [] (upd H1 D (.lst [])))/\∀i m ys Hc,W i m ys Hc ->
   (J.stop i Hc/\Q (.ref D) Hc)\/(J.go i Hc/\∀x H',J.yld i Hc x H'->∀pre:L2.St,pre.length=n->tMG (tQG K n g) x (pre++σ) H' λσ2 H2=>∃b8:L2.St,b8.length=n/\σ2=b8++σ/\tMT (tQT K rc) σ2 H2 λb H3 =>
    match b with
    |true=>tM (tQ K re) σ2 H3 λy H4=>ys.length<sizeLine/\H4 D=some (.lst ys)/\∃m',m'<m/\W (i+1) m' (ys++[y]) (upd H4 D (.lst (ys++[y])))
    |false=>∃m',m'<m/\W (i+1) m' ys H3):=by
 generalize hO:List.replicate n OT.und++o=ob at q;refine⟨λi m ys Hc=>∃(bs:Φ)(tss:List (List T)),ys=bs.map V.ref/\Hc D=some (.lst ys)/\Same H1 Hc/\(D::bs).Nodup/\(∀b∈bs,H1 b=none)/\bs.length=tss.length/\(∀(i:Nat)b ts,bs[i]?=some b->tss[i]?=some ts->∃xs,Hc b=some (.lst xs)/\bU K (hd (λb=>Ow own b\/b∈D::bs) Hc) xs ts)/\ys.length<=i/\i<=xs.length/\m=xs.length-i/\HJ g rc re ob (xs.drop i) λus=>R (.l2 (tss++us)),⟨_,[],[],rfl,bW,Same.upd nD,by simp,λ_ z=>(nomatch z),rfl,(λi b ts e=>by cases e),aG _,aZ _,rfl,q⟩,?_⟩;rintro i m ys Hc ⟨bs,tss,rfl,eD,Ec,nd,nb,bl,rs,il,ix,rfl,hl⟩;have nA:∀a∈D::bs,H1 a=none:=λa ha=>by
  rcases YU.mp ha with z|z
  .rw[z];exact nD
  .exact nb a z
 have eA:∀a∈D::bs,∃ys,Hc a=some (.lst ys):=λa ha=>by
  rcases YU.mp ha with z|z
  .exact⟨_,z ▸ eD⟩
  .obtain⟨j,e⟩:=aV z;have lj:=(ao.mp e).1;obtain⟨zs,e2,_⟩:=rs j a _ e (aj (aR lj (WH bl)));exact⟨zs,e2⟩
 have hn:∀b,Ow own b\/b∈D::bs->Hc b≠none:=λb z=>z.elim (λz=>((h1.same Ec).sole z).ne) λe z=>by obtain⟨ys,ey⟩:=eA b e;rw[ey]at z;cases z
 have SD:Same (hd (Ow own) H1) (hd (λb=>Ow own b\/b∈D::bs) Hc):=fL (λb z=>z.imp id (nA b)) Ec;obtain⟨w1,w2⟩:=wk (λb=>Ow own b\/b∈D::bs) Hc i hn SD;by_cases hi:i<xs.length
 .right;obtain⟨go,yl⟩:=w2 _ (aj hi);rw[QP hi]at hl;obtain⟨N,M,hN,hM,hl⟩:=hl;refine⟨go,λx H2 y pre hp=>?_⟩;obtain⟨E2,rx⟩:=yl x H2 y;have eO:(λb=>Ow own b\/b∈D::bs)=Ow (ownL2 n o.length own (D::bs)):=funext λb=>propext Ow.ownL2.symm;have hb:SR K (ownL2 n o.length own (D::bs)) H2 (pre++σ) ob:=by
   have:=h1.blockL (Ec.trans E2) nA (λa ha=>let⟨ys,e⟩:=eA a ha;⟨ys,E2 _ _ e⟩) pre;rw[hp,hO]at this;exact this
  rw[eO]at rx rs;refine⟨_,⟨ownL2 n o.length own (D::bs),ob,_,_,hb,rx,hl,λeT σ3 o3 q3 h9 h3=>?_⟩,λ_ _ z=>z⟩;obtain⟨b8,d6,rfl⟩:=QB hp h9;have e3:eT=ownL2 n o.length own (D::bs):=funext λj=>by
   rcases h9.1 j with e|⟨e1,e2⟩
   .exact e
   .rw[e2];unfold ownL2;rw[ZY e1]
  subst e3;refine⟨b8,d6,rfl,_,tQT.mk h3 q3 λH3 b q4 E3=>?_,λ_ _ z=>z⟩;have q4:sw b (re o3 λy=>match y with|.l1 us=>N us|_=>False) M:=q4;cases b with
  |false=>exact⟨xs.length-(i+1),by lia,bs,tss,rfl,E3 _ _ (E2 _ _ eD),Ec.trans (E2.trans E3),nd,nb,bl,λj b ts e1 e2=>by
    obtain⟨zs,ez,rz⟩:=rs j b ts e1 e2;rw[eO];exact⟨zs,E3 _ _ (E2 _ _ ez),rz.same (bN (E2.trans E3))⟩,by exact aL il (X2 _ _),by exact hi,rfl,hM q4⟩
  |true =>
   refine⟨_,⟨_,_,_,h3.same E3,q4,λH4 v y q5 E4 r4=>?_⟩,λ_ _ z=>z⟩
   match y,q5,r4 with
   |.l1 us,q5,r4 =>
    obtain⟨B,nB,p,zs,ev,rfl,ep,rp⟩:=r4;cases ev;have np:H3 p=none:=nB p (by simp);have pn:∀{a:Addr}{u:HO},H3 a=some u->a≠p:=λe z=>by rw[z,np]at e;cases e
    have E:Same Hc H3:=E2.trans E3;have pD:D≠p:=pn (E _ _ eD);have pb:p∉bs:=λz=>by
     obtain⟨ys,ey⟩:=eA p (aJ _ z);exact pn (E _ _ ey) rfl
    have inD:∀(H:Hp)(u:HO),hd (λb=>Ow own b\/b∈D::(bs++[p])) (upd H D u)=hd (λb=>Ow own b\/b∈D::(bs++[p])) H:=λH u=>vg (S:=λb=>Ow own b\/b∈D::(bs++[p])) (.inr (by simp));refine⟨by lia,E4 _ _ (E _ _ eD),xs.length-(i+1),by lia,bs++[p],tss++[us],by rw[bf];rfl,bW,λb u e=>?_,?_,λb hb=>?_,by simp[bl],λj b ts e1 e2=>?_,by rw[aA,List.length_singleton];exact Nat.succ_le_succ il,by exact hi,rfl,?_⟩
    .rw[bR λz=>by rw[z,nD]at e;cases e];exact E4 _ _ (E _ _ (Ec _ _ e))
    .rw[<- List.cons_append];exact List.nodup_append.mpr ⟨nd,by simp,λa ha c hc z=>by
      rw[YR.mp hc]at z;rcases YU.mp ha with y|y
      .exact pD (y.symm.trans z)
      .exact pb (z ▸ y)⟩
    .rcases Y1.mp hb with z|z
     .exact nb b z
     .rw[YR.mp z];exact(Ec.trans E).free np
    .rw[inD];by_cases hj:j<bs.length
     .rw[aF hj]at e1;rw[aF (aR hj (WH bl))]at e2;obtain⟨zs,ez,rz⟩:=rs j b ts e1 e2;have bD:b≠D:=λz=>(List.nodup_cons.mp nd).1 (z ▸ aC e1);refine⟨zs,by rw[bR bD];exact E4 _ _ (E _ _ ez),rz.same ?_⟩;rw[<- eO];exact fL (λc z=>by
       rcases z with z|z
       .exact .inl (.inl z)
       .rw[<- List.cons_append]at z;rcases Y1.mp z with y|y
        .exact .inl (.inr y)
        .rw[YR.mp y];exact .inr (E.free np)) (E.trans E4)
     .rw[aD (Up hj)]at e1;rw[aD (by lia)]at e2;have j0:j-bs.length=0:=by
       have:=(ao.mp e1).1;simp at this;omega
      rw[j0]at e1;rw[show j-tss.length=0 by lia]at e2;cases e1;cases e2;refine⟨_,by rw[bR (Ne.symm pD)];exact ep,rp.same (fL (λc z=>.inl ?_) λ_ _ z=>z)⟩;rcases z with z|z
      .exact .inl (Ow.ownL2.mpr (.inl z))
      .rw[<- List.cons_append]at z;rcases Y1.mp z with y|y
       .exact .inl (Ow.ownL2.mpr (.inr y))
       .exact .inr y
    .have:=hN _ q5;simp only[WZ,List.singleton_append];exact this
 .left;have:i=xs.length:=by lia
  refine⟨w1 this,?_⟩;rw[Th (Up hi)]at hl;have hl:R (.l2 (tss++[])):=hl;rw[List.append_nil]at hl;exact k Hc _ _ hl Ec ⟨D::bs,nA,D,bs,rfl,rfl,nd,eD,bl,rs⟩
theorem Vq{K:Frag}{σ:L2.St}{H:Hp}{Q:VK}{ri:RI}{n:Nat}{g:qE}{rc:RT}{re:RE}(h:tQ K (ZP ri n g rc re) σ H Q):qy (tQI K ri) n (tMG (tQG K n g)) (tMT (tQT K rc)) (tM (tQ K re)) σ H Q:=by
 obtain⟨own,o,R,h,hr,k⟩:=h;exact⟨own,o,_,h,hr,λH1 J xs q E1 wk D nD=>WK (h.same E1) wk q.1 q.2 nD λH' v x rx E n=>k H' v x rx (E1.trans E) (n.back E1)⟩
section
variable{X:Cx}{tg iter bg:Expr}{az:List Expr}{ri:RI}{g:qE}{rc:RT}{re:RE}{scope:Scope}{pos:Pos}
theorem Y7(sc:Scope)(N N':Θ)(x0:Str)(hi:QI X tg iter ri)(hg:∀{C s₀ H₀ ex pn},QG (X.compGC N' scope x0 C s₀ H₀ ex pn) 1 tg g)(ht:∀{C s₀ H₀ ex pn},QTs (X.compGC N' scope x0 C s₀ H₀ ex pn) az rc)(he:∀{C s₀ H₀ ex pn},QE (X.compGC N' scope x0 C s₀ H₀ ex pn) bg re)
 (cr:X.env.scope=sc:=by rfl)(cK:X.N=N:=by rfl)(hc:X.calm=true:=by rfl)(hk:scope.kind=.function:=by rfl)(fN:∀n acc,cellsFrom n scope.names acc=(x0,n)::acc:=by intro _ _;rfl)(fy:∀h,pushCells h scope.names=h.push { cls:=.type "cell",data:=.cell none }:=by intro _;rfl)(h:(∀y∈scope.names,y.2=.cell->y.1=x0)/\CK0 sc scope N N' [x0]:=by decide +kernel)(hs:qV X iter:=by intro _;rfl):QE X (.ListComp bg [⟨tg,iter,az,0⟩] scope pos) (ZP ri 1 g rc re) :=
 (Zc (gt:=tQG X.K 1 g) (tc:=tQT X.K rc) (te:=tQ X.K re) sc N N' x0 hi hg ht he cr cK hc hk fN fy h hs).imp λ_ _ _=>Vq
theorem acB{i0:Nat}{y0:Str}{py b9:Pos}(sc:Scope)(N N' xs:Θ)(hi:QI X tg iter ri)(hg:∀{C s₀ H₀ ex pn},QG (X.compG N' scope xs C s₀ H₀ ex pn) xs.length tg g)(ht:∀{C s₀ H₀ ex pn},QTs (X.compG N' scope xs C s₀ H₀ ex pn) az rc)(he:∀{C s₀ H₀ ex pn},QE (X.compG N' scope xs C s₀ H₀ ex pn) bg re)(fA:PG X (.Name y0 py) (xW i0))
 (cr:X.env.scope=sc:=by rfl)(cK:X.N=N:=by rfl)(hc:X.calm=true:=by rfl)(hk:scope.kind=.function:=by rfl)(h:CK sc scope N N' xs:=by decide +kernel)(fx:swapsWith (.ListComp bg [⟨tg,iter,az,0⟩] scope pos) (some (.Name y0 py)) b9.line X.env=pure true:=by rfl)(hs:qV X iter:=by intro _;rfl) :
  QS X (.Assign [.Name y0 py] (.ListComp bg [⟨tg,iter,az,0⟩] scope pos) b9) (afN i0 (ZP ri xs.length g rc re)):=(ZJ (gt:=tQG X.K xs.length g) (tc:=tQT X.K rc) (te:=tQ X.K re) sc N N' xs hi hg ht he fA cr cK hc hk h fx hs).imp λD σ H ⟨own,o,E,h,hr,L⟩=>Vq ⟨own,o,_,h,hr,λH' v y q S n=>by
 obtain⟨am,h',S'⟩:=h.putA S n i0;exact L.nx am H' _ _ q S' h'⟩
theorem Js{α:Type}(h:α->T)(f:α->List T){c:RT}{e:RE}{o:List OT} : ∀(l:List α){q:List (List T)->Prop},(∀a∈l,∀(N:List T->Prop)(M:Prop),N (f a)->g (h a) o λo'=>c o' λb=>sw b (e o' λy=>match y with|.l1 us=>N us|_=>False) M)->q (l.map f)->HJ g c e o (l.map h) q
 |[],_,_,k=>k
 |a::l,q,st,k=>⟨λy=>y=f a,False,λy z=>Js h f l (λa ha=>st a (aJ _ ha)) (z ▸ k),False.elim,st a (aO ..) (λy=>y=f a) False rfl⟩
theorem OD{c:RT}{e:RE}{o:List OT}{q:List (List T)->Prop}(f:Nat->List T)(n:Nat)(st:∀k,k<n->∀(N:List T->Prop)(M:Prop),N (f k)->g (.int (k:Nat)) o λo'=>c o' λb=>sw b (e o' λy=>match y with|.l1 us=>N us|_=>False) M)(k:q ((List.range n).map f)):HJ g c e o (rng 0 n) q:=by
 refine Js (λk:Nat=>.int (0+k)) f (List.range n) (λa ha N M hN=>?_) k;have:=st a (List.mem_range.mp ha) N M hN;show g (.int (0+((a:Nat):Int))) o _;rw[show(0:Int)+((a:Nat):Int)=((a:Nat):Int)by exact Int.zero_add _];exact this
end
section
variable{X:Cx}
theorem bU.strs{K:Frag}{F:Hp} : ∀{xs:Ε}{ys:Θ},bU K F xs (ys.map T.str)->xs=ys.map V.str
 |_,[],h=>by cases h;rfl
 |_,y::ys,h=>by
  cases h with
  |cons a b =>
   cases a;rw[bU.strs b];rfl
def rJn(a:RE)(r:RA):RE:=λo q=>a o λx=>match frz x with
 |.str s=>r o λus=>∃ys:Θ,us=[.lst (ys.map T.str)]/\(ys.map (·.length)).sum+ys.length*s.length<=16777216/\q (.fz (.str (Txt.join s ys)))
 |_=>False
theorem abU{o e:Expr}{ra:RE}{r:RA}{ai ag:Pos}(ho:QE X o ra)(ha:QA X [e] r)(hb:attributeBase o "join" X.env (eval o X.env)=eval o X.env:=by rfl)
 (hf:qr X ag e:=by rfl)
 (hl:zw ai ag:=by rfl)(hs:qo X e []:=by rfl)(hp:qh X ag []:=by rfl) :
  QE X (.Call (.Attribute o "join" ai) [e] [] ag) (rJn ra r):=by
 refine(agi PySem.F.slot_str_join PySem.F.type_str_join aaQ ho ha hb hf hl hs hp).imp λσ H Q hP=>?_;obtain⟨own,o,R,h,hr,k⟩:=hP;refine tQ.mk h hr λH1 v x q E1 r1=>?_;cases ex:frz x with
 |str s =>
  rw[ex]at q r1;cases r1;refine⟨⟨s,rfl⟩,tQA.mk (h.same E1) q λH2 vs us q2 _ E2 r2=>?_⟩;obtain⟨ys,rfl,lz,q3⟩:=q2;obtain⟨y,rfl,ry⟩:=r2.one;obtain⟨p,xs,rfl,e,rx⟩:=ry.lstI;exact⟨s,p,ys,rfl,rfl,rx.strs ▸ (cH e).2,lz,k H2 _ _ q3 (E1.trans E2) (NR.fz (.str _))⟩
 |_=>rw[ex]at q;exact q.elim
noncomputable def notStar:Expr->Bool
 |.Starred ..=>false
 |_=>true
theorem aft{e:Expr}{es:List Expr}{env:Env}(h:notStar e=true):starEach (e::es) env=(false,eval e env)::starEach es env:=by
 cases e<;>first|rfl|cases h
structure QEB(X:Cx)(e:Expr)(r:RE):Prop where
 out:QE X e r
structure QAB(X:Cx)(es:List Expr)(r:RA):Prop where
 out:QA X es r
theorem Ca{e:Expr}{r:RE}(h:QE X e r):QEB X e r:=⟨h⟩
theorem Uo{i j pos} : QEB X (.Constant (.int i) j pos) (rC (.int i)):=⟨bx⟩
theorem ahy(i:Nat){x:Str}{pos:Pos}(hN:X.N[i]?=some x:=by rfl)(hv:qF X.env.scope x=true:=by rfl)(hd:qk x:=by decide)(a9:qf x:=by decide):QEB X (.Name x pos) (afV i):=⟨qv i hN hv hd a9⟩
theorem aeM{op:Operator}{g:zz}{a b:Expr}{ra rb:RE}{pos:Pos}(ho:GO X (binaryOp op) g)(ha:QEB X a ra)(hb:QEB X b rb):QEB X (.BinOp a op b pos) (rOp g ra rb):=⟨bJ ho ha.out hb.out⟩
theorem tW:QAB X [] afR:=⟨bA⟩
theorem fG{e:Expr}{es:List Expr}{a:RE}{r:RA}(ha:QEB X e a)(hr:QAB X es r)(hn:notStar e=true:=by rfl):QAB X (e::es) (adq a r):=⟨bw ha.out hr.out (aft hn)⟩
theorem Bb{es:List Expr}{r:RA}{pos:Pos}{k:Nat}(h:QAB X es r)(hz:es.length<=sizeLine:=by decide):QEB X (.Tuple es k pos) (ah2 r):=⟨cT h.out hz⟩
theorem UG{es:List Expr}{r:RA}{pos:Pos}(h:QAB X es r)(hz:es.length<=sizeLine:=by decide):QEB X (.List es pos) (ajz r):=⟨cY h.out hz⟩
noncomputable def akj:zz
 |.int i,.int j,q=>acT i j/\q (.fz (.int (i*j)))
 |_,_,_=>False
theorem M9:GO X (binaryOp .Mult) akj:=aeC.imp λx y H Q hP=>by
 obtain⟨S,t,u,R,_,hx,hy,hg,k⟩:=hP;cases hx<;>try exact hg.elim
 cases hy<;>try exact hg.elim
 exact⟨_,_,rfl,rfl,hg.1,k H _ _ hg.2 (.refl _) (NR.fz (.int _))⟩
noncomputable def akD(n:Nat)(gs:qA):qE
 |.lst ts,o,q=>ts.length=n/\gs ts o q
 |_,_,_=>False
theorem aeu{pos:Pos}{m:Nat}{es:List Expr}{k:Nat}{gs:qA}{n:Nat}(hc:X.calm=true)(h:QGs X m es gs)(hn:(assignEach es X.env).length=n:=by rfl)(bE:zb X es:=by rfl):QG X m (.Tuple es k pos) (akD n gs):=(abB hc h hn bE).imp λv σ H Q hP=>by
 obtain⟨own,o,t,R,h,r,hg,k⟩:=hP;cases t<;>try exact hg.elim
 obtain⟨a,xs,rfl,e,r⟩:=r.lstI;exact⟨a,xs,rfl,SqL.of (cM _ _ e),r.len.trans hg.1,own,o,_,R,h,r,hg.2,k⟩
end
section
variable{a b c d e f x y:RS}{E:DT}{o:List OT}
theorem sq2(J:List OT->Prop)(k:∀o',J o'->y E o')(h:∀Y:List OT->Prop,(∀o',J o'->Y o')->jw a (jw x (λ_=>Y)) E o):jw a (jw x y) E o:=h (y E) k
theorem sq4(J:List OT->Prop)(k:∀o',J o'->y E o')(h:∀Y:List OT->Prop,(∀o',J o'->Y o')->jw a (jw b (jw c (jw x (λ_=>Y)))) E o):jw a (jw b (jw c (jw x y))) E o:=h (y E) k
theorem sq7(J:List OT->Prop)(k:∀o',J o'->y E o')(h:∀Y:List OT->Prop,(∀o',J o'->Y o')->jw a (jw b (jw c (jw d (jw e (jw f (jw x (λ_=>Y))))))) E o):jw a (jw b (jw c (jw d (jw e (jw f (jw x y)))))) E o:=h (y E) k
end
abbrev XC:=Addr->Θ->List T->Prop
abbrev SX:=List T->(OT->Prop)->XC->Prop
def spX(K:Frag)(S:SX):Sp:=λvs H Q E=>∃ts R Z,bU K H vs ts/\S ts R Z/\(∀H' v x,R x->Same H H'->NR K (λ_=>False) H H' v x->Q v H') /\
 ∀H' C d ks us c6,Z C ks c6->Same H H'->H' d=some (.xd (ks.zip us))->bU K H' us c6->E (.ref C) (some d) H'
abbrev aeU(P:Program)(w:World)(K:Frag)(mg:Str->Ψ)(base:Heap)(k:Nat)(x:Str)(ps:Θ)(S:SX):Prop:=OkX P w K mg base k x ps (spX K S)
section
variable{P:Program}{w:World}{K:Frag}{mg:Str->Ψ}{base:Heap}
theorem Fun.okTX{x af:Str}{st:Stmt}{f:Addr}{fd:FuncData}{N ps:Θ}{k:Nat}{S:SX}(F:Fun K x af st f fd)(sc:bK N ps (bF st))(len:∀ts R Z,S ts R Z->ts.length=ps.length)
 (be:∀(ah:Value)(A:Around)(outer:List Env)(s:Shared)(H:Hp)(E:XK),dF k (A.deeper (envOfC af (bF st) s.heap.objs.size f ah)) ->
   ∃r,QSs (zR (CXO P w) P w K mg base N af (bF st) f ah A outer s H E) (dH st) r/\∀ts R Z,S ts R Z->r { nx:=λ_=>R (.fz .non),rt:=R,xc:=Z } (start' N.length ts)):b_ P w K mg base (CXO P w) (k+1) f fd ps (spX K S):=by
 refine F.okX sc (λvs H Q E h=>?_) λah A outer s H vs Q E hr h=>?_
 .obtain⟨ts,R,Z,r,hS,_⟩:=h;exact r.len.trans (len ts R Z hS)
 .obtain⟨ts,R,Z,r,hS,q,qx⟩:=h;obtain⟨rd,h1,h2⟩:=be ah A outer s H E hr;have e0:hd (Ow λ_=>[]) H=H:=by rw[show Ow (λ_=>[])=λ_=>False from funext λb=>propext ⟨λhP=>by obtain⟨_,z⟩:=hP;exact(nomatch z),False.elim⟩,Ez]
  have aE:∀(S:Addr->Prop)H' v x B,R x->Same H (hd S H')->Slo K (hd S H') H' (some v) B x->(∀a∈B,S a)->Q v H':=λS' H' v x B rx E s hB =>
   q H' v x rx (E.trans cM) ⟨B,λa ha=>E.free (m_ (hB a ha)),s.same (fL (λb z=>.inl (z.elim False.elim (hB b))) λ_ _ z=>z) λ_ _ z=>z⟩
  refine⟨_,h1,λ_=>[],_,_,SR.start r N,h2 ts R Z hS,⟨λown H' σ o rx E h=>?_,λS' H' v x B rx E s hB=>aE S' H' v x B rx (e0 ▸ E) s hB,λ_ _ _ _ z=>z.elim,λ_ _ _ _ z=>z.elim,λH' C d ks us c6 z E e r'=>?_⟩⟩
  .exact aE (Ow own) H' .non _ [] rx (e0 ▸ E) ⟨rfl,_,rfl,.non⟩ λ_ z=>(nomatch z)
  .have e1:=qx H' C d ks us c6 z (e0 ▸ E) e r';exact⟨λaa σ H2 s2 a s' B I F2=>aaK aa σ H2 s2 a _ H' s' B _ I F2 e1,λaa σ H2 s2 a c ec I ha ge eo=>Wr aa σ H2 s2 a c _ I ha ge (by rw[eo,<- ec];exact e1)⟩
end
section
variable{X:Cx}
theorem afE:abk X λC d _ H'=>zx X C d H':=λaa σ H s a C H' s' B d I F z=>z.1 aa σ H s a s' B I F
theorem Zo:R0 X λC d _ H'=>zx X C d H':=λaa σ H s a C d I e g z=>z.2 aa σ H s a C rfl I e g rfl
def adC(S:SX)(r:RA):RS:=λE o=>r o λts=>S ts (λ_=>E.nx o) E.xc
theorem aaC{p pos aI:Pos}{e:Expr}{es:List Expr}{r:RA}{x:Str}{k:Nat}{ps:Θ}{S:SX}(G:aeU X.prog X.w X.K X.mg X.base k x ps S)(hr:dF k X.A)(hg:Gl X x)(ha:QA X (e::es) r)(bu:qk x:=by decide)
 (he:qo X e es:=by rfl)(aS:qh X pos es:=by rfl)
 (hs:swapsWith (.Call (.Name x p) (e::es) [] pos) none aI.line X.env=pure false:=by rfl):QS X (.Expr (.Call (.Name x p) (e::es) [] pos) aI) (adC S r) :=
 (jV (Pk G hr hg afE ha bu he aS) hs).imp λD σ H ⟨own,o,E,h,hr,L⟩=>tQA.mk h hr λH1 vs ts q _ E1 r1=>by
  refine⟨ts,_,_,r1.same cM,q,λH' v x q S n=>?_,λH' C d ks us c6 z S e r'=>L.xc H' C d ks us c6 z (cM.trans (E1.trans S)) e r'⟩;exact L.nx own H' σ o q (bN (E1.trans S)) (h.same (E1.trans S))
def afX(C:Addr)(ck:Str):Sp:=λvs H Q _=>∃a v,vs=[.ref a,v]/\H a=some (XN a C none)/\∀d,H d=none->d≠a->Q .non (upd (upd H a (XN a C (some d))) d (.xd [(ck,v)]))
theorem afn{H:Hp}{a d:Addr}{o o' x:HO}(n:H a=none)(e:d≠a):out (upd (upd (upd H a o) a o') d x) a=upd H d x:=by
 funext b
 by_cases z:b=a
 .subst z;rw[Oj,bR (Ne.symm e),n]
 .rw[vo z];by_cases y:b=d
  .subst y;rw[bW,bW]
  .rw[bR y,bR z,bR z,bR y]
def aeA(C:Addr)(ck:Str)(re:RE):RS:=λE o=>re o λx=>E.xc C [ck] [frz x]
theorem Ot{x ck:Str}{np ag pos:Pos}{e:Expr}{re:RE}{C HE fI:Addr}{k:Nat}{ps:Θ}(hc:X.calm=true)(hg:Gl X x)(hm:X.mg x=some (.ref C))(q:Mu X.K C HE fI)(G:zg X CX0 k fI ps (afX C ck))(hr:dF (k+1) X.A)(ha:QE X e re)(bu:qk x:=by decide)
 (he:qo X e []:=by rfl)(aS:qh X ag []:=by rfl) :
  QS X (.Raise (some (.Call (.Name x np) [e] [] ag)) none pos) (aeA C ck re) :=
 (WL hc hg hm q G hr Zo (bw ha bA he) bu he aS).imp λD σ H ⟨own,o,E,h,hr,L⟩=>tQA.mk h hr λH1 vs ts q ln E1 r1=>by
  obtain⟨t,rfl⟩ : ∃t,ts=[t]:=by
   match ts,ln with
   |[t],_=>exact⟨t,rfl⟩
  obtain⟨v,rfl⟩ : ∃v,vs=[v]:=by
   match vs,r1.len with
   |[v],_=>exact⟨v,rfl⟩
  refine⟨(show 1<=sizeLine by decide),λa ha=>⟨a,v,rfl,bW,λd hd da=>⟨rfl,some d,(bR (Ne.symm da)).trans bW,?_⟩⟩⟩;rw[afn ha da];have bv:H1 d=none:=by rw[bR da]at hd;exact hd
  exact L.xc _ C d [ck] [v] _ q (cM.trans (E1.trans (Same.upd bv))) bW (r1.same (cM.trans (Same.upd bv)))
end
section
variable{X:Cx}
def alR:T->(OT->Prop)->Prop
 |.lst ts,q=>q (.fz (.tup ts))
 |_,_=>False
theorem aaw:GC X (.type "tuple") (g1 alR):=Vu.imp λxs H Q hP=>by
 obtain⟨S,ts,R,hs,rs,hg,k⟩:=hP
 match ts,hg with
 |[t],hg =>
  obtain⟨x,rfl,rx⟩:=rs.one;cases t<;>try exact hg.elim
  obtain⟨p,xs,rfl,e,r⟩:=rx.lstI;exact⟨p,xs,rfl,(cH e).2,λl H' E n e'=>k _ _ _ hg E (NR.fz (.tup (.of (by rw[cI λz=>hs l z n];exact e')) (r.same (bN E))))⟩
def rP(X:Cx)(t:TS):RS:=λE o=>∀own H σ D,SR X.K own H σ o->Lnk X.K (zx X) (hd (Ow own) H) E D->t D σ H
theorem amS{st:Stmt}{t:TS}(h:PS X st t):QS X st (rP X t):=h.imp λD σ H hP=>by obtain⟨own,o,E,s,hr,L⟩:=hP;exact hr own H σ D s L
noncomputable def ownG(n:Nat)(own:zk)(j:Nat):Φ:=if j<n then[]else own (j-n)
theorem EY{n j:Nat}{own:zk}(h:j<n):ownG n own j=[]:=ZY h
theorem Bm{n j:Nat}{own:zk}(h:¬j<n):ownG n own j=own (j-n):=ZZ h
theorem Ow.ownG(n:Nat)(own:zk):Ow (L2.ownG n own)=Ow own:=funext λb=>propext ⟨(λhP=>by
 obtain⟨j,z⟩:=hP;by_cases c:j<n
 .rw[EY c]at z;cases z
 .rw[Bm c]at z;exact⟨_,z⟩),λhP=>by obtain⟨j,z⟩:=hP;exact⟨j+n,by rw[Bm (UK (Nat.le_add_left _ _)),Nat.add_sub_cancel];exact z⟩⟩
noncomputable def alF:OT->Bool
 |.und=>true
 |.fz _=>true
 |_=>false
noncomputable def alu:OT->Bool
 |.und=>true
 |.fz _=>true
 |.l1 _=>true
 |.l2 _=>true
 |_=>false
noncomputable def drp(o:List OT):List Nat->List OT
 |[]=>o
 |j::js=>(drp o js).set j .und
theorem Ue(o:List OT):∀js,(drp o js).length=o.length
 |[]=>rfl
 |j::js=>by unfold drp;rw[VZ,Ue o js]
theorem Yp{o:List OT}{i:Nat}{x:OT} : ∀{js:List Nat},(drp o js)[i]?=some x->x=.und\/(i∉js/\o[i]?=some x)
 |[],e=>.inr ⟨(nomatch ·),e⟩
 |j::js,e=>by
  unfold drp at e;by_cases c:j=i
  .subst c;have l:j<(drp o js).length:=by
    have:=(ao.mp e).1;rwa[VZ]at this
   rw[UY l]at e;exact .inl (Option.some.inj e).symm
  .rw[VW c]at e;exact(Yp e).imp id λz=>⟨λm=>(YU.mp m).elim (λy=>c y.symm) z.1,z.2⟩
theorem SR.lists{K:Frag}{own:zk}{H:Hp}{σ:L2.St}{o:List OT}(h:SR K own H σ o)(f:o.all alu=true){b:Addr}(hb:Ow own b):∃ys,H b=some (.lst ys):=by
 obtain⟨i,z⟩:=hb;by_cases c:i<o.length
 .have s:=h.sl i _ (aj c);have q:=(List.all_eq_true.mp f) _ (aU c);obtain⟨u,e,w⟩:=s.sole z;rcases w with⟨xs,rfl⟩|w
  .exact⟨xs,e⟩
  exfalso;cases y:o[i]with
  |und=>rw[y]at s;rw[show own i=[]from s]at z;cases z
  |fz t=>rw[y]at s;rw[s.1]at z;cases z
  |l1 ts =>
   rw[y]at s;obtain⟨a,xs,_,ea,e2,_⟩:=s;rw[ea]at z;cases YR.mp z;rw[e2]at e;cases e;rcases w with⟨k,w⟩|⟨C,d,f,w⟩|⟨x,w⟩<;>cases w
  |l2 tss =>
   rw[y]at s;obtain⟨a,bs,_,ea,_,e2,lb,hc⟩:=s;rw[ea]at z;have:∃xs,H b=some (.lst xs):=by
    rcases YU.mp z with rfl|z
    .exact⟨_,e2⟩
    .obtain⟨j,ej⟩:=aV z;obtain⟨xs,e3,_⟩:=hc j b _ ej (aj (by rw[<- lb];exact(ao.mp ej).1));exact⟨xs,e3⟩
   obtain⟨xs,e3⟩:=this;rw[e3]at e;cases e;rcases w with⟨k,w⟩|⟨C,d,f,w⟩|⟨x,w⟩<;>cases w
  |_=>rw[y]at q;cases q
 .exact h.out i (Up c) b z
theorem SR.ghost{K:Frag}{own:zk}{H H':Hp}{σ σ':L2.St}{o:List OT}(h:SR K own H σ o)(S:Same (hd (Ow own) H) (hd (Ow own) H'))(ls:∀b,Ow own b->∃xs,H' b=some (.lst xs))(l:σ'.length=σ.length)(js:List Nat)(se:∀i,i∉js->σ'[i]?=σ[i]?)(fz:(drp o js).all alF=true):SR K (ownG (drp o js).length own) H' σ' (drp o js):=by
 refine⟨by rw[Ue,l,h.len],λi x ex=>?_,λi hi a ha=>?_,λi j a ha hb=>?_⟩
 .rw[Ow.ownG,EY (ao.mp ex).1];have q:=(List.all_eq_true.mp fz) x (aC ex);rcases Yp ex with rfl|⟨nj,eo⟩
  .rfl
  .cases x with
   |und=>rfl
   |fz t =>
    obtain⟨u,eu,r⟩:=h.get eo;exact⟨rfl,u,by rw[se i nj,eu];rfl,r.same S⟩
   |_=>cases q
 .rw[Bm (UK hi)]at ha;exact ls a ⟨_,ha⟩
 .by_cases c:i<(drp o js).length
  .rw[EY c]at ha;cases ha
  by_cases d:j<(drp o js).length
  .rw[EY d]at hb;cases hb
  rw[Bm c]at ha;rw[Bm d]at hb;have:=h.dis _ _ a ha hb;omega
def alB:OT->OT->(OT->Prop)->Prop
 |.l1 ts,.l1 us,q=>q (.l2 [ts,us])
 |_,_,_=>False
def alQ(a b:RE):RE:=λo q=>a o λx=>b o λy=>alB x y q
theorem ad5{a b:Expr}{ra rb:RE}{pos:Pos}(ha:QE X a ra)(hb:QE X b rb)(hs:starEach [a,b] X.env=(false,eval a X.env)::starEach [b] X.env:=by rfl)(dS:qo X b []:=by rfl):QE X (.List [a,b] pos) (alQ ra rb):=(aai (cN ha (cN hb lA dS) hs)).imp λσ H Q hP=>by
 obtain⟨own,o,R,h,hr,k⟩:=hP;refine⟨own,o,_,h,hr,λH1 v x q1 E1 n1=>?_⟩;cases x with
 |l1 ts =>
  obtain⟨B,nb,c,xs,ev,rfl,e1,r1⟩:=n1;cases ev;have nc:H c=none:=nb c (by simp);have h1:=h.block E1 nc e1 [];refine⟨_,o,_,h1,q1,λH2 w y q2 E2 n2=>?_⟩;cases y with
  |l1 us =>
   obtain⟨B2,nb2,d,ys,ew,rfl,e2,r2⟩:=n2;cases ew;have nd:H1 d=none:=nb2 d (by simp);refine⟨(show 2<=sizeLine by decide),λp hp=>?_⟩;have np:=E2.free hp;have fS:=E2 _ _ e1;have pc:p≠c:=λz=>by rw[z,fS]at hp;cases hp
   have pd:p≠d:=λz=>by rw[z,e2]at hp;cases hp
   have cd:c≠d:=λz=>by rw[<- z,e1]at nd;cases nd
   have U:Same H2 (upd H2 p (.lst [V.ref c,V.ref d])):=Same.upd hp;refine k _ _ _ q2 (E1.trans (E2.trans U)) ⟨[p,c,d],λb hb=>?_,p,[c,d],rfl,rfl,?_,bW,rfl,λi b c6 eb et=>?_⟩
   .simp only[YU,VU,or_false]at hb;rcases hb with rfl|rfl|rfl
    .exact E1.free np
    .exact nc
    .exact E1.free nd
   .simp[pc,pd,cd]
   .match i,eb,et with
    |0,rfl,rfl =>
     refine⟨xs,U _ _ fS,r1.same (fL (λb z=>?_) (E2.trans U))⟩;rcases z with z|z
     .exact .inl (.inl z)
     .simp only[YU,VU,or_false]at z;rcases z with rfl|rfl|rfl
      .exact .inr np
      .exact .inl (.inr (by simp))
      .exact .inr nd
    |1,rfl,rfl =>
     refine⟨ys,U _ _ e2,r2.same (fL (λb z=>?_) U)⟩;rcases z with z|z
     .exact .inl (.inl (Ow.ownS.mpr (.inl z)))
     .simp only[YU,VU,or_false]at z;rcases z with rfl|rfl|rfl
      .exact .inr hp
      .exact .inl (.inl (Ow.ownS.mpr (.inr rfl)))
      .exact .inl (.inr (by simp))
  |_=>exact q2.elim
 |_=>exact⟨own,o,_,h.same E1,q1,λ_ _ _ q _ _=>q.elim⟩
end
end L2
namespace Ac
noncomputable def lw(t b:Int):Int×Int:=(t/(Int.gcd t b:Nat),b/(Int.gcd t b:Nat))
theorem aiE{t b:Int}(hb:0<b):(0:Int)<(Int.gcd t b:Nat):=by
 have:=Zzw t (show b≠0 by exact WS hb);lia
section
variable{κ:Type}[DecidableEq κ]
noncomputable def look(acc:List (κ×Int))(r:κ):Int:=((acc.find? λg=>decide (g.1=r)).map (·.2)).getD 0
noncomputable def put(acc:List (κ×Int))(r:κ)(y:Int):List (κ×Int):=if(acc.any λg=>decide (g.1=r))=true then acc.map (λg=>if g.1=r then(g.1,y)else g)else acc++[(r,y)]
def amv(gs:List (κ×Int)):List (κ×Int):=gs.foldl (λa g=>put a g.1 (look a g.1+g.2)) []
def ways(gs:List (κ×Int))(S:Int):List (κ×Int×Int):=((amv gs).filter λg=>decide (0<g.2)).map λg=>(g.1,lw g.2 S)
end
end Ac
namespace Rw
open Ac
def rep(r:List Int×Int):List Ξ:=r.1.map λt=>lw t r.2
noncomputable def gcL(ts:List Int)(b:Int):Int:=ts.foldl (λc t=>((Int.gcd t c:Nat):Int)) b
theorem fW:∀{ts:List Int}{b:Int},0<b->0<gcL ts b
 |[],_,h=>h
 |t::ts,b,h=>fW (ts:=ts) (aiE (t:=t) h)
theorem f9:∀{ts:List Int}{b:Int},gcL ts b ∣ b/\∀t∈ts,gcL ts b ∣ t
 |[],b=>⟨Int.dvd_refl b,by simp⟩
 |t::ts,b=>by
  obtain⟨h1,h2⟩:=f9 (ts:=ts) (b:=((Int.gcd t b:Nat):Int));refine⟨Int.dvd_trans h1 (JP t b),λx hx=>?_⟩;rcases YU.mp hx with rfl|hx
  .exact Int.dvd_trans h1 (Int.gcd_dvd_left x b)
  .exact h2 x hx
theorem qX{ts:List Int}{b:Int}(h:0<b):gcL ts b<=b:=Int.le_of_dvd h f9.1
def iB(r:List Int×Int):List Int×Int:=(r.1.map λt=>t/gcL r.1 r.2,r.2/gcL r.1 r.2)
theorem jq(r:List Int×Int):(iB r).1.length=r.1.length:=by unfold iB;rw[ak]
noncomputable def gM(r:List Int×Int)(c:Ξ):List Int×Int:=(r.1.map λt=>t*c.1,r.2*c.2)
noncomputable def mQ(r o:List Int×Int)(c:Ξ):List Int×Int :=
 (List.zipWith (λa b=>a*(o.2*c.2/((Int.gcd r.2 (o.2*c.2):Nat):Int))+b*(r.2/((Int.gcd r.2 (o.2*c.2):Nat):Int)*c.1)) r.1 o.1,r.2*(o.2*c.2/((Int.gcd r.2 (o.2*c.2):Nat):Int)))
structure Big(N:Nat)(r:List Int×Int):Prop where
 pos:0<r.2
 bot:r.2.natAbs<=N
 top:∀t∈r.1,t.natAbs<=N
theorem Big.le{N M:Nat}{r:List Int×Int}(h:Big N r)(hn:N<=M):Big M r:=⟨h.pos,aL h.bot hn,λt ht=>aL (h.top t ht) hn⟩
theorem Ol{d t g x:Int}(h1:d ∣ t*x)(h2:d ∣ g*x):d ∣ ((Int.gcd t g:Nat):Int)*x:=by
 have h:=Int.dvd_coe_gcd h1 h2;rw[Int.gcd_mul_right]at h;rw[TW]at h;rcases Int.natAbs_eq x with e|e
 .rw[e];exact h
 .rw[e,Int.mul_neg];exact Int.dvd_neg.mpr h
theorem uZ{d x:Int} : ∀{ts:List Int}{b:Int},d ∣ b*x->(∀t∈ts,d ∣ t*x)->d ∣ gcL ts b*x
 |[],_,h,_=>h
 |t::ts,b,h,k=>uZ (ts:=ts) (Ol (k t aO) h) λu hu=>k u (aJ _ hu)
def Alk(r s:List Int×Int):Prop:=r.1.length=s.1.length/\∀(k:Nat)(a b:Int),r.1[k]?=some a->s.1[k]?=some b->a*s.2=b*r.2
theorem jT{r:List Int×Int}(h:0<r.2):gcL (iB r).1 (iB r).2=1:=by
 have g0:=fW (ts:=r.1) h;obtain⟨d1,d2⟩:=f9 (ts:=r.1) (b:=r.2);have p:0<(iB r).2:=Zzv h (XY g0) d1;have q0:=fW (ts:=(iB r).1) p;obtain⟨e1,e2⟩:=f9 (ts:=(iB r).1) (b:=(iB r).2);have ck:gcL (iB r).1 (iB r).2*gcL r.1 r.2 ∣ gcL r.1 r.2*1:=by
  refine uZ ?_ λt ht=>?_
  .obtain⟨u,hu⟩:=e1;have hu:r.2/gcL r.1 r.2=gcL (iB r).1 (iB r).2*u:=hu;refine⟨u,?_⟩;rw[Int.mul_one,Int.mul_right_comm,<- hu,Int.ediv_mul_cancel d1]
  .obtain⟨u,hu⟩:=e2 (t/gcL r.1 r.2) (YV.mpr ⟨t,ht,rfl⟩);refine⟨u,?_⟩;rw[Int.mul_one,Int.mul_right_comm,<- hu,Int.ediv_mul_cancel (d2 t ht)]
 rw[Int.mul_one]at ck;have:=Int.le_of_dvd g0 ck;have:gcL (iB r).1 (iB r).2<=1:=by
  refine Int.le_of_mul_le_mul_right (a:=gcL r.1 r.2) ?_ g0;lia
 lia
theorem least{N:Nat}{r s:List Int×Int}(hr:0<r.2)(g:gcL r.1 r.2=1)(a:Alk r s)(h:Big N s):Big N r:=by
 have d:r.2 ∣ gcL r.1 r.2*s.2:=uZ ⟨s.2,rfl⟩ λt ht=>by
  obtain⟨k,hk,rfl⟩:=List.mem_iff_getElem.mp ht;have hs:k<s.1.length:=by rw[<- a.1];exact hk
  rw[a.2 k _ _ (aj hk) (aj hs)];exact⟨_,Int.mul_comm _ _⟩
 rw[g,TU]at d;obtain⟨m,hm⟩:=d;have m0:0<m:=Int.pos_of_mul_pos_right (by rw[<- hm];exact h.pos) hr;refine⟨hr,?_,λt ht=>?_⟩
 .have:=Int.le_of_dvd h.pos ⟨m,hm⟩;have:=h.bot;lia
 .obtain⟨k,hk,rfl⟩:=List.mem_iff_getElem.mp ht;have hs:k<s.1.length:=by rw[<- a.1];exact hk
  have e:=a.2 k _ _ (aj hk) (aj hs);rw[hm,Int.mul_comm r.2 m,<- Int.mul_assoc]at e;have e:=Int.eq_of_mul_eq_mul_right (WS hr) e;have b:=h.top _ (aU hs);rw[<- e,VS]at b;exact aL (Nat.le_mul_of_pos_right _ (by omega)) b
noncomputable def gr(N:Nat):Nat->Nat
 |0=>N
 |m+1=>2*(gr N m*gr N m)
noncomputable def sg(f:Nat->Rat):Nat->Rat
 |0=>0
 |n+1=>sg f n+f n
noncomputable def sz(f:Nat->Int):Nat->Int
 |0=>0
 |n+1=>sz f n+f n
theorem fZ(f g:Nat->Rat):∀n,sg (λj=>f j+g j) n=sg f n+sg g n
 |0=>by unfold sg;grind
 |n+1=>by unfold sg;rw[fZ f g n];grind
theorem fJ(c:Rat)(f:Nat->Rat):∀n,sg (λj=>c*f j) n=c*sg f n
 |0=>by unfold sg;grind
 |n+1=>by unfold sg;rw[fJ c f n];grind
theorem cj{f g:Nat->Rat} : ∀{n},(∀j,j<n->f j=g j)->sg f n=sg g n
 |0,_=>rfl
 |n+1,h=>by unfold sg;rw[cj λj hj=>h j (WU _ hj),h n (X1 _)]
theorem gk:∀n,sg (λ_=>0) n=0
 |0=>rfl
 |n+1=>by unfold sg;rw[gk n];grind
theorem gO{v:Nat->Rat}{k:Nat} : ∀{n},sg (λj=>(if j=k then 1 else 0)*v j) n=if k<n then v k else 0
 |0=>by rw[ZZ (WV _)];rfl
 |n+1=>by
  unfold sg;rw[gO];by_cases h:k<n
  .rw[ZY h,ZZ (VQ h),ZY (WU _ h)];grind
  .by_cases e:n=k
   .subst e;rw[ZZ h,ZY rfl,ZY (X1 _)];grind
   .rw[ZZ h,ZZ e,ZZ (by lia)];grind
theorem Uc(f:Nat->Nat->Rat)(m:Nat):∀n,sg (λk=>sg (λl=>f k l) m) n=sg (λl=>sg (λk=>f k l) n) m
 |0=>by
  show(0:Rat)=sg (λ_=>0) m;rw[gk]
 |n+1=>by
  show sg (λk=>sg (λl=>f k l) m) n+sg (λl=>f n l) m=sg (λl=>sg (λk=>f k l) n+f n l) m;rw[fZ,Uc f m n]
theorem LK(f:Nat->Int):∀n,((sz f n:Int):Rat)=sg (λk=>(f k:Rat)) n
 |0=>Q1
 |n+1=>by unfold sz sg;rw[Rat.intCast_add,LK f n]
theorem Hj{f:Nat->Int}{B:Nat} : ∀{n},(∀k,k<n->(f k).natAbs<=B)->(sz f n).natAbs<=n*B
 |0,_=>by unfold sz;simp
 |n+1,h=>by
  unfold sz;have:=Hj (n:=n) λk hk=>h k (WU _ hk);have:=h n (X1 _);rw[Nat.add_mul,Nat.one_mul];omega
theorem YK(f g:Nat->Int):∀n,sz (λk=>f k-g k) n=sz f n-sz g n
 |0=>rfl
 |n+1=>by unfold sz;rw[YK f g n];lia
theorem P_{f g:Nat->Int} : ∀{n},(∀j,j<n->f j=g j)->sz f n=sz g n
 |0,_=>rfl
 |n+1,h=>by unfold sz;rw[P_ λj hj=>h j (WU _ hj),h n (X1 _)]
theorem Px{α:Type}(q:α->Bool):∀L:List α,(L.filter q).length+(L.filter λx=>!q x).length=L.length
 |[]=>rfl
 |x::L=>by
  have:=Px q L;rw[List.filter_cons,List.filter_cons];cases h:q x with
  |true=>rw[ZY rfl,ZZ (by simp),List.length_cons,List.length_cons];lia
  |false=>rw[ZZ (by simp),ZY (by simp),List.length_cons,List.length_cons];lia
theorem ZM{α:Type}(f:α->Nat)(n:Nat):∀(W:Nat)(L:List α),(∀x∈L,f x<W)->W*n<L.length->∃v,n<(L.filter λx=>f x==v).length
 |0,L,h,hl=>by
  cases L with
  |nil=>simp at hl
  |cons x L=>exact absurd (h x aO) (WV _)
 |W+1,L,h,hl=>by
  by_cases e:n<(L.filter λx=>f x==W).length
  .exact⟨W,e⟩
  .have pl:=Px (λx=>f x==W) L;rw[Nat.add_mul,Nat.one_mul]at hl;obtain⟨v,hv⟩:=ZM f n W (L.filter λx=>!(f x==W)) (λx hx=>by
    obtain⟨a,b⟩:=List.mem_filter.mp hx;have:=h x a;have ne:f x≠W:=λz=>by rw[z]at b;simp at b
    lia) (by omega)
   exact⟨v,aR hv (List.Sublist.length_le (List.Sublist.filter _ List.filter_sublist))⟩
theorem digits_inj{W:Nat}(hW:0<W):∀(n c d:Nat),c<W^n->d<W^n->(∀k,k<n->c/W^k%W=d/W^k%W)->c=d
 |0,c,d,hc,hd,_=>by
  rw[Nat.pow_zero]at hc hd;lia
 |n+1,c,d,hc,hd,h=>by
  have h0:=h 0 (U2 _);rw[Nat.pow_zero,Nat.div_one,Nat.div_one]at h0;have e:=digits_inj hW n (c/W) (d/W) (Nat.div_lt_of_lt_mul (by rw[Nat.mul_comm,<- Nat.pow_succ];exact hc)) (Nat.div_lt_of_lt_mul (by rw[Nat.mul_comm,<- Nat.pow_succ];exact hd)) λk hk=>by
   have:=h (k+1) (Nat.succ_lt_succ hk);rw[Nat.div_div_eq_div_mul,Nat.div_div_eq_div_mul,<- Nat.pow_succ'];exact this
  rw[<- Nat.div_add_mod c W,<- Nat.div_add_mod d W,e,h0]
theorem V7{p N:Nat}(hN:1<=N):(2*((p+1)*((2*(p+1)*N)^p*N))+1)^p<((2*(p+1)*N)^p+1)^(p+1):=by
 have w:2*((p+1)*((2*(p+1)*N)^p*N))+1<=2*(p+1)*N*((2*(p+1)*N)^p+1):=by
  have e:2*((p+1)*((2*(p+1)*N)^p*N))=2*(p+1)*N*(2*(p+1)*N)^p:=by ac_rfl
  have x1:1<=2*(p+1)*N:=VX (show 1<=2*(p+1)by lia) hN;rw[e];generalize 2*(p+1)*N=X at *;rw[Nat.mul_add,Nat.mul_one];exact Nat.add_le_add_left x1 _
 refine Y3 (Nat.pow_le_pow_left w p) ?_;rw[Nat.mul_pow,Nat.pow_succ,Nat.mul_comm];exact Nat.mul_lt_mul_of_pos_left (X1 _) (Nat.pow_pos (U2 _))
theorem Yc{p N:Nat}{C:Nat->Nat->Int}(hN:1<=N)(hC:∀k l,k<=p->l<p->(C k l).natAbs<=N) :
  ∃ay:Nat->Int,(∃k,k<=p/\ay k≠0)/\(∀k,(ay k).natAbs<=(2*(p+1)*N)^p)/\∀l,l<p->sz (λk=>ay k*C k l) (p+1)=0:=by
 have ps:=V7 (p:=p) hN;generalize hB:(2*(p+1)*N)^p=B at *;generalize hO:(p+1)*(B*N)=O at *;have om:∀c k:Nat,c/(B+1)^k%(B+1)<=B:=λc k=>UH (Nat.mod_lt _ (U2 _));have eb:∀l c,l<p->(sz (λk=>((c/(B+1)^k%(B+1):Nat):Int)*C k l) (p+1)).natAbs<=O:=λl c hl=>by
  rw[<- hO];refine Hj λk hk=>?_;rw[VS,XG];exact VX (om c k) (hC k l (UH hk) hl)
 have all:∀q,q<=p->∃L:List Nat,L.Nodup/\(∀c∈L,c<(B+1)^(p+1))/\(∀l,l<q->∀c∈L,∀d∈L,sz (λk=>((c/(B+1)^k%(B+1):Nat):Int)*C k l) (p+1)=sz (λk=>((d/(B+1)^k%(B+1):Nat):Int)*C k l) (p+1))/\(2*O+1)^(p-q)<L.length:=by
  intro q
  induction q with
  |zero=>exact λ_=>⟨List.range ((B+1)^(p+1)),List.nodup_range,λc hc=>List.mem_range.mp hc,λl hl=>absurd hl (WV _),by rw[WJ,Nat.sub_zero];exact ps⟩
  |succ q ih =>
   intro hq;obtain⟨L,nd,lt,eq,ln⟩:=ih (aL (Xs _) hq);have e1:(2*O+1)^(p-q)=(2*O+1)*(2*O+1)^(p-(q+1)):=by rw[<- Nat.pow_succ',show(p-(q+1)).succ=p-q by lia]
   rw[e1]at ln;obtain⟨v,hv⟩:=ZM (λc=>(sz (λk=>((c/(B+1)^k%(B+1):Nat):Int)*C k q) (p+1)+O).toNat) _ _ L (λc _=>by
    have:=eb q c (aR (X1 _) hq);omega) ln
   refine⟨_,List.Pairwise.sublist List.filter_sublist nd,λc hc=>lt c (List.mem_filter.mp hc).1,λl hl c hc d hd=>?_,hv⟩;obtain⟨c1,c2⟩:=List.mem_filter.mp hc;obtain⟨d1,d2⟩:=List.mem_filter.mp hd;by_cases e:l<q
   .exact eq l e c c1 d d1
   .have e:l=q:=by lia
    subst e;have c2:=beq_iff_eq.mp c2;have d2:=beq_iff_eq.mp d2;have:=eb l c (aR hl hq);have:=eb l d (aR hl hq);omega
 obtain⟨L,nd,lt,eq,ln⟩:=all p (aG p);rw[Nat.sub_self,Nat.pow_zero]at ln
 match L,nd,lt,eq,ln with
 |c::d::L,nd,lt,eq,_ =>
  have ne:c≠d:=λz=>by
   rw[z]at nd;exact(List.nodup_cons.mp nd).1 aO
  refine⟨λk=>((c/(B+1)^k%(B+1):Nat):Int)-((d/(B+1)^k%(B+1):Nat):Int),?_,λk=>?_,λl hl=>?_⟩
  .by_cases h:∀k,k<p+1->c/(B+1)^k%(B+1)=d/(B+1)^k%(B+1)
   .exact absurd (digits_inj (U2 B) (p+1) c d (lt c aO) (lt d (aJ _ aO)) h) ne
   .obtain⟨k,hk⟩:=Classical.not_forall.mp h;obtain⟨k1,k2⟩:=Classical.not_imp.mp hk;exact⟨k,by exact UH k1,λz=>k2 (by
     have z:((c/(B+1)^k%(B+1):Nat):Int)-((d/(B+1)^k%(B+1):Nat):Int)=0:=z;generalize c/(B+1)^k%(B+1)=x at *;generalize d/(B+1)^k%(B+1)=y at *;lia)⟩
  .have:=om c k;have:=om d k;show(((c/(B+1)^k%(B+1):Nat):Int)-((d/(B+1)^k%(B+1):Nat):Int)).natAbs<=B;omega
  .rw[P_ (g:=λk=>((c/(B+1)^k%(B+1):Nat):Int)*C k l-((d/(B+1)^k%(B+1):Nat):Int)*C k l) λk _=>Int.sub_mul _ _ _,YK,eq l hl c aO d (aJ _ aO)];exact Int.sub_self _
 |[_],_,_,_,ln=>exact absurd ln (by simp)
 |[],_,_,_,ln=>exact absurd ln (by simp)
structure eV(A:Nat->Nat->Int)(b:Nat->Int)(m wd:Nat)(R:Nat->Nat->Rat)(p:Nat)(pv s:Nat->Nat):Prop where
 pm:p<=m
 sm:∀i,i<m->s i<m
 pw:∀l,l<p->pv l<wd
 unit:∀i l,i<m->l<p->R i (pv l)=if i=l then 1 else 0
 dec:∀i j,i<m->j<wd->(A (s i) j:Rat)=(if i<p then 0 else(b (s i):Rat)*R i j)+sg (λl=>(A (s i) (pv l):Rat)*R l j) p
 ind:∀ay:Nat->Rat,(∀j,j<wd->sg (λk=>ay k*(A (s k) j:Rat)) p=0)->∀k,k<p->ay k=0
section
variable{A:Nat->Nat->Int}{b:Nat->Int}{m wd p:Nat}{R:Nat->Nat->Rat}{pv s:Nat->Nat}
theorem eV.comb(h:eV A b m wd R p pv s)(ay:Nat->Rat){j:Nat}(hj:j<wd):sg (λk=>ay k*(A (s k) j:Rat)) p=sg (λl=>sg (λk=>ay k*(A (s k) (pv l):Rat)) p*R l j) p:=by
 have pm:=h.pm;rw[cj (g:=λk=>sg (λl=>ay k*(A (s k) (pv l):Rat)*R l j) p) λk hk=>?_]
 .rw[Uc];refine cj λl hl=>?_;rw[cj (g:=λk=>R l j*(ay k*(A (s k) (pv l):Rat))) λk _=>XU _ _,fJ,XU]
 .rw[h.dec k j (aR hk pm) hj,ZY hk,Rat.zero_add,<- fJ];exact cj λl _=>(Rat.mul_assoc _ _ _).symm
theorem gQ{x:Int}(h:x≠0):(x:Rat)≠0:=λz=>h (Rat.intCast_inj.mp (z.trans Rat.intCast_zero.symm))
theorem ag7{m N q:Nat}(hN:1<=N)(hq:q+1<=m):(2*(q+1)*N)^(q+1)<=(2*m*N)^m:=by
 have x:2*(q+1)*N<=2*m*N:=VX (by lia) (aG N);have y:1<=2*m*N:=VX (show 1<=2*m by lia) hN;exact aL (Nat.pow_le_pow_left x _) (XT y hq)
theorem abz{m N q:Nat}(hN:1<=N)(hq:q+1<=m):(q+1)*((2*(q+1)*N)^q*N)<=(2*m*N)^m:=by
 refine aL ?_ (ag7 hN hq);have e:(2*(q+1)*N)^(q+1)=2*((q+1)*((2*(q+1)*N)^q*N)):=by
  rw[Nat.pow_succ];ac_rfl
 lia
theorem eV.bound{N:Nat}(h:eV A b m wd R p pv s)(hN:1<=N)(hA:∀i j,i<m->j<wd->(A i j).natAbs<=N)(hb:∀i,i<m->0<b i/\(b i).natAbs<=N){i:Nat}(hi:i<m) :
    ∃(v:Nat->Int)(u:Int),u≠0/\u.natAbs<=(2*m*N)^m/\(∀j,j<wd->(v j).natAbs<=(2*m*N)^m)/\∀j,j<wd->R i j*(u:Rat)=(v j:Rat):=by
  have pm:=h.pm;by_cases ip:i<p
  . obtain⟨q,rfl⟩ : ∃q,p=q+1:=⟨p-1,by lia⟩
    obtain⟨ay,⟨k0,ku,iS⟩,bl,zr⟩:=Yc (p:=q) (C:=λk l=>A (s k) (if l<i then pv l else pv (l+1))) hN λk l hk hl=>by
      refine hA _ _ (h.sm k (by lia)) ?_;by_cases e:l<i
      . rw[ZY e];exact h.pw l (WU _ hl)
      . rw[ZZ e];exact h.pw (l+1) (Nat.succ_lt_succ hl)
    have cast:∀j,((sz (λk=>ay k*A (s k) j) (q+1):Int):Rat)=sg (λk=>(ay k:Rat)*(A (s k) j:Rat)) (q+1):=λj=>by
      rw[LK];exact cj λk _=>XV _ _
    have zl:∀l,l<q+1->l≠i->sz (λk=>ay k*A (s k) (pv l)) (q+1)=0:=λl hl ne=>by
      by_cases e:l<i
      . have:=zr l (aR e (UH ip))
        rw[ZY e]at this;exact this
      . have:=zr (l-1) (by omega)
        rw[ZZ (by lia),show l-1+1=l by lia]at this;exact this
    have ck:∀j,j<wd->((sz (λk=>ay k*A (s k) j) (q+1):Int):Rat)=((sz (λk=>ay k*A (s k) (pv i)) (q+1):Int):Rat)*R i j:=λj hj=>by
      rw[cast,h.comb (λk=>(ay k:Rat)) hj,cj (g:=λl=>(if l=i then 1 else 0)*(((sz (λk=>ay k*A (s k) (pv i)) (q+1):Int):Rat)*R l j)) λl hl=>?_,gO,ZY ip];rw[<- cast (pv l)];by_cases e:l=i
      . rw[ZY e,e,Rat.one_mul]
      . rw[ZZ e,zl l hl e,Q1];grind
    refine⟨λj=>sz (λk=>ay k*A (s k) j) (q+1),sz (λk=>ay k*A (s k) (pv i)) (q+1),λz=>?_,?_,λj hj=>?_,λj hj=>?_⟩
    . have:=h.ind (λk=>(ay k:Rat)) (λj hj=>by
        rw[<- cast,ck j hj,z,Q1];grind) k0 (Y3 ku (X1 _))
      exact gQ iS this
    . exact aL (Hj λk hk=>by rw[VS];exact VX (bl k) (hA _ _ (h.sm k (aR hk pm)) (h.pw i ip))) (abz hN (by omega))
    . exact aL (Hj λk hk=>by rw[VS];exact VX (bl k) (hA _ _ (h.sm k (aR hk pm)) hj)) (abz hN (by omega))
    . rw[ck j hj,XU]
  . obtain⟨ay,⟨k0,ku,iS⟩,bl,zr⟩:=Yc (p:=p) (C:=λk l=>A (s (if k<p then k else i)) (pv l)) hN λk l hk hl=>by
      refine hA _ _ (h.sm _ ?_) (h.pw l hl);by_cases e:k<p
      . rw[ZY e];exact aR e pm
      . rw[ZZ e];exact hi
    have cast:∀j,((sz (λk=>ay k*A (s (if k<p then k else i)) j) (p+1):Int):Rat)=sg (λk=>(ay k:Rat)*(A (s k) j:Rat)) p+(ay p:Rat)*(A (s i) j:Rat):=λj=>by
      rw[LK];show sg _ p+((ay p*A (s (if p<p then p else i)) j:Int):Rat)=_;rw[ZZ (X9 _),XV,cj (g:=λk=>(ay k:Rat)*(A (s k) j:Rat)) λk hk=>by rw[ZY hk,XV]]
    have ck:∀j,j<wd->((sz (λk=>ay k*A (s (if k<p then k else i)) j) (p+1):Int):Rat)=((ay p*b (s i):Int):Rat)*R i j:=λj hj=>by
      have e0:sg (λl=>sg (λk=>(ay k:Rat)*(A (s k) (pv l):Rat)) p*R l j) p+(ay p:Rat)*sg (λl=>(A (s i) (pv l):Rat)*R l j) p=0:=by
        rw[<- fJ,<- fZ,cj (g:=λ_=>0) λl hl=>?_,gk];have:=cast (pv l);rw[zr l hl,Q1]at this
        calc _=(sg (λk=>(ay k:Rat)*(A (s k) (pv l):Rat)) p+(ay p:Rat)*(A (s i) (pv l):Rat))*R l j:=by grind
          _=0:=by rw[<- this];grind
      rw[cast,h.comb (λk=>(ay k:Rat)) hj,h.dec i j hi hj,ZZ ip,XV]
      grind
    have bp:=hb _ (h.sm i hi);have lp:ay p≠0:=λz=>by
      have kp:k0<p:=by
        by_cases e:k0=p
        . rw[e,z]at iS;exact absurd rfl iS
        . exact XX ku e
      have:=h.ind (λk=>(ay k:Rat)) (λj hj=>by
        have c:=cast j;rw[ck j hj,z,Int.zero_mul,Q1]at c
        grind) k0 kp
      exact gQ iS this
    refine⟨λj=>sz (λk=>ay k*A (s (if k<p then k else i)) j) (p+1),ay p*b (s i),λz=>?_,?_,λj hj=>?_,λj hj=>?_⟩
    . rcases Int.mul_eq_zero.mp z with y|y
      . exact lp y
      . lia
    . rw[VS]
      refine aL (VX (bl p) bp.2) (aL ?_ (abz hN (show p+1<=m by lia)));exact Zzu _ (U2 p)
    . exact aL (Hj λk hk=>by
        rw[VS];refine VX (bl k) (hA _ _ (h.sm _ ?_) hj);by_cases e:k<p
        . rw[ZY e];exact aR e pm
        . rw[ZZ e];exact hi) (abz hN (show p+1<=m by lia))
    . rw[ck j hj,XU]
theorem eV.congr(h:eV A b m wd R p pv s){R':Nat->Nat->Rat}(e:∀i j,i<m->R i j=R' i j):eV A b m wd R' p pv s:=by
 have pm:=h.pm;refine⟨h.pm,h.sm,h.pw,λi l hi hl=>by rw[<- e i _ hi];exact h.unit i l hi hl,λi j hi hj=>?_,h.ind⟩;rw[h.dec i j hi hj,e i j hi,cj λl hl=>by rw[e l j (aR hl pm)]]
theorem eV.zero(hb:∀i,i<m->0<b i):eV A b m wd (λi j=>(A i j:Rat)/(b i:Rat)) 0 pv id:=by
 refine⟨aZ _,λi hi=>hi,λl hl=>absurd hl (WV _),λi l _ hl=>absurd hl (WV _),λi j hi hj=>?_,λay _ k hk=>absurd hk (WV _)⟩;rw[ZZ (WV _)];have:=gQ (WS (hb i hi));show(A i j:Rat)=(b i:Rat)*((A i j:Rat)/(b i:Rat))+0
 grind
def sw(p q x:Nat):Nat:=if x=p then q else if x=q then p else x
theorem eV.swap(h:eV A b m wd R p pv s){q:Nat}(hp:p<=q)(hq:q<m){R':Nat->Nat->Rat}(hR:∀i j,i<m->j<wd->R' i j=R (sw p q i) j):eV A b m wd R' p pv (λi=>s (sw p q i)):=by
 have pm:=h.pm;have sl:∀l,l<p->sw p q l=l:=λl hl=>by unfold sw;rw[ZZ (aQ hl),ZZ (by lia)]
 have sm:∀i,i<m->sw p q i<m:=λi hi=>by
  unfold sw;split
  .exact hq
  .split<;>omega
 have sp:∀i,(sw p q i<p)↔i<p:=λi=>by
  unfold sw;split
  .lia
  .split<;>lia
 refine⟨pm,λi hi=>h.sm _ (sm i hi),h.pw,λi l hi hl=>?_,λi j hi hj=>?_,λay hz=>?_⟩
 .rw[hR i _ hi (h.pw l hl),h.unit _ l (sm i hi) hl];by_cases e:i=l
  .rw[ZY e,e,ZY (sl l hl)]
  .rw[ZZ e,ZZ λz=>e ?_];have:i<p:=(sp i).mp (Y3 (WH z) hl);rw[<- z,sl i this]
 .rw[h.dec _ j (sm i hi) hj,hR i j hi hj]
  congr 1
  .by_cases e:i<p
   .rw[ZY e,ZY ((sp i).mpr e)]
   .rw[ZZ e,ZZ λz=>e ((sp i).mp z)]
  .exact cj λl hl=>by rw[hR l j (aR hl pm) hj,sl l hl]
 .exact h.ind ay λj hj=>by
   rw[<- hz j hj];exact cj λk hk=>by rw[sl k hk]
theorem eV.pivot(h:eV A b m wd R p pv s)(hp:p<m)(hb:∀i,i<m->0<b i){c:Nat}(hc:c<wd)(h0:R p c≠0){R':Nat->Nat->Rat}(l6:∀j,j<wd->R' p j*R p c=R p j)(mw:∀i j,i<m->i≠p->j<wd->R' i j=R i j-R i c*R' p j) :
  eV A b m wd R' (p+1) (λl=>if l=p then c else pv l) s:=by
 have pm:=h.pm;have one:R' p c=1:=by
  have:=l6 c hc
  grind
 have zp:∀l,l<p->R' p (pv l)=0:=λl hl=>by
  have:=l6 (pv l) (h.pw l hl);rw[h.unit p l hp hl,ZZ (VQ hl)]at this
  grind
 have pvl:∀l,l<p->(if l=p then c else pv l)=pv l:=λl hl=>ZZ (aQ hl);have old:∀i j,i<m->i≠p->j<wd->R i j=R' i j+R i c*R' p j:=λi j hi ne hj=>by rw[mw i j hi ne hj];grind
 have dec:∀i j,i<m->j<wd->(A (s i) j:Rat)=(if i<p+1 then 0 else(b (s i):Rat)*R' i j)+sg (λl=>(A (s i) (if l=p then c else pv l):Rat)*R' l j) (p+1):=λi j hi hj=>by
  have dj:=h.dec i j hi hj;have dc:=h.dec i c hi hc;have ej:sg (λl=>(A (s i) (pv l):Rat)*R l j) p=sg (λl=>(A (s i) (pv l):Rat)*R' l j) p+R' p j*sg (λl=>(A (s i) (pv l):Rat)*R l c) p:=by
   rw[<- fJ,<- fZ];exact cj λl hl=>by rw[old l j (Ts hl hp) (aQ hl) hj];grind
  rw[ej]at dj;show _=_+(sg _ p+(A (s i) (if p=p then c else pv p):Rat)*R' p j);rw[ZY rfl,cj (g:=λl=>(A (s i) (pv l):Rat)*R' l j) λl hl=>by rw[pvl l hl]];by_cases e:i<p
  .rw[ZY (WU _ e)];rw[ZY e]at dj dc
   grind
  .rw[ZZ e]at dj dc;by_cases e2:i=p
   .rw[ZY (by lia)];subst e2;have:=l6 j hj
    grind
   .rw[ZZ (by lia)];have:=old i j hi e2 hj
    grind
 refine⟨hp,h.sm,λl hl=>?_,λi l hi hl=>?_,dec,λay hz=>?_⟩
 .by_cases e:l=p
  .show(if l=p then c else pv l)<wd;rw[ZY e];exact hc
  .show(if l=p then c else pv l)<wd;rw[ZZ e];exact h.pw l (XX (UH hl) e)
 .show R' i (if l=p then c else pv l)=_;by_cases e:l=p
  .rw[ZY e,e];by_cases ip:i=p
   .rw[ZY ip,ip];exact one
   .rw[ZZ ip,mw i c hi ip hc,one];grind
  .rw[ZZ e];have kr:l<p:=by exact XX (UH hl) e
   by_cases ip:i=p
   .rw[ip,zp l kr,ZZ (Ne.symm e)]
   .rw[mw i _ hi ip (h.pw l kr),zp l kr,h.unit i l hi kr];grind
 .have lp:ay p=0:=by
   by_cases z:ay p=0
   .exact z
   .exfalso

    have hj:∀j,j<wd->sg (λk=>ay k*(A (s k) j:Rat)) p=-(ay p*(A (s p) j:Rat)):=λj hj=>by
     have:sg (λk=>ay k*(A (s k) j:Rat)) p+ay p*(A (s p) j:Rat)=0:=hz j hj
     grind
    have dk:=h.comb ay hc;rw[hj c hc,cj (g:=λl=>-(ay p)*((A (s p) (pv l):Rat)*R l c)) λl hl=>by rw[hj _ (h.pw l hl)];grind,fJ]at dk;have dc:=h.dec p c hp hc;rw[ZZ (X9 p)]at dc;have b0:=gQ (WS (hb _ (h.sm p hp)));have:ay p*((b (s p):Rat)*R p c)=0:=by rw[dc]at dk;grind
    grind
  intro k hk;by_cases e:k=p
  .rw[e];exact lp
  .refine h.ind ay (λj hj=>?_) k (XX (UH hk) e);have:sg (λk=>ay k*(A (s k) j:Rat)) p+ay p*(A (s p) j:Rat)=0:=hz j hj;rw[lp]at this
   grind
end
noncomputable def vr(r:List Int×Int)(j:Nat):Rat:=((r.1.getD j 0:Int):Rat)/(r.2:Rat)
theorem JZ{f:Int->Int}(h0:f 0=0)(xs:List Int)(j:Nat):(xs.map f).getD j 0=f (xs.getD j 0):=by
 rw[au,au,aq];cases xs[j]? with
 |none=>exact h0.symm
 |some t=>rfl
theorem o8{r:List Int×Int}(h:0<r.2)(j:Nat):vr (iB r) j=vr r j:=by
 have g0:=fW (ts:=r.1) h;obtain⟨d1,d2⟩:=f9 (ts:=r.1) (b:=r.2);have e1:(iB r).1.getD j 0=r.1.getD j 0/gcL r.1 r.2:=JZ (f:=λt=>t/gcL r.1 r.2) (Int.zero_ediv _) r.1 j;have d3:gcL r.1 r.2 ∣ r.1.getD j 0:=by
  rw[au];cases e:r.1[j]? with
  |none=>exact⟨0,by rw[Int.mul_zero];rfl⟩
  |some t=>exact d2 t (aC e)
 have e2:(iB r).2=r.2/gcL r.1 r.2:=rfl;unfold vr;rw[e1,e2];generalize r.1.getD j 0=t at *;generalize gcL r.1 r.2=g at *;obtain⟨u,hu⟩:=d3;obtain⟨v,hv⟩:=d1;rw[hu,hv,Q2 _ (WS g0),Q2 _ (WS g0),XV,XV];have v0:v≠0:=λz=>by rw[hv,z,Int.mul_zero]at h;lia
 have:=gQ v0;have:=gQ (WS g0)
 grind
theorem jd{r:List Int×Int}{c:Ξ}(h:0<r.2)(hc:0<c.2)(j:Nat):vr (gM r c) j=vr r j*((c.1:Rat)/(c.2:Rat)):=by
 have e1:(gM r c).1.getD j 0=r.1.getD j 0*c.1:=JZ (f:=λt=>t*c.1) (Int.zero_mul _) r.1 j;have e2:(gM r c).2=r.2*c.2:=rfl;unfold vr;rw[e1,e2,XV,XV];have:=gQ (WS h);have:=gQ (WS hc)
 grind
theorem lW{r p:List Int×Int}{c:Ξ}(hr:0<r.2)(hp:0<p.2)(hc:0<c.2)(hl:r.1.length=p.1.length)(j:Nat):vr (mQ r p c) j=vr r j+((c.1:Rat)/(c.2:Rat))*vr p j:=by
 have hB:=XZ hp hc;have g0:=aiE (t:=r.2) hB;obtain⟨u,hu⟩:=Int.gcd_dvd_left r.2 (p.2*c.2);obtain⟨v,hv⟩:=JP r.2 (p.2*c.2);have es:mQ r p c=(List.zipWith (λx y=>x*v+y*(u*c.1)) r.1 p.1,r.2*v):=by
  unfold mQ;generalize((Int.gcd r.2 (p.2*c.2):Nat):Int)=g at g0 hu hv ⊢;have e1:p.2*c.2/g=v:=by rw[hv,Q2 _ (WS g0)]
  have e2:r.2/g=u:=by
   conv=>lhs;rw[hu]
   exact Q2 _ (WS g0)
  rw[e1,e2]
 generalize((Int.gcd r.2 (p.2*c.2):Nat):Int)=g at g0 hu hv;have v0:0<v:=Int.pos_of_mul_pos_right (by rw[<- hv];exact hB) g0;have ez:(List.zipWith (λx y=>x*v+y*(u*c.1)) r.1 p.1).getD j 0=r.1.getD j 0*v+p.1.getD j 0*(u*c.1):=by
  rw[au,au,au,List.getElem?_zipWith];by_cases e:j<r.1.length
  .rw[aj e,aj (aR e (WH hl))];rfl
  .rw[aM (Up e),aM (by lia)];show(0:Int)=0*v+0*(u*c.1);rw[Int.zero_mul,Int.zero_mul];rfl
 rw[es];unfold vr;show((List.zipWith (λx y=>x*v+y*(u*c.1)) r.1 p.1).getD j 0:Rat)/((r.2*v:Int):Rat)=_;rw[ez];generalize r.1.getD j 0=x;generalize p.1.getD j 0=y;have hu':(r.2:Rat)=(g:Rat)*(u:Rat):=by rw[<- XV,<- hu]
 have lS:(p.2:Rat)*(c.2:Rat)=(g:Rat)*(v:Rat):=by rw[<- XV,<- XV,hv]
 have r0:=gQ (WS hr);have p0:=gQ (WS hp);have c0:=gQ (WS hc);have q0:=gQ (WS v0);have k0:=gQ (WS g0);rw[Rat.intCast_add,XV,XV,XV,XV];generalize(r.2:Rat)=r2 at *;generalize(p.2:Rat)=p2 at *;generalize(c.2:Rat)=c2 at *;generalize(c.1:Rat)=c1 at *;generalize(g:Rat)=gg at *;generalize(u:Rat)=uu at *;generalize(v:Rat)=vv at *;generalize(x:Rat)=xx at *;generalize(y:Rat)=yy at *;have e1:(xx*vv+yy*(uu*c1))/(r2*vv)=xx/r2+yy*(uu*c1)/(r2*vv):=by grind
 have e2:yy*(uu*c1)/(r2*vv)=c1/c2*(yy/p2):=by
  have:uu*(c2*p2)=r2*vv:=by rw[hu',XU c2 p2,lS];grind
  grind
 rw[e1,e2]
theorem mC{M wd:Nat}{r:List Int×Int}(hr:0<r.2)(g:gcL r.1 r.2=1)(hw:r.1.length=wd){v:Nat->Int}{u:Int}(u0:u≠0)(ub:u.natAbs<=M)(vb:∀j,j<wd->(v j).natAbs<=M)(e:∀j,j<wd->vr r j*(u:Rat)=(v j:Rat)):Big M r:=by
 refine least (s:=((List.range wd).map λj=>v j*u.sign,u.natAbs)) hr g ⟨?_,λk a b ha hb=>?_⟩ ⟨?_,?_,λt ht=>?_⟩
 .show r.1.length=((List.range wd).map λj=>v j*u.sign).length;rw[hw,ak,WJ]
 .have kw:k<wd:=by rw[<- hw];exact(ao.mp ha).1
  have hb:((List.range wd).map λj=>v j*u.sign)[k]?=some b:=hb;rw[aq,UZ kw]at hb;cases hb;show a*((u.natAbs:Nat):Int)=v k*u.sign*r.2;have ek:=e k kw;unfold vr at ek;rw[au,ha]at ek;have ek:(a:Rat)/(r.2:Rat)*(u:Rat)=(v k:Rat):=ek;have r0:=gQ (WS hr);have k2:a*u=v k*r.2:=by
   refine Rat.intCast_inj.mp ?_;rw[XV,XV]
   grind
  have k1:((u.natAbs:Nat):Int)=u*u.sign:=(Int.mul_sign_self u).symm;rw[k1,<- Int.mul_assoc,k2];ac_rfl
 .show(0:Int)<(u.natAbs:Nat);lia
 .show(((u.natAbs:Nat):Int)).natAbs<=M;rw[XG];exact ub
 .obtain⟨j,hj,rfl⟩:=YV.mp ht;rw[VS,Int.natAbs_sign_of_ne_zero u0,Nat.mul_one];exact vb j (List.mem_range.mp hj)
end Rw
namespace K22
open PySem PyProof.Rows L2
noncomputable abbrev yu:Stmt:=top 10
noncomputable abbrev fP:Θ:=["thing"]
noncomputable abbrev fM:Str:="is_whole"
noncomputable abbrev RJ:Θ:=["thing"]
theorem Ox:bK RJ fP (bF yu):=fsc
noncomputable abbrev Cr:Stmt:=top 11
noncomputable abbrev gW:Θ:=["one","other"]
noncomputable abbrev gU:Str:="divisor"
noncomputable abbrev Vy:Θ:=["one","other","left","right","rest"]
theorem lC:bK Vy gW (bF Cr):=fsc
noncomputable abbrev Kd:Stmt:=top 15
noncomputable abbrev pN:Θ:=["top","bottom"]
noncomputable abbrev pA:Str:="ratio"
noncomputable abbrev abZ:Θ:=["top","bottom","common"]
theorem HY:bK abZ pN (bF Kd):=fsc
noncomputable abbrev yp:Stmt:=top 16
noncomputable abbrev jB:Θ:=["thing"]
noncomputable abbrev jK:Str:="is_ratio"
noncomputable abbrev SQ:Θ:=["thing","top","bottom"]
theorem vG:bK SQ jB (bF yp):=fsc
noncomputable abbrev R5:Stmt:=top 17
noncomputable abbrev Ei:Θ:=["one","other"]
noncomputable abbrev Fg:Str:="plus"
noncomputable abbrev adM:Θ:=["one","other"]
theorem abI:bK adM Ei (bF R5):=fsc
noncomputable abbrev Mp:Stmt:=top 18
noncomputable abbrev rE:Θ:=["one","other"]
noncomputable abbrev rF:Str:="minus"
noncomputable abbrev aa3:Θ:=["one","other"]
theorem XD:bK aa3 rE (bF Mp):=fsc
noncomputable abbrev Mr:Stmt:=top 19
noncomputable abbrev Bp:Θ:=["one","other"]
noncomputable abbrev zq:Str:="times"
noncomputable abbrev acF:Θ:=["one","other"]
theorem Zh:bK acF Bp (bF Mr):=fsc
noncomputable abbrev Sw:Stmt:=top 20
noncomputable abbrev DX:Θ:=["one","other"]
noncomputable abbrev Fb:Str:="over"
noncomputable abbrev aep:Θ:=["one","other"]
theorem acs:bK aep DX (bF Sw):=fsc
noncomputable abbrev Mv:Stmt:=top 21
noncomputable abbrev vQ:Θ:=["one","other"]
noncomputable abbrev vX:Str:="under"
noncomputable abbrev acJ:Θ:=["one","other"]
theorem Yz:bK acJ vQ (bF Mv):=fsc
noncomputable abbrev Ey:Stmt:=top 23
noncomputable abbrev v9:Θ:=["fractions"]
noncomputable abbrev vY:Str:="level"
noncomputable abbrev Us:Θ:=["fractions","bottom","one"]
theorem z8:bK Us v9 (bF Ey):=fsc
noncomputable abbrev Nv:Stmt:=top 24
noncomputable abbrev Ak:Θ:=["fractions"]
noncomputable abbrev yQ:Str:="total"
noncomputable abbrev acC:Θ:=["fractions","leveled"]
theorem Qh:bK acC Ak (bF Nv):=fsc
noncomputable abbrev Kc:Stmt:=top 26
noncomputable abbrev wX:Θ:=["thing","many"]
noncomputable abbrev tu:Str:="fits"
noncomputable abbrev ae4:Θ:=["thing","many"]
theorem Vd:bK ae4 wX (bF Kc):=fsc
noncomputable abbrev n_:Stmt:=top 27
noncomputable abbrev gD:Θ:=["hall","plan"]
noncomputable abbrev eY:Str:="check_plan"
noncomputable abbrev KR:Θ:=["hall","plan","room","thing"]
theorem gF:bK KR gD (bF n_):=fsc
noncomputable abbrev zc:Stmt:=top 29
noncomputable abbrev rJ:Θ:=["tops","bottom"]
noncomputable abbrev q_:Str:="lowest"
noncomputable abbrev Pq:Θ:=["tops","bottom","common","top"]
theorem xg:bK Pq rJ (bF zc):=fsc
noncomputable abbrev qw:Stmt:=top 30
noncomputable abbrev oU:Θ:=["row","often"]
noncomputable abbrev oF:Str:="row_times"
noncomputable abbrev uR:Θ:=["row","often"]
theorem Kr:bK uR oU (bF qw):=fsc
noncomputable abbrev sE:Stmt:=top 31
noncomputable abbrev pW:Θ:=["row","other","often"]
noncomputable abbrev p7:Str:="row_plus"
noncomputable abbrev yd:Θ:=["row","other","often","bottom","common","own","added","tops"]
theorem jH:bK yd pW (bF sE):=fsc
noncomputable abbrev vK:Stmt:=top 32
noncomputable abbrev oJ:Θ:=["leveled","step"]
noncomputable abbrev oN:Str:="take_step"
noncomputable abbrev Oh:Θ:=["leveled","step","row"]
theorem Bu:bK Oh oJ (bF vK):=fsc
noncomputable abbrev v7:Stmt:=top 33
noncomputable abbrev kO:Θ:=["row","column"]
noncomputable abbrev j7:Str:="number_at"
noncomputable abbrev Pb:Θ:=["row","column"]
theorem Nz:bK Pb kO (bF v7):=fsc
noncomputable abbrev g_:Stmt:=top 34
noncomputable abbrev ji:Θ:=["leveled"]
noncomputable abbrev jr:Str:="fractions_of"
noncomputable abbrev iz:Θ:=["leveled"]
theorem DK:bK iz ji (bF g_):=fsc
noncomputable abbrev sH:Stmt:=top 35
noncomputable abbrev lX:Θ:=["leveled","place","column"]
noncomputable abbrev lV:Str:="first_from"
noncomputable abbrev Lk:Θ:=["leveled","place","column","row"]
theorem xK:bK Lk lX (bF sH):=fsc
noncomputable abbrev Nf:Stmt:=top 36
noncomputable abbrev vq:Θ:=["leveled","steps","step"]
noncomputable abbrev uJ:Str:="go_on"
noncomputable abbrev acv:Θ:=["leveled","steps","step"]
theorem aaD:bK acv vq (bF Nf):=fsc
noncomputable abbrev uE:Stmt:=top 37
noncomputable abbrev nW:Θ:=["leveled","steps","place","found","column"]
noncomputable abbrev nq:Str:="begin_row"
noncomputable abbrev Q_:Θ:=["leveled","steps","place","found","column","first"]
theorem z9:bK Q_ nW (bF uE):=fsc
noncomputable abbrev pK:Stmt:=top 38
noncomputable abbrev jt:Θ:=["leveled","steps","place","column"]
noncomputable abbrev jm:Str:="clear_column"
noncomputable abbrev GQ:Θ:=["leveled","steps","place","column","row","often"]
theorem mY:bK GQ jt (bF pK):=fsc
noncomputable abbrev wR:Stmt:=top 39
noncomputable abbrev sX:Θ:=["rows","wide"]
noncomputable abbrev tX:Str:="reduced"
noncomputable abbrev Cp:Θ:=["rows","wide","leveled","steps","place","column","found"]
theorem jy:bK Cp sX (bF wR):=fsc
noncomputable abbrev yL:Stmt:=top 41
noncomputable abbrev qm:Θ:=["rows"]
noncomputable abbrev qj:Str:="width_of"
noncomputable abbrev S8:Θ:=["rows"]
theorem Q9:bK S8 qm (bF yL):=fsc
noncomputable abbrev lN:Stmt:=top 42
noncomputable abbrev jW:Θ:=["rows","rights"]
noncomputable abbrev jZ:Str:="with_rights"
noncomputable abbrev qz:Θ:=["rows","rights"]
theorem Gm:bK qz jW (bF lN):=fsc
noncomputable abbrev qg:Stmt:=top 43
noncomputable abbrev oG:Θ:=["end","wide"]
noncomputable abbrev nR:Str:="begins_of"
noncomputable abbrev uy:Θ:=["end","wide","begins","row","columns"]
theorem oH:bK uy oG (bF qg):=fsc
noncomputable abbrev Cw:Stmt:=top 44
noncomputable abbrev tK:Θ:=["end","begins","wide"]
noncomputable abbrev su:Str:="odd_row"
noncomputable abbrev Wh:Θ:=["end","begins","wide","row"]
theorem FN:bK Wh tK (bF Cw):=fsc
noncomputable abbrev uh:Stmt:=top 45
noncomputable abbrev nY:Θ:=["end","begins","wide"]
noncomputable abbrev nQ:Str:="answer_of"
noncomputable abbrev Q7:Θ:=["end","begins","wide","answer","row","column"]
theorem oM:bK Q7 nY (bF uh):=fsc
noncomputable abbrev iY:Stmt:=top 46
noncomputable abbrev jU:Θ:=["many"]
noncomputable abbrev kE:Str:="single_rows"
noncomputable abbrev jf:Θ:=["many"]
theorem Gf:bK jf jU (bF iY):=fsc
noncomputable abbrev qN:Stmt:=top 47
noncomputable abbrev gY:Θ:=["rows","rights"]
noncomputable abbrev iy:Str:="only_answer"
noncomputable abbrev Jh:Θ:=["rows","rights","wide","end","begins"]
theorem kZ:bK Jh gY (bF qN):=fsc
noncomputable abbrev jP:Stmt:=top 49
noncomputable abbrev gC:Θ:=["hall","plan"]
noncomputable abbrev gw:Str:="chosen_doors"
noncomputable abbrev pO:Θ:=["hall","plan"]
theorem Dl:bK pO gC (bF jP):=fsc
noncomputable abbrev uV:Stmt:=top 50
noncomputable abbrev jX:Θ:=["share","chosen"]
noncomputable abbrev j_:Str:="left_rows"
noncomputable abbrev Qu:Θ:=["share","chosen","rows","room","offer","behind","chance"]
theorem iD:bK Qu jX (bF uV):=fsc
noncomputable abbrev jG:Stmt:=top 51
noncomputable abbrev iM:Θ:=["hall","plan"]
noncomputable abbrev fY:Str:="worths_of"
noncomputable abbrev mJ:Θ:=["hall","plan","chosen","pays"]
theorem iK:bK mJ iM (bF jG):=fsc
noncomputable abbrev wO:Stmt:=top 54
noncomputable abbrev lJ:Θ:=["thing"]
noncomputable abbrev lq:Str:="is_word"
noncomputable abbrev Cd:Θ:=["thing"]
theorem Tw:bK Cd lJ (bF wO):=fsc
noncomputable abbrev rQ:Stmt:=top 56
noncomputable abbrev jg:Θ:=["name","pay"]
noncomputable abbrev jc:Str:="check_head"
noncomputable abbrev Km:Θ:=["name","pay"]
theorem Ib:bK Km jg (bF rQ):=fsc
noncomputable abbrev jO:Stmt:=top 57
noncomputable abbrev d9:Θ:=["room"]
noncomputable abbrev dZ:Str:="check_room_name"
noncomputable abbrev zV:Θ:=["room"]
theorem yJ:bK zV d9 (bF jO):=fsc
noncomputable abbrev o7:Stmt:=top 58
noncomputable abbrev gA:Θ:=["chance"]
noncomputable abbrev gB:Str:="check_chance"
noncomputable abbrev Fx:Θ:=["chance"]
theorem DN:bK Fx gA (bF o7):=fsc
noncomputable abbrev lU:Stmt:=top 59
noncomputable abbrev kh:Θ:=["pairs"]
noncomputable abbrev jM:Str:="check_pairs"
noncomputable abbrev qL:Θ:=["pairs","room","chance"]
theorem pB:bK qL kh (bF lU):=fsc
noncomputable abbrev mq:Stmt:=top 60
noncomputable abbrev j5:Θ:=["pairs"]
noncomputable abbrev k_:Str:="joined_ways"
noncomputable abbrev xY:Θ:=["pairs","chances","room","chance"]
theorem jR:bK xY j5 (bF mq):=fsc
noncomputable abbrev qU:Stmt:=top 67
noncomputable abbrev jN:Θ:=["share"]
noncomputable abbrev kJ:Str:="check_share"
noncomputable abbrev Ja:Θ:=["share"]
theorem Hx:bK Ja jN (bF qU):=fsc
noncomputable abbrev rO:Stmt:=top 68
noncomputable abbrev lM:Θ:=["rooms"]
noncomputable abbrev mF:Str:="numbers_of"
noncomputable abbrev M8:Θ:=["rooms","numbers","room","name"]
theorem lQ:bK M8 lM (bF rO):=fsc
noncomputable abbrev mX:Stmt:=top 69
noncomputable abbrev iH:Θ:=["door","numbers"]
noncomputable abbrev iQ:Str:="numbered_ways"
noncomputable abbrev DP:Θ:=["door","numbers","numbered","name","chance"]
theorem iI:bK DP iH (bF mX):=fsc
noncomputable abbrev vO:Stmt:=top 70
noncomputable abbrev nU:Θ:=["doors","numbers"]
noncomputable abbrev n6:Str:="offers_of"
noncomputable abbrev QX:Θ:=["doors","numbers","taken","told","door"]
theorem nJ:bK QX nU (bF vO):=fsc
noncomputable abbrev Sq:Stmt:=top 73
noncomputable abbrev Bx:Θ:=["_law_script","_law_k"]
noncomputable abbrev Ab:Str:="_law_cell"
noncomputable abbrev aeW:Θ:=["_law_script","_law_k"]
theorem acG:bK aeW Bx (bF Sq):=fsc
noncomputable abbrev GF:Stmt:=top 74
noncomputable abbrev gG:Θ:=["_law_cell_here","_law_many"]
noncomputable abbrev gH:Str:="_law_stream"
noncomputable abbrev Zq:Θ:=["_law_cell_here","_law_many","_law_found","_law_number","_law_digits","_law_k"]
theorem jE:bK Zq gG (bF GF):=fsc
noncomputable abbrev X_:Stmt:=top 75
noncomputable abbrev Hy:Θ:=["_law_one","_law_other"]
noncomputable abbrev FZ:Str:="_law_gcd"
noncomputable abbrev akt:Θ:=["_law_one","_law_other","_law_low","_law_high"]
theorem K6:bK akt Hy (bF X_):=fsc
noncomputable abbrev G4:Stmt:=top 76
noncomputable abbrev oW:Θ:=["_law_top","_law_bottom"]
noncomputable abbrev oX:Str:="_law_ratio"
noncomputable abbrev YB:Θ:=["_law_top","_law_bottom","_law_common"]
theorem JF:bK YB oW (bF G4):=fsc
noncomputable abbrev wj:Stmt:=top 77
noncomputable abbrev oO:Θ:=["_law_found"]
noncomputable abbrev nu:Str:="_law_is_ratio"
noncomputable abbrev Pn:Θ:=["_law_found","_law_number"]
theorem A_:bK Pn oO (bF wj):=fsc
noncomputable abbrev ou:Stmt:=top 78
noncomputable abbrev lO:Θ:=["_law_found","_law_many"]
noncomputable abbrev lR:Str:="_law_are_ratios"
noncomputable abbrev sU:Θ:=["_law_found","_law_many"]
theorem Jo:bK sU lO (bF ou):=fsc
noncomputable abbrev s_same:Stmt:=top 79
noncomputable abbrev E_:Θ:=["_law_one","_law_other"]
noncomputable abbrev El:Str:="_law_same"
noncomputable abbrev aer:Θ:=["_law_one","_law_other"]
theorem aby:bK aer E_ (bF s_same):=fsc
noncomputable abbrev w5:Stmt:=top 80
noncomputable abbrev Bw:Θ:=["_law_cell_here","_law_many"]
noncomputable abbrev Ar:Str:="_law_names"
noncomputable abbrev tY:Θ:=["_law_cell_here","_law_many","_law_letters","_law_xs","_law_base","_law_at","_law_step"]
theorem qZ:bK tY Bw (bF w5):=fsc
noncomputable abbrev NT:Stmt:=top 81
noncomputable abbrev Ad:Θ:=["_law_cell_here"]
noncomputable abbrev zU:Str:="_law_share"
noncomputable abbrev ace:Θ:=["_law_cell_here","_law_xs","_law_bottom"]
theorem Gj:bK ace Ad (bF NT):=fsc
noncomputable abbrev Zv:Stmt:=top 82
noncomputable abbrev Nm:Θ:=["_law_cell_here","_law_x","_law_y"]
noncomputable abbrev Mq:Str:="_law_pay"
noncomputable abbrev akf:Θ:=["_law_cell_here","_law_x","_law_y"]
theorem afJ:bK akf Nm (bF Zv):=fsc
noncomputable abbrev yP:Stmt:=top 83
noncomputable abbrev Fi:Θ:=["_law_cell_here","_law_many"]
noncomputable abbrev En:Str:="_law_door"
noncomputable abbrev sI:Θ:=["_law_cell_here","_law_many","_law_xs","_law_rooms","_law_sort","_law_pairs","_law_bottom","_law_part","_law_weights"]
theorem jj:bK sI Fi (bF yP):=fsc
noncomputable abbrev D_:Stmt:=top 84
noncomputable abbrev zP:Θ:=["_law_script","_law_at","_law_many","_law_most"]
noncomputable abbrev zf:Str:="_law_doors"
noncomputable abbrev Lw:Θ:=["_law_script","_law_at","_law_many","_law_most","_law_rooms","_law_first","_law_cells","_law_cell_here","_law_room","_law_door_here"]
theorem pC:bK Lw zP (bF D_):=fsc
noncomputable abbrev Bg:Stmt:=top 85
noncomputable abbrev yX:Θ:=["_law_title","_law_door_here","_law_names_here"]
noncomputable abbrev zF:Str:="_law_built"
noncomputable abbrev Bk:Θ:=["_law_title","_law_door_here","_law_names_here","_law_told","_law_sort","_law_pay_here","_law_pairs"]
theorem vI:bK Bk yX (bF Bg):=fsc
noncomputable abbrev Lh:Stmt:=top 86
noncomputable abbrev Er:Θ:=["_law_cell_here","_law_share_here","_law_rooms"]
noncomputable abbrev Eo:Str:="_law_hall"
noncomputable abbrev Tv:Θ:=["_law_cell_here","_law_share_here","_law_rooms","_law_names_here","_law_found","_law_k","_law_titles"]
theorem zT:bK Tv Er (bF Lh):=fsc
noncomputable abbrev Hq:Stmt:=top 87
noncomputable abbrev wJ:Θ:=["_law_cell_here","_law_rooms"]
noncomputable abbrev wM:Str:="_law_chosen"
noncomputable abbrev Zz:Θ:=["_law_cell_here","_law_rooms","_law_xs","_law_found","_law_k"]
theorem wI:bK Zz wJ (bF Hq):=fsc
noncomputable abbrev RW:Stmt:=top 88
noncomputable abbrev Eb:Θ:=["_law_share_here","_law_door_here","_law_worths"]
noncomputable abbrev Fe:Str:="_law_look"
noncomputable abbrev aeT:Θ:=["_law_share_here","_law_door_here","_law_worths","_law_top","_law_bottom","_law_room","_law_chance","_law_part"]
theorem mD:bK aeT Eb (bF RW):=fsc
noncomputable abbrev Sh:Stmt:=top 89
noncomputable abbrev Ef:Θ:=["_law_cell_here"]
noncomputable abbrev Et:Str:="_law_size"
noncomputable abbrev adX:Θ:=["_law_cell_here","_law_xs"]
theorem Ve:bK adX Ef (bF Sh):=fsc
noncomputable abbrev K_:Stmt:=top 90
noncomputable abbrev Bf:Θ:=["_law_found","_law_share_here","_law_rooms","_law_plan"]
noncomputable abbrev zH:Str:="_law_right"
noncomputable abbrev abX:Θ:=["_law_found","_law_share_here","_law_rooms","_law_plan","_law_k","_law_due"]
theorem Ae:bK abX Bf (bF K_):=fsc
noncomputable abbrev Yx:Stmt:=top 91
noncomputable abbrev Nk:Θ:=["_law_cell_here","_law_many"]
noncomputable abbrev Kw:Str:="_law_odd"
noncomputable abbrev ahW:Θ:=["_law_cell_here","_law_many"]
theorem aeQ:bK ahW Nk (bF Yx):=fsc
noncomputable abbrev G5:Stmt:=top 92
noncomputable abbrev wU:Θ:=["_law_cell_here","_law_plan","_law_rooms"]
noncomputable abbrev wL:Str:="_law_spoilt"
noncomputable abbrev aao:Θ:=["_law_cell_here","_law_plan","_law_rooms","_law_xs","_law_at","_law_later","_law_found","_law_some"]
theorem lB:bK aao wU (bF G5):=fsc
noncomputable abbrev BX:Stmt:=top 93
noncomputable abbrev tH:Θ:=["_law_hall_here","_law_plan"]
noncomputable abbrev sY:Str:="_law_refused"
noncomputable abbrev Wf:Θ:=["_law_hall_here","_law_plan","e"]
theorem FW:bK Wf tH (bF BX):=fsc
noncomputable abbrev vM:Stmt:=top 94
noncomputable abbrev oE:Θ:=["_law_hall_here","_law_cell_here","_law_plan","_law_rooms"]
noncomputable abbrev nM:Str:="_law_plan_told"
noncomputable abbrev Oc:Θ:=["_law_hall_here","_law_cell_here","_law_plan","_law_rooms","_law_at","_law_spoilt_here","_law_word","_law_room"]
theorem j4:bK Oc oE (bF vM):=fsc
noncomputable abbrev Pj:Stmt:=top 95
noncomputable abbrev RV:Θ:=["_law_script"]
noncomputable abbrev Mz:Str:="law"
noncomputable abbrev adt:Θ:=["_law_script","_law_share_here","_law_rooms","_law_hall_here","_law_plans","_law_handed","_law_held","_law_cell_here","_law_found","_law_plan"]
theorem qY:bK adt RV (bF Pj):=fsc
noncomputable abbrev vA:Stmt:=eX 61 0
noncomputable abbrev j9:Θ:=["self","name","pay"]
noncomputable abbrev Bt:Str:="__init__"
noncomputable abbrev zB:Str:="Door.__init__"
noncomputable abbrev Ov:Θ:=["self","name","pay"]
theorem N8:bK Ov j9 (bF vA):=fsc
noncomputable abbrev uD:Stmt:=eX 61 1
noncomputable abbrev nG:Θ:=["self"]
noncomputable abbrev Af:Str:="ways"
noncomputable abbrev Bc:Str:="Door.ways"
noncomputable abbrev Rh:Θ:=["self"]
theorem M4:bK Rh nG (bF uD):=fsc
noncomputable abbrev uO:Stmt:=eX 62 0
noncomputable abbrev oV:Θ:=["self","name","pay","room"]
noncomputable abbrev zm:Str:="__init__"
noncomputable abbrev Av:Str:="Sure.__init__"
noncomputable abbrev Qq:Θ:=["self","name","pay","room"]
theorem Lf:bK Qq oV (bF uO):=fsc
noncomputable abbrev sJ:Stmt:=eX 63 0
noncomputable abbrev gJ:Θ:=["self","name","pay","pairs"]
noncomputable abbrev xR:Str:="__init__"
noncomputable abbrev xP:Str:="Mixed.__init__"
noncomputable abbrev Lx:Θ:=["self","name","pay","pairs"]
theorem Ii:bK Lx gJ (bF sJ):=fsc
noncomputable abbrev uT:Stmt:=eX 64 0
noncomputable abbrev nH:Θ:=["self","name","pay","chance","room","other"]
noncomputable abbrev Bh:Str:="__init__"
noncomputable abbrev zO:Str:="Toss.__init__"
noncomputable abbrev Od:Θ:=["self","name","pay","chance","room","other"]
theorem Nq:bK Od nH (bF uT):=fsc
noncomputable abbrev pU:Stmt:=eX 65 0
noncomputable abbrev n8:Θ:=["self","name","pay","rooms"]
noncomputable abbrev zL:Str:="__init__"
noncomputable abbrev Bl:Str:="Even.__init__"
noncomputable abbrev vh:Θ:=["self","name","pay","rooms"]
theorem K1:bK vh n8 (bF pU):=fsc
noncomputable abbrev pX:Stmt:=eX 71 0
noncomputable abbrev oh:Θ:=["self","share","rooms"]
noncomputable abbrev Am:Str:="__init__"
noncomputable abbrev yV:Str:="Hall.__init__"
noncomputable abbrev uW:Θ:=["self","share","rooms"]
theorem Mj:bK uW oh (bF pX):=fsc
noncomputable abbrev ux:Stmt:=eX 71 1
noncomputable abbrev iG:Θ:=["self"]
noncomputable abbrev Ah:Str:="size"
noncomputable abbrev zN:Str:="Hall.size"
noncomputable abbrev Pr:Θ:=["self"]
theorem Ng:bK Pr iG (bF ux):=fsc
noncomputable abbrev kY:Stmt:=eX 71 4
noncomputable abbrev fQ:Θ:=["self","room"]
noncomputable abbrev o9:Str:="check_room"
noncomputable abbrev pH:Str:="Hall.check_room"
noncomputable abbrev Ax:Θ:=["self","room"]
theorem yK:bK Ax fQ (bF kY):=fsc
noncomputable abbrev lY:Stmt:=eX 71 6
noncomputable abbrev fD:Θ:=["self","room"]
noncomputable abbrev uH:Str:="offers"
noncomputable abbrev vP:Str:="Hall.offers"
noncomputable abbrev qM:Θ:=["self","room"]
theorem HD:bK qM fD (bF lY):=fsc
noncomputable abbrev qW:Stmt:=eX 8 0
noncomputable abbrev kW:Θ:=["self","room"]
noncomputable abbrev uw:Str:="__init__"
noncomputable abbrev u5:Str:="NoPlan.__init__"
noncomputable abbrev Jp:Θ:=["self","room"]
theorem GZ:bK Jp kW (bF qW):=fsc
structure Adr where
 HallError:Addr
 NoPlan:Addr
 Door:Addr
 Sure:Addr
 Mixed:Addr
 Toss:Addr
 Even:Addr
 Hall:Addr
 NOUGHT:Addr
 ONE:Addr
 Door_init:Addr
 Door_ways:Addr
 Sure_init:Addr
 Mixed_init:Addr
 Toss_init:Addr
 Even_init:Addr
 Hall_init:Addr
 Hall_size:Addr
 Hall_check_room:Addr
 Hall_offers:Addr
 NoPlan_init:Addr
structure Txt(K:Frag)(mg:Str->Ψ)(D:Adr):Prop where
 Zr:mg "Door"=some (.ref D.Door)
 afF:mg "Even"=some (.ref D.Even)
 aeG:mg "Hall"=some (.ref D.Hall)
 Qn:mg "HallError"=some (.ref D.HallError)
 NK:mg "Mixed"=some (.ref D.Mixed)
 ig:mg "NOUGHT"=some (.ref D.NOUGHT)
 FT:mg "NoPlan"=some (.ref D.NoPlan)
 C_:mg "ONE"=some (.ref D.ONE)
 aey:mg "Sure"=some (.ref D.Sure)
 aeR:mg "Toss"=some (.ref D.Toss)
 XR:mroIn K D.NoPlan (.type "BaseException")=some true
 Zu:typeIn K (.ref D.NoPlan)=some (.type "type")
 H_:∃u,mg "LONGEST_WORD"=some u/\RelV (.int 8) u
 fB:∀H,SqT K H D.NOUGHT [.int 0,.int 1]
 uP:∀H,SqT K H D.ONE [.int 1,.int 1]
 Zk:Cls K D.Door
 M6:Meth K D.Door "ways" D.Door_ways
 Jq:bY K D.Door "leads"
 Mw:bY K D.Door "name"
 Dz:bY K D.Door "numbers"
 DQ:bY K D.Door "offered"
 Py:bY K D.Door "pay"
 IW:bY K D.Door "share"
 acd:Mk K D.Sure D.Sure_init
 YC:Cls K D.Sure
 Mg:Meth K D.Sure "ways" D.Door_ways
 Jb:bY K D.Sure "leads"
 Nt:bY K D.Sure "name"
 Dg:bY K D.Sure "numbers"
 Dj:bY K D.Sure "offered"
 Oi:bY K D.Sure "pay"
 Iv:bY K D.Sure "share"
 Yl:Mk K D.Mixed D.Mixed_init
 Wa:Cls K D.Mixed
 Jg:Meth K D.Mixed "ways" D.Door_ways
 FQ:bY K D.Mixed "leads"
 Im:bY K D.Mixed "name"
 CG:bY K D.Mixed "numbers"
 CN:bY K D.Mixed "offered"
 K4:bY K D.Mixed "pay"
 G3:bY K D.Mixed "share"
 ab3:Mk K D.Toss D.Toss_init
 aaF:Cls K D.Toss
 LC:Meth K D.Toss "ways" D.Door_ways
 IV:bY K D.Toss "leads"
 Kg:bY K D.Toss "name"
 Dw:bY K D.Toss "numbers"
 Ds:bY K D.Toss "offered"
 Rf:bY K D.Toss "pay"
 Ia:bY K D.Toss "share"
 aaT:Mk K D.Even D.Even_init
 Yh:Cls K D.Even
 Kh:Meth K D.Even "ways" D.Door_ways
 Ie:bY K D.Even "leads"
 M5:bY K D.Even "name"
 Dq:bY K D.Even "numbers"
 Dt:bY K D.Even "offered"
 Qm:bY K D.Even "pay"
 Je:bY K D.Even "share"
 abQ:Mk K D.Hall D.Hall_init
 mR:Cls K D.Hall
 yF:Meth K D.Hall "check_room" D.Hall_check_room
 pQ:Meth K D.Hall "offers" D.Hall_offers
 tD:Meth K D.Hall "size" D.Hall_size
 Iw:bY K D.Hall "leads"
 Ld:bY K D.Hall "name"
 Dy:bY K D.Hall "numbers"
 Dh:bY K D.Hall "offered"
 Rg:bY K D.Hall "pay"
 Jd:bY K D.Hall "share"
 xi_NoPlan:Mu K D.NoPlan D.HallError D.NoPlan_init
 xs_NoPlan:YM K D.NoPlan
 xk_NoPlan:Vv K D.NoPlan
 hd_NoPlan:hasDictIn K D.NoPlan=true
 sm_NoPlan:mroIn K D.NoPlan (.ref D.NoPlan)=some true
 ur:bY K D.NoPlan "room"
 ib_HallError:YX K D.HallError
 zK:Dd K D.Door "__init__" D.Door_init
 Ln:xu K Bt zB vA j9 D.Door_init
 M_:xu K Af Bc uD nG D.Door_ways
 KQ:xu K zm Av uO oV D.Sure_init
 xJ:Dd K D.Mixed "__init__" D.Mixed_init
 Ik:xu K xR xP sJ gJ D.Mixed_init
 MN:xu K Bh zO uT nH D.Toss_init
 La:xu K zL Bl pU n8 D.Even_init
 Ls:xu K Am yV pX oh D.Hall_init
 Ny:xu K Ah zN ux iG D.Hall_size
 yH:xu K o9 pH kY fQ D.Hall_check_room
 Hg:xu K uH vP lY fD D.Hall_offers
 GK:xu K uw u5 qW kW D.NoPlan_init
 Ri:mg "abs"=none
 ac9:mg "all"=none
 Tr:mg "bool"=none
 mK:mg "enumerate"=none
 Y4:mg "int"=none
 c7:mg "isinstance"=none
 cZ:mg "len"=none
 yD:mg "list"=none
 fU:mg "range"=none
 Xh:mg "sorted"=none
 ajC:mg "str"=none
 adb:mg "sum"=none
 Kv:mg "tuple"=none
 Vh:mg "zip"=none
 Tz:cL K mg fM yu fP
 W4:cL K mg gU Cr gW
 acA:cL K mg pA Kd pN
 SM:cL K mg jK yp jB
 aeI:cL K mg Fg R5 Ei
 abp:cL K mg rF Mp rE
 acy:cL K mg zq Mr Bp
 ad0:cL K mg Fb Sw DX
 acD:cL K mg vX Mv vQ
 abT:cL K mg vY Ey v9
 f_total:cL K mg yQ Nv Ak
 Xl:cL K mg tu Kc wX
 Bv:cL K mg eY n_ gD
 ZQ:cL K mg q_ zc rJ
 O6:cL K mg oF qw oU
 Rn:cL K mg p7 sE pW
 QV:cL K mg oN vK oJ
 O1:cL K mg j7 v7 kO
 Ge:cL K mg jr g_ ji
 Lj:cL K mg lV sH lX
 abC:cL K mg uJ Nf vq
 Qt:cL K mg nq uE nW
 HX:cL K mg jm pK jt
 V0:cL K mg tX wR sX
 R3:cL K mg qj yL qm
 Ih:cL K mg jZ lN jW
 Pu:cL K mg nR qg oG
 VH:cL K mg su Cw tK
 OJ:cL K mg nQ uh nY
 Jf:cL K mg kE iY jU
 Jc:cL K mg iy qN gY
 GJ:cL K mg gw jP gC
 Qe:cL K mg j_ uV jX
 Df:cL K mg fY jG iM
 WX:cL K mg lq wO lJ
 LQ:cL K mg jc rQ jg
 Ag:cL K mg dZ jO d9
 Gg:cL K mg gB o7 gA
 Jm:cL K mg jM lU kh
 Io:cL K mg k_ mq j5
 IK:cL K mg kJ qU jN
 Ni:cL K mg mF rO lM
 Du:cL K mg iQ mX iH
 Oz:cL K mg n6 vO nU
 aed:cL K mg Ab Sq Bx
 X6:cL K mg gH GF gG
 ahp:cL K mg FZ X_ Hy
 Xy:cL K mg oX G4 oW
 QK:cL K mg nu wj oO
 KC:cL K mg lR ou lO
 afx:cL K mg El s_same E_
 aaL:cL K mg Ar w5 Bw
 aa0:cL K mg zU NT Ad
 ajP:cL K mg Mq Zv Nm
 ae6:cL K mg En yP Fi
 ab8:cL K mg zf D_ zP
 abt:cL K mg zF Bg yX
 aeS:cL K mg Eo Lh Er
 aak:cL K mg wM Hq wJ
 f_look:cL K mg Fe RW Eb
 afz:cL K mg Et Sh Ef
 acV:cL K mg zH K_ Bf
 agK:cL K mg Kw Yx Nk
 aam:cL K mg wL G5 wU
 VN:cL K mg sY BX tH
 O5:cL K mg nM vM oE
def Fam(D:Adr)(C:Addr):Prop:=C=D.Door\/C=D.Sure\/C=D.Mixed\/C=D.Toss\/C=D.Even\/C=D.Hall
theorem Txt.cl{K:Frag}{mg:Str->Ψ}{D:Adr}(T:Txt K mg D):∀C,Fam D C->Cls K C:=by
 rintro C (rfl|rfl|rfl|rfl|rfl|rfl)
 .exact T.Zk
 .exact T.YC
 .exact T.Wa
 .exact T.aaF
 .exact T.Yh
 .exact T.mR
theorem Txt.zY{K:Frag}{mg:Str->Ψ}{D:Adr}(T:Txt K mg D):∀C,Fam D C->bY K C "leads":=by
 rintro C (rfl|rfl|rfl|rfl|rfl|rfl)
 .exact T.Jq
 .exact T.Jb
 .exact T.FQ
 .exact T.IV
 .exact T.Ie
 .exact T.Iw
theorem Txt.Ew{K:Frag}{mg:Str->Ψ}{D:Adr}(T:Txt K mg D):∀C,Fam D C->bY K C "name":=by
 rintro C (rfl|rfl|rfl|rfl|rfl|rfl)
 .exact T.Mw
 .exact T.Nt
 .exact T.Im
 .exact T.Kg
 .exact T.M5
 .exact T.Ld
theorem Txt.yI{K:Frag}{mg:Str->Ψ}{D:Adr}(T:Txt K mg D):∀C,Fam D C->bY K C "numbers":=by
 rintro C (rfl|rfl|rfl|rfl|rfl|rfl)
 .exact T.Dz
 .exact T.Dg
 .exact T.CG
 .exact T.Dw
 .exact T.Dq
 .exact T.Dy
theorem Txt.Gz{K:Frag}{mg:Str->Ψ}{D:Adr}(T:Txt K mg D):∀C,Fam D C->bY K C "offered":=by
 rintro C (rfl|rfl|rfl|rfl|rfl|rfl)
 .exact T.DQ
 .exact T.Dj
 .exact T.CN
 .exact T.Ds
 .exact T.Dt
 .exact T.Dh
theorem Txt.Xv{K:Frag}{mg:Str->Ψ}{D:Adr}(T:Txt K mg D):∀C,Fam D C->bY K C "pay":=by
 rintro C (rfl|rfl|rfl|rfl|rfl|rfl)
 .exact T.Py
 .exact T.Oi
 .exact T.K4
 .exact T.Rf
 .exact T.Qm
 .exact T.Rg
theorem Txt.Gq{K:Frag}{mg:Str->Ψ}{D:Adr}(T:Txt K mg D):∀C,Fam D C->bY K C "share":=by
 rintro C (rfl|rfl|rfl|rfl|rfl|rfl)
 .exact T.IW
 .exact T.Iv
 .exact T.G3
 .exact T.Ia
 .exact T.Je
 .exact T.Jd
def cV(D:Adr)(C:Addr):Prop:=C=D.Door\/C=D.Sure\/C=D.Mixed\/C=D.Toss\/C=D.Even
theorem cV.fam{D:Adr}{C:Addr}(h:cV D C):Fam D C:=by
 unfold cV at h;unfold Fam;rcases h with h|h|h|h|h<;>simp[h]
theorem Txt.K7{K:Frag}{mg:Str->Ψ}{D:Adr}(T:Txt K mg D):∀C,cV D C->Meth K C "ways" D.Door_ways:=by
 rintro C (rfl|rfl|rfl|rfl|rfl)
 .exact T.M6
 .exact T.Mg
 .exact T.Jg
 .exact T.LC
 .exact T.Kh
section
variable{P:Program}{w:World}{K:Frag}{mg:Str->Ψ}{base:Heap}{D:Adr}{f:Addr}{fd:FuncData}
noncomputable abbrev frT(f:Ξ):T:=.tup [.int f.1,.int f.2]
noncomputable def isW:T->Option Bool
 |.int _=>some true
 |.bl _=>some false
 |.non=>some false
 |.str _=>some false
 |.tup _=>some false
 |.lst _=>some false
 |_=>none
def jJ:ST:=λts q=>∃t b,ts=[t]/\isW t=some b/\q (.fz (.bl b))
theorem Pa(F:Fun K fM fM yu f fd)(T:Txt K mg D):b_ P w K mg base CX0 1 f fd fP (spT K jJ):=by
 refine F.okT Ox (λts R hP=>by obtain⟨t,b,e,_⟩:=hP;exact e ▸ rfl) λah A outer s H E hr=>?_;refine⟨_,(bG (bL (vf (pR .int (qv 0) (by rfl) T.c7 (by rfl) T.Y4 boot_int) (yE (Z0 (pR .bool (qv 0) (by rfl) T.c7 (by rfl) T.Tr boot_bool)))))),?_⟩;rintro _ R ⟨t,b,rfl,h,q⟩;cases t<;>cases h<;>exact q
def lE:ST:=λts q=>∃a b,ts=[.int a,.int b]/\q (.fz (.int (Int.gcd a b)))
theorem Sv(F:Fun K gU gU Cr f fd)(T:Txt K mg D):b_ P w K mg base CX0 1 f fd gW (spT K lE):=by
 refine F.okT lC (λts R hP=>by obtain⟨t,b,e,_⟩:=hP;exact e ▸ rfl) λah A outer s H E hr=>?_;refine⟨_,(bC (bO 2 lC.nd (Or.inl rfl) (bM GR (by rfl) T.Ri boot_abs (bw (qv 0) bA)))
  (bC (bO 3 lC.nd (Or.inl rfl) (bM GR (by rfl) T.Ri boot_abs (bw (qv 1) bA)))
  (bC (Qf VY (cu (pF hr.units) (qv 3) bx)
  (bC (bO 4 lC.nd (Or.inl rfl) (bJ cA (qv 2) (qv 3)))
  (bC (bO 2 lC.nd (Or.inl rfl) (qv 3))
  (bG (bO 3 lC.nd (Or.inl rfl) (qv 4))))))
  (bG (bL (qv 2)))))),?_⟩
 rintro _ R ⟨a,b,rfl,q⟩;refine⟨λm o=>∃(l r:Nat)(x:OT),o=[.fz (.int a),.fz (.int b),.fz (.int l),.fz (.int r),x]/\Nat.gcd l r=Int.gcd a b/\m=r,⟨_,_,_,_,rfl,rfl,rfl⟩,?_⟩;rintro m _ ⟨l,r,x,rfl,hg,hm⟩;refine sw2 (λh=>?_) λh=>?_
 .have hr:r≠0:=by intro z;subst z;cases h
  refine⟨λo=>∃x,o=[.fz (.int a),.fz (.int b),.fz (.int r),.fz (.int ((l%r:Nat):Int)),x],?_,?_⟩
  .rintro _ ⟨x,rfl⟩;exact⟨l%r,by have:=Nat.mod_lt l (Nat.pos_of_ne_zero hr);lia,r,l%r,x,rfl,(Nat.gcd_comm r (l%r)).trans ((Nat.gcd_rec r l).symm.trans ((Nat.gcd_comm r l).trans hg)),rfl⟩
  .exact⟨by lia,_,by rw[Int.natCast_emod];rfl⟩
 .have hr:r=0:=by
   by_cases z:r=0
   .exact z
   .have:(decide ((r:Int)=0))=false:=Zp (by lia);rw[show xr true (decide ((r:Int)=0)) = !decide ((r:Int)=0)from rfl,this]at h;cases h
  subst hr;rw[Nat.gcd_zero_right]at hg;rw[<- hg]at q;exact q
structure Low(t b x y:Int):Prop where
 pos:0<y
 gcd:Int.gcd x y=1
 eq:x*b=t*y
 lx:x.natAbs<=t.natAbs
 ly:y.natAbs<=b.natAbs
theorem G6{c q:Int}(h:c≠0):Int.fdiv (c*q) c=q:=by
 rw[Int.fdiv_eq_ediv_of_dvd (Int.dvd_mul_right c q),Q2 _ h]
theorem Gk{c q:Int}(h:c≠0):q.natAbs<=(c*q).natAbs:=by
 rw[VS];exact Zzu _ (by lia)
theorem uX{t b c:Int}(hb:b≠0)(hc:c≠0)(hg:c.natAbs=Int.gcd t b)(hs:0<c*b):Low t b (Int.fdiv t c) (Int.fdiv b c):=by
 have d1:c ∣ t:=Int.natAbs_dvd.mp (by rw[hg];exact Int.gcd_dvd_left t b);have d2:c ∣ b:=Int.natAbs_dvd.mp (by rw[hg];exact JP t b);obtain⟨x,rfl⟩:=d1;obtain⟨y,rfl⟩:=d2;rw[G6 hc,G6 hc];refine⟨?_,?_,?_,Gk hc,Gk hc⟩
 .rw[<- Int.mul_assoc]at hs;have hp:0<c*c:=by
   rcases Int.lt_or_lt_of_ne hc with z|z
   .exact Int.mul_pos_of_neg_of_neg z z
   .exact XZ z z
  exact Int.pos_of_mul_pos_right hs hp
 .rw[Int.gcd_mul_left]at hg;have hp:0<c.natAbs:=by lia
  exact Nat.eq_of_mul_eq_mul_left hp (by rw[Nat.mul_one];exact hg.symm)
 .rw[Int.mul_left_comm,Int.mul_assoc]
theorem mj{a b:Int}(hb:b≠0):(0:Int)<(Int.gcd a b:Nat):=by
 have:=Zzw a hb;lia
theorem Jv{i j:Int}(h:i.natAbs<=j.natAbs)(k:Bd j):Bd i:=Y3 h k
theorem Xn{i:Int}(h:Bd i):Bd (-i):=by unfold Bd at *;rw[Int.natAbs_neg];exact h
theorem RL{a b:Int}(hb:b≠0)(h:Bd b):Bd ((Int.gcd a b:Nat):Int):=Jv (by
 have:=UU (by lia) (Int.gcd_dvd_natAbs_right a b);omega) h
def uN:ST:=λts q=>∃t b,ts=[.int t,.int b]/\b≠0/\Bd b/\∀x y,Low t b x y->q (.fz (frT (x,y)))
theorem aat(F:Fun K pA pA Kd f fd)(T:Txt K mg D)(cQ:OkT P w K mg base 1 fM fP jJ)(dh:OkT P w K mg base 1 gU gW lE):b_ P w K mg base CX0 2 f fd pN (spT K uN):=by
 refine F.okT HY (λts R hP=>by obtain⟨t,b,e,_⟩:=hP;exact e ▸ rfl) λah A outer s H E hr=>?_;refine⟨_,(bC (cB (QW.qt (lg (dG (dg (bH cQ hr.md (by rfl) (bw (qv 0) bA)))) (iV (dG (dg (bH cQ hr.md (by rfl) (bw (qv 1) bA)))))))
  (bG eU)
  bQ)
  (bC (cB (cu (go_eq hr.units) (qv 1) bx)
  (bG eU)
  bQ)
  (bC (bO 2 HY.nd (Or.inl rfl) (bH dh hr.md (by rfl) (bw (qv 0) (bw (qv 1) bA))))
  (bC (cB (cu vJ (qv 1) bx)
  (bG (bO 2 HY.nd (Or.inl rfl) (Cv (qv 2))))
  bQ)
  (bG (bL (cT (bw (bJ lK (qv 0) (qv 2)) (bw (bJ lK (qv 1) (qv 2)) bA))))))))),?_⟩
 rintro _ R ⟨t,b,rfl,hb,hd,q⟩;refine⟨_,_,rfl,rfl,_,_,rfl,rfl,?_⟩;have g0:=mj (a:=t) hb;have g1:=RL (a:=t) hb hd;refine swF (Zp hb) ⟨_,_,rfl,swD (λhn=>⟨⟨by omega,Xn g1⟩,⟨by omega,Xn g1⟩,q _ _ (uX hb (by omega) (by lia) (Int.mul_pos_of_neg_of_neg (by lia) hn))⟩) λhn=>⟨⟨by exact WS g0,g1⟩,⟨by exact WS g0,g1⟩,q _ _ (uX hb (WS g0) (by lia) (XZ g0 (by lia)))⟩⟩
noncomputable abbrev frR(r:Rat):T:=.tup [.int r.num,.int r.den]
theorem jo{t b x y:Int}(h:Low t b x y)(hb:b≠0):frT (x,y)=frR (Rat.divInt t b):=by
 have hy:=h.pos;have e:Rat.divInt t b=⟨x,y.toNat,by lia,by have:=h.gcd;unfold Int.gcd at this;rw[show y.toNat=y.natAbs by lia];exact this⟩:=by
  rw[Rat.mk_eq_divInt,show((y.toNat:Nat):Int)=y by exact Int.toNat_of_nonneg (XY hy)];exact(JJ hb (WS hy)).mpr h.eq.symm
 rw[e];show T.tup [.int x,.int y]=.tup [.int x,.int (y.toNat:Nat)];rw[show((y.toNat:Nat):Int)=y by exact Int.toNat_of_nonneg (XY hy)]
theorem rd(r:Rat):Rat.divInt r.num r.den=r:=Rat.num_divInt_den r
theorem j8(r:Rat):((r.den:Nat):Int)≠0:=by have:=r.den_pos;lia
def Bq(r:Rat):Prop:=Bd r.num/\Bd (r.den:Nat)
def Va:ST:=λts q=>∃a b:Rat,ts=[frR a,frR b]/\Bq a/\Bq b/\Bd ((a.den:Int)*b.den)/\q (.fz (frR (a+b)))
def za:ST:=λts q=>∃a b:Rat,ts=[frR a,frR b]/\Bq a/\Bq b/\Bd ((a.den:Int)*b.den)/\q (.fz (frR (a-b)))
def Ou:ST:=λts q=>∃a b:Rat,ts=[frR a,frR b]/\Bq a/\Bq b/\Bd ((a.den:Int)*b.den)/\q (.fz (frR (a*b)))
def Vf:ST:=λts q=>∃a b:Rat,ts=[frR a,frR b]/\b≠0/\Bq a/\Bq b/\Bd ((a.den:Int)*b.num)/\q (.fz (frR (a/b)))
def G9:ST:=λts q=>∃a b:Rat,ts=[frR a,frR b]/\Bq a/\Bq b/\q (.fz (.bl (decide (a<b))))
theorem lH{a b:Int}(ha:a≠0)(hb:b≠0):a*b≠0:=λz=>(Int.mul_eq_zero.mp z).elim ha hb
section
variable(dU:OkT P w K mg base 2 pA pN uN)
include dU
theorem acN(F:Fun K Fg Fg R5 f fd):b_ P w K mg base CX0 3 f fd Ei (spT K Va):=by
 refine F.okT abI (λts R hP=>by obtain⟨t,b,e,_⟩:=hP;exact e ▸ rfl) λah A outer s H E hr=>?_;refine⟨_,(bG (bL (bH dU hr.md (by rfl) (bw (bJ cD (bJ cC (bI (qv 0) bx) (bI (qv 1) bx)) (bJ cC (bI (qv 1) bx) (bI (qv 0) bx))) (bw (bJ cC (bI (qv 0) bx) (bI (qv 1) bx)) bA))))),?_⟩;rintro _ R ⟨a,b,rfl,ha,hb,hd,q⟩;refine⟨⟨ha.1,hb.2⟩,⟨hb.1,ha.2⟩,⟨ha.2,hb.2⟩,_,_,rfl,lH (j8 a) (j8 b),hd,λx y l=>?_⟩;rw[jo l (lH (j8 a) (j8 b)),<- Qr _ _ (j8 a) (j8 b),rd,rd];exact q
theorem aaG(F:Fun K rF rF Mp f fd):b_ P w K mg base CX0 3 f fd rE (spT K za):=by
 refine F.okT XD (λts R hP=>by obtain⟨t,b,e,_⟩:=hP;exact e ▸ rfl) λah A outer s H E hr=>?_;refine⟨_,(bG (bL (bH dU hr.md (by rfl) (bw (bJ Cg (bJ cC (bI (qv 0) bx) (bI (qv 1) bx)) (bJ cC (bI (qv 1) bx) (bI (qv 0) bx))) (bw (bJ cC (bI (qv 0) bx) (bI (qv 1) bx)) bA))))),?_⟩;rintro _ R ⟨a,b,rfl,ha,hb,hd,q⟩;refine⟨⟨ha.1,hb.2⟩,⟨hb.1,ha.2⟩,⟨ha.2,hb.2⟩,_,_,rfl,lH (j8 a) (j8 b),hd,λx y l=>?_⟩;rw[jo l (lH (j8 a) (j8 b)),<- Rat.divInt_sub_divInt _ _ (j8 a) (j8 b),rd,rd];exact q
theorem YH(F:Fun K zq zq Mr f fd):b_ P w K mg base CX0 3 f fd Bp (spT K Ou):=by
 refine F.okT Zh (λts R hP=>by obtain⟨t,b,e,_⟩:=hP;exact e ▸ rfl) λah A outer s H E hr=>?_;refine⟨_,(bG (bL (bH dU hr.md (by rfl) (bw (bJ cC (bI (qv 0) bx) (bI (qv 1) bx)) (bw (bJ cC (bI (qv 0) bx) (bI (qv 1) bx)) bA))))),?_⟩;rintro _ R ⟨a,b,rfl,ha,hb,hd,q⟩;refine⟨⟨ha.1,hb.1⟩,⟨ha.2,hb.2⟩,_,_,rfl,lH (j8 a) (j8 b),hd,λx y l=>?_⟩;rw[jo l (lH (j8 a) (j8 b)),<- QY,rd,rd];exact q
theorem abu(F:Fun K Fb Fb Sw f fd):b_ P w K mg base CX0 3 f fd DX (spT K Vf):=by
 refine F.okT acs (λts R hP=>by obtain⟨t,b,e,_⟩:=hP;exact e ▸ rfl) λah A outer s H E hr=>?_;refine⟨_,(bG (bL (bH dU hr.md (by rfl) (bw (bJ cC (bI (qv 0) bx) (bI (qv 1) bx)) (bw (bJ cC (bI (qv 0) bx) (bI (qv 1) bx)) bA))))),?_⟩;rintro _ R ⟨a,b,rfl,h0,ha,hb,hd,q⟩;have nb:b.num≠0:=λz=>h0 (by rw[<- rd b,z];exact Rat.zero_divInt _);refine⟨⟨ha.1,hb.2⟩,⟨ha.2,hb.1⟩,_,_,rfl,lH (j8 a) nb,hd,λx y l=>?_⟩;rw[jo l (lH (j8 a) nb),<- QY,rd,<- Rat.inv_def,<- Rat.div_def];exact q
end
theorem Yy(F:Fun K vX vX Mv f fd):b_ P w K mg base CX0 1 f fd vQ (spT K G9):=by
 refine F.okT Yz (λts R hP=>by obtain⟨t,b,e,_⟩:=hP;exact e ▸ rfl) λah A outer s H E hr=>?_;refine⟨_,(bG (bL (m6 vJ (bJ cC (bI (qv 0) bx) (bI (qv 1) bx)) (bJ cC (bI (qv 1) bx) (bI (qv 0) bx))))),?_⟩;rintro _ R ⟨a,b,rfl,ha,hb,q⟩;refine⟨⟨ha.1,hb.2⟩,⟨hb.1,ha.2⟩,?_⟩;rw[show decide (a<b)=decide (a.num*(b.den:Int)<b.num*(a.den:Int))from decide_eq_decide.mpr (Rat.lt_iff a b)]at q;exact q
def pZ:ST:=λts q=>∃r:Rat,ts=[frR r]/\q (.fz (.bl true))
theorem O8(F:Fun K jK jK yp f fd)(T:Txt K mg D)(cQ:OkT P w K mg base 1 fM fP jJ)(dh:OkT P w K mg base 1 gU gW lE):b_ P w K mg base CX0 2 f fd jB (spT K pZ):=by
 refine F.okT vG (λts R hP=>by obtain⟨t,e,_⟩:=hP;exact e ▸ rfl) λah A outer s H E hr=>?_;refine⟨_,(bC (cB (QW.qt (lg (dG (dg (pR .tuple (qv 0) (by rfl) T.c7 (by rfl) T.Kv boot_tuple))) (iV (cu (pF hr.units) (bM cJ (by rfl) T.cZ WG (bw (qv 0) bA)) bx))))
  (bG (bL mV))
  bQ)
  (bC (bO 1 vG.nd (Or.inl rfl) (bI (qv 0) bx))
  (bC (bO 2 vG.nd (Or.inl rfl) (bI (qv 0) bx))
  (bC (cB (QW.qt (lg (dG (dg (bH cQ hr.md (by rfl) (bw (qv 1) bA)))) (iV (dG (dg (bH cQ hr.md (by rfl) (bw (qv 2) bA)))))))
  (bG (bL mV))
  bQ)
  (bG (bL (vf (m6 adA (qv 2) bx) (yE (m6 (go_eq hr.units) (bH dh hr.md (by rfl) (bw (qv 1) (bw (qv 2) bA))) bx))))))))),?_⟩
 rintro _ R ⟨r,rfl,q⟩;refine⟨_,_,rfl,rfl,_,_,rfl,rfl,?_⟩;have:=r.den_pos;refine swT (Zs (by lia)) ⟨_,_,rfl,?_⟩;rw[show Int.gcd r.num r.den=1 from r.reduced];exact q
noncomputable def amN:List Rat->Nat
 |[]=>1
 |r::rs=>Nat.lcm r.den (amN rs)
noncomputable def gP(n:Nat):List Rat->Nat
 |[]=>n
 |r::rs=>gP (Nat.lcm n r.den) rs
theorem mU:∀(rs:List Rat){n:Nat},0<n->0<gP n rs
 |[],_,h=>h
 |r::rs,_,h=>mU rs (Nat.lcm_pos h r.den_pos)
theorem mL:∀(rs:List Rat){n:Nat},n ∣ gP n rs/\∀r∈rs,r.den ∣ gP n rs
 |[],n=>⟨Nat.dvd_refl n,λ_ z=>(nomatch z)⟩
 |r::rs,n=>by
  obtain⟨a,b⟩:=mL rs (n:=Nat.lcm n r.den);refine⟨Nat.dvd_trans (Nat.dvd_lcm_left ..) a,λx hx=>?_⟩;rcases YU.mp hx with rfl|z
  .exact Nat.dvd_trans (Nat.dvd_lcm_right ..) a
  .exact b x z
theorem tV:∀(rs:List Rat){n m:Nat},n ∣ m->(∀r∈rs,r.den ∣ m)->gP n rs ∣ m
 |[],_,_,h,_=>h
 |r::rs,_,_,h,k=>tV rs (Nat.lcm_dvd h (k r (aO ..))) λx hx=>k x (aJ _ hx)
theorem Gn:∀(as bs:List Rat)(n:Nat),gP n (as++bs)=gP (gP n as) bs
 |[],_,_=>rfl
 |_::as,bs,_=>Gn as bs _
noncomputable def tops(B:Nat)(rs:List Rat):List Int:=rs.map λr=>r.num*((B/r.den:Nat):Int)
theorem S7{m n:Nat}(h:Bd (n:Int))(l:m<=n):Bd (m:Int):=Jv (by omega) h
theorem X3(n d:Nat):(Int.fdiv (n:Int) ((Int.gcd n d:Nat):Int))*d=((Nat.lcm n d:Nat):Int):=by
 rw[show Int.gcd (n:Int) (d:Int)=Nat.gcd n d from rfl,Int.fdiv_eq_ediv_of_dvd (Int.natCast_dvd_natCast.mpr (Nat.gcd_dvd_left n d)),<- Int.natCast_ediv,<- TW,Nat.lcm,Nat.div_mul_right_comm (Nat.gcd_dvd_left n d)]
theorem GX(m n:Nat):Int.fdiv (m:Int) (n:Int)=((m/n:Nat):Int):=by rw[Zzy _ (Wp _)];rfl
def Gr:ST:=λts q=>∃rs:List Rat,ts=[.lst (rs.map frR)]/\rs.length<=1000/\(∀r∈rs,Bd r.num)/\Bd (gP 1 rs:Nat)/\q (.fz (.tup [.lst ((tops (gP 1 rs) rs).map T.int),.int (gP 1 rs:Nat)]))
theorem XQ(F:Fun K vY vY Ey f fd)(dh:OkT P w K mg base 1 gU gW lE):b_ P w K mg base CX0 2 f fd v9 (spT K Gr):=by
 refine F.okT z8 (λts R hP=>by obtain⟨t,e,_⟩:=hP;exact e ▸ rfl) λah A outer s H E hr=>?_;refine⟨_,(bC (bO 1 z8.nd (Or.inr rfl) bx)
  (bC (dO VY rfl (cF (qv 0)) (bZ (n:=99) 2 z8.nd (Or.inl rfl))
  (bG (bO 1 z8.nd (Or.inr rfl) (bJ cC (bJ lK (qv 1) (bH dh hr.md (by rfl) (bw (qv 1) (bw (bI (qv 2) bx) bA)))) (bI (qv 2) bx)))))
  (bG (bL (cT (bw (d_ (bF Ey) Us ["fractions","bottom","?one"] ["one"] (cF (qv 0)) (gj (i:=0)) cG (bJ cC (bI (qv 0) bx) (bJ lK (qv 2) (bI (qv 0) bx)))) (bw (qv 1) bA))))))),?_⟩
 rintro _ R ⟨rs,rfl,rl,hn,hB,q⟩;refine gZ frR rs (λas o=>∃x,o=[.fz (.lst (rs.map frR)),.fz (.int (gP 1 as:Nat)),x]) ⟨_,rfl⟩ ?_ ?_
 .rintro as a bs _ e ⟨x,rfl⟩;have d1:=(mL (a::bs) (n:=gP 1 as)).1;have el:gP 1 rs=gP (gP 1 as) (a::bs):=by rw[e];exact Gn as (a::bs) 1
  have hp:=mU as Tx;have hB0:=mU rs Tx;have b1:Bd (gP 1 as:Nat):=S7 hB (el ▸ UU (el ▸ hB0) d1);have b2:Bd (a.den:Nat):=S7 hB (UU hB0 ((mL rs).2 a (e ▸ by simp)));refine⟨_,_,rfl,⟨by have:=mj (a:=(gP 1 as:Nat)) (j8 a);exact WS this,RL (j8 a) b2⟩,⟨Jv ?_ b1,b2⟩,.fz (frR a),?_⟩
  .rw[show Int.gcd ((gP 1 as:Nat):Int) (a.den:Int)=Nat.gcd (gP 1 as) a.den from rfl,GX];exact Nat.div_le_self ..
  .rw[X3,Gn]
   rfl
 .rintro _ ⟨x,rfl⟩;refine⟨aL (by simpa using rl) (by decide),comp_map frR (λr=>.int (r.num*((gP 1 rs/r.den:Nat):Int))) rs (λr hr N M hN=>?_) ?_⟩
  .have b2:Bd (r.den:Nat):=S7 hB (UU (mU rs Tx) ((mL rs).2 r hr));refine⟨⟨j8 r,b2⟩,⟨hn r hr,Jv ?_ hB⟩,?_⟩
   .rw[GX];exact Nat.div_le_self ..
   .rw[GX];exact hN
  .have:(tops (gP 1 rs) rs).map T.int=rs.map (λr=>.int (r.num*((gP 1 rs/r.den:Nat):Int))):=by unfold tops;rw[WP];rfl
   rw[this]at q;exact q
noncomputable def Ur(l:List Nat):Bool:=decide (1<=l.length)&&decide (l.length<=8)&&l.all λc=>decide (97<=c)&&decide (c<=122)
abbrev Wd(n:Str):Prop:=Ur n.cps.toList=true
theorem Wd.len{n:Str}(h:Wd n):1<=n.length/\n.length<=8:=by
 unfold Wd Ur at h;simp only[JS,decide_eq_true_eq,Array.length_toList]at h;exact h.1
theorem Ux(c d:Nat):(!decide ((⟨#[d]⟩ : Str).cps.toList<(⟨#[c]⟩ : Str).cps.toList))=decide (c<=d):=by
 have:((⟨#[d]⟩ : Str).cps.toList<(⟨#[c]⟩ : Str).cps.toList)↔d<c:=by
  show[d]<[c]↔d<c;constructor
  .intro h;cases h with
   |rel h=>exact h
   |cons h=>cases h
  .exact λh=>.rel h
 rw[show decide ((⟨#[d]⟩ : Str).cps.toList<(⟨#[c]⟩ : Str).cps.toList)=decide (d<c)from decide_eq_decide.mpr this];by_cases h:c<=d
 .rw[Zs h,Zp (UK h)];rfl
 .rw[Zp h,Zs (Nat.lt_of_not_le h)];rfl
def tU:ST:=λts q=>∃n:Str,ts=[.str n]/\Wd n/\q (.fz (.bl true))
theorem Sg(F:Fun K lq lq wO f fd)(T:Txt K mg D):b_ P w K mg base CX0 1 f fd lJ (spT K tU):=by
 refine F.okT Tw (λts R hP=>by obtain⟨t,e,_⟩:=hP;exact e ▸ rfl) λah A outer s H E hr=>?_;refine⟨_,(bC (cB (QW.qt (lg (dG (dg (pR .str (qv 0) (by rfl) T.c7 (by rfl) T.ajC boot_str))) (iV (dG (Qx Jy Jy bx (bM abD (by rfl) T.cZ WG (bw (qv 0) bA)) (X8 (by rfl) T.H_ λ_=>.int _))))))
  (bG (bL mV))
  bQ)
  (bG (bL (bM (YS rfl) (by rfl) T.ac9 boot_all (bw (d_ (bF wO) Cd Cd ["sign"] (aeF (qv 0)) (gj (i:=0)) cG (Hw Zf Zf lF (qv 0) lF)) bA))))),?_⟩
 rintro _ R ⟨n,rfl,hw,q⟩;obtain⟨l1,l8⟩:=hw.len;refine⟨aL l8 (by decide),swT (Zs (by lia)) (swF (by rw[Zs (show((n.length:Nat):Int)<=8 by lia)];rfl) ⟨by rw[ak];exact aL l8 (by decide),comp_map (λc=>.str ⟨#[c]⟩) (λc=>.bl (decide (97<=c)&&decide (c<=122))) n.cps.toList (λc _ N M hN=>?_) ⟨n.cps.toList.map λc=>decide (97<=c)&&decide (c<=122),by rw[WP];rfl,?_⟩⟩)⟩
 .have e1:(!decide ((⟨#[c]⟩ : Str).cps.toList<("a":Str).cps.toList))=decide (97<=c):=by rw[show("a":Str)=⟨#[97]⟩from by decide +kernel];exact Ux 97 c
  have e2:(!decide (("z":Str).cps.toList<(⟨#[c]⟩ : Str).cps.toList))=decide (c<=122):=by rw[show("z":Str)=⟨#[122]⟩from by decide +kernel];exact Ux c 122
  refine sw2 (λh=>?_) λh=>?_
  .rw[<- e1,h,<- e2]at hN;exact hN
  .rw[<- e1,h]at hN;exact hN
 .have:((n.cps.toList.map λc=>decide (97<=c)&&decide (c<=122)).all λb=>b)=true:=by
   unfold Wd Ur at hw;rw[JS]at hw;rw[List.all_map];exact hw.2
  rw[<- this]at q;exact q
def qG:ST:=λts q=>∃(n:Str)(r:Rat),ts=[.str n,frR r]/\Wd n/\q (.fz .non)
theorem Jl(F:Fun K jc jc rQ f fd)(iT:OkT P w K mg base 1 lq lJ tU)(fV:OkT P w K mg base 2 jK jB pZ):b_ P w K mg base CX0 3 f fd jg (spT K qG):=by
 refine F.okT Ib (λts R hP=>by obtain⟨t,r,e,_⟩:=hP;exact e ▸ rfl) λah A outer s H E hr=>?_;refine⟨_,(bC (cB (dG (dg (bH iT hr.md (by rfl) (bw (qv 0) bA))))
  (bG eU)
  bQ)
  (bG (cB (dG (dg (bH fV hr.md (by rfl) (bw (qv 1) bA))))
  (bG eU)
  bQ))),?_⟩
 rintro _ R ⟨n,r,rfl,hw,q⟩;exact⟨_,rfl,hw,_,rfl,q⟩
def jx:ST:=λts q=>∃n:Str,ts=[.str n]/\Wd n/\q (.fz .non)
theorem yN(F:Fun K dZ dZ jO f fd)(iT:OkT P w K mg base 1 lq lJ tU):b_ P w K mg base CX0 2 f fd d9 (spT K jx):=by
 refine F.okT yJ (λts R hP=>by obtain⟨t,e,_⟩:=hP;exact e ▸ rfl) λah A outer s H E hr=>?_;refine⟨_,(bG (cB (dG (dg (bH iT hr.md (by rfl) (bw (qv 0) bA))))
  (bG eU)
  bQ)),?_⟩
 rintro _ R ⟨n,rfl,hw,q⟩;exact⟨_,rfl,hw,q⟩
def Ch(r:Rat):Prop:=0<=r/\r<=1/\Bd (r.den:Nat)
theorem Ch.bq{r:Rat}(h:Ch r):Bq r:=by
 have h0:=Rat.num_nonneg.mpr h.1;have h1:=(Rat.le_iff r 1).mp h.2.1;exact⟨Jv (by have:r.num*((1:Rat).den:Int)<=(1:Rat).num*(r.den:Int):=h1;simp at this;omega) h.2.2,h.2.2⟩
theorem bq0:Bq 0:=⟨Nat.two_pow_pos 8000,Nat.one_lt_two_pow (by decide)⟩
theorem bq1:Bq 1:=⟨Nat.one_lt_two_pow (by decide),Nat.one_lt_two_pow (by decide)⟩
def mZ:ST:=λts q=>∃r:Rat,ts=[frR r]/\Ch r/\q (.fz .non)
theorem Dv(F:Fun K gB gB o7 f fd)(T:Txt K mg D)(fV:OkT P w K mg base 2 jK jB pZ)(pY:OkT P w K mg base 1 vX vQ G9):b_ P w K mg base CX0 3 f fd gA (spT K mZ):=by
 refine F.okT DN (λts R hP=>by obtain⟨t,e,_⟩:=hP;exact e ▸ rfl) λah A outer s H E hr=>?_;refine⟨_,(bG (cB (QW.qt (lg (dG (dg (bH fV hr.md (by rfl) (bw (qv 0) bA)))) (lg (dg (bH pY hr.md (by rfl) (bw (qv 0) (bw (jL (by rfl) T.ig T.fB) bA)))) (iV (dg (bH pY hr.md (by rfl) (bw (jL (by rfl) T.C_ T.uP) (bw (qv 0) bA))))))))
  (bG eU)
  bQ)),?_⟩
 rintro _ R ⟨r,rfl,hc,q⟩;refine⟨_,rfl,r,0,rfl,hc.bq,bq0,?_⟩;rw[Zp (Rat.not_lt.mpr hc.1)];refine⟨1,r,rfl,bq1,hc.bq,?_⟩;rw[Zp (Rat.not_lt.mpr hc.2.1)];exact q
noncomputable def zA(rs:List Rat):Rat:=rs.foldr (· + ·) 0
theorem QF{B:Nat}(hB:B≠0):∀{rs:List Rat},(∀r∈rs,r.den ∣ B)->Rat.divInt (tops B rs).sum B=zA rs
 |[],_=>by show Rat.divInt 0 _=0;exact Rat.zero_divInt _
 |r::rs,h=>by
  have ih:=QF hB (rs:=rs) λx hx=>h x (aJ _ hx);have nS:((B:Nat):Int)≠0:=by lia
  obtain⟨m,hm⟩:=h r (aO ..);show Rat.divInt (r.num*((B/r.den:Nat):Int)+(tops B rs).sum) B=r+zA rs;have e1:r+zA rs=Rat.divInt (r.num*B+(tops B rs).sum*r.den) (r.den*B):=by rw[<- Qr _ _ (j8 r) nS,rd,ih]
  rw[e1];refine(JJ nS (lH (j8 r) nS)).mpr ?_;have:B/r.den=m:=by rw[hm];exact Nat.mul_div_cancel_left _ r.den_pos
  rw[this,hm];simp only[TW]
  grind
def Ra:ST:=λts q=>∃rs:List Rat,ts=[.lst (rs.map frR)]/\rs.length<=1000/\(∀r∈rs,Bd r.num)/\Bd (gP 1 rs:Nat)/\q (.fz (frR (zA rs)))
theorem YL(F:Fun K yQ yQ Nv f fd)(T:Txt K mg D)(wV:OkT P w K mg base 2 vY v9 Gr)(dU:OkT P w K mg base 2 pA pN uN):b_ P w K mg base CX0 3 f fd Ak (spT K Ra):=by
 refine F.okT Qh (λts R hP=>by obtain⟨t,e,_⟩:=hP;exact e ▸ rfl) λah A outer s H E hr=>?_;refine⟨_,(bC (bO 1 Qh.nd (Or.inl rfl) (bH wV hr.md (by rfl) (bw (qv 0) bA)))
  (bG (bL (bH dU hr.md (by rfl) (bw (bM (YZ rfl) (by rfl) T.adb boot_sum (bw (bI (qv 1) bx) bA)) (bw (bI (qv 1) bx) bA)))))),?_⟩
 rintro _ R ⟨rs,rfl,rl,hn,hB,q⟩;have hp:=mU rs Tx;have hz:((gP 1 rs:Nat):Int)≠0:=by lia
 refine⟨rs,rfl,rl,hn,hB,_,rfl,_,_,rfl,hz,hB,λx y l=>?_⟩;rw[jo l hz,QF (VQ hp) (mL rs).2];exact q
abbrev wyT(p:Str×Rat):T:=.tup [.str p.1,frR p.2]
def uz:ST:=λts q=>∃ps:List (Str×Rat),ts=[.lst (ps.map wyT)]/\ps.length<=1000/\(∀p∈ps,Wd p.1/\Ch p.2)/\Bd (gP 1 (ps.map (·.2)):Nat)/\zA (ps.map (·.2))=1/\q (.fz .non)
theorem Fv(F:Fun K jM jM lU f fd)(T:Txt K mg D)(dI:OkT P w K mg base 2 dZ d9 jx)(fu:OkT P w K mg base 3 gB gA mZ)(Ma:OkT P w K mg base 3 yQ Ak Ra):b_ P w K mg base CX0 4 f fd kh (spT K uz):=by
 refine F.okT pB (λts R hP=>by obtain⟨t,e,_⟩:=hP;exact e ▸ rfl) λah A outer s H E hr=>?_;refine⟨_,(bC (dO VY rfl (cF (qv 0)) (eZ (n:=2) rfl (bT (bZ (n:=99) 1 pB.nd (Or.inl rfl)) (bT (bZ (n:=99) 2 pB.nd (Or.inl rfl)) dz)))
  (bC (mG (bH dI hr.md (by rfl) (bw (qv 1) bA)))
  (bG (mG (bH fu hr.md (by rfl) (bw (qv 2) bA))))))
  (bG (cB (cu (pF hr.units) (bH Ma hr.md (by rfl) (bw (d_ (bF lU) qL qL ["pair"] (cF (qv 0)) (gj (i:=0)) cG (bI (qv 0) bx)) bA)) (jL (by rfl) T.C_ T.uP))
  (bG eU)
  bQ))),?_⟩
 rintro _ R ⟨ps,rfl,pl,hp,hB,hs,q⟩;refine gZ wyT ps (λ_ o=>∃x y,o=[.fz (.lst (ps.map wyT)),x,y]) ⟨_,_,rfl⟩ ?_ ?_
 .rintro as a bs _ e ⟨x,y,rfl⟩;obtain⟨h1,h2⟩:=hp a (e ▸ by simp);exact⟨rfl,_,rfl,h1,_,rfl,h2,_,_,rfl⟩
 .rintro _ ⟨x,y,rfl⟩;refine⟨aL (by simpa using pl) (by decide),comp_map wyT (λp=>frR p.2) ps (λp _ N M hN=>hN) ⟨ps.map (·.2),by rw[WP];rfl,by simpa using pl,λr hr=>?_,hB,?_⟩⟩
  .obtain⟨p,d6,rfl⟩:=YV.mp hr;exact(hp p d6).2.bq.1
  .rw[hs];exact q
def addW(ws:List (Str×Rat))(p:Str×Rat):List (Str×Rat):=if(ws.any λx=>decide (x.1=p.1))=true then ws.map (λx=>if x.1=p.1 then(x.1,x.2+p.2)else x)else ws++[p]
def je(ps:List (Str×Rat)):List (Str×Rat):=ps.foldl addW []
noncomputable abbrev wKs(ws:List (Str×Rat)):List Key:=ws.map λx=>.inr x.1
abbrev wTs(ws:List (Str×Rat)):List T:=ws.map λx=>frR x.2
theorem aeB(ws:List (Str×Rat))(n:Str):KZ (wKs ws) (.inr n)=ws.any λx=>decide (x.1=n):=by
 unfold KZ;rw[List.any_map]
 congr 1
 funext x
 exact decide_eq_decide.mpr ⟨λz=>Sum.inr.inj z,λz=>ZH Sum.inr z⟩
theorem Tf(n:Str):∀ws:List (Str×Rat),pG (wKs ws) (wTs ws) (.inr n)=(ws.find? λx=>decide (x.1=n)).map λx=>frR x.2
 |[]=>rfl
 |x::ws=>by
  show(if(Sum.inr x.1:Key)=.inr n then some (frR x.2)else pG (wKs ws) (wTs ws) (.inr n))=_;by_cases h:x.1=n
  .rw[ZY (ZH Sum.inr h),List.find?_cons_of_pos (p:=λx:Str×Rat=>decide (x.1=n)) (Zs h)];rfl
  .rw[ZZ λz=>h (Sum.inr.inj z),List.find?_cons_of_neg (p:=λx:Str×Rat=>decide (x.1=n)) (by show ¬decide (x.1=n)=true;rw[Zp h];decide),Tf n ws]
noncomputable def yO(ws:List (Str×Rat))(n:Str):Rat:=((ws.find? λx=>decide (x.1=n)).map (·.2)).getD 0
theorem abK(ws:List (Str×Rat))(n:Str):((pG (wKs ws) (wTs ws) (.inr n)).getD (frR 0))=frR (yO ws n):=by
 rw[Tf];unfold yO;cases(ws.find? λx=>decide (x.1=n))<;>rfl
theorem Ud{ws:List (Str×Rat)}{n:Str}(nd:(ws.map (·.1)).Nodup){x:Str×Rat}(hx:x∈ws)(e:x.1=n):(ws.find? λy=>decide (y.1=n))=some x:=by
 induction ws with
 |nil=>cases hx
 |cons y ws ih =>
  obtain⟨n1,n2⟩:=List.nodup_cons.mp nd;rcases YU.mp hx with rfl|z
  .exact List.find?_cons_of_pos (p:=λy:Str×Rat=>decide (y.1=n)) (Zs e)
  .rw[List.find?_cons_of_neg (p:=λy:Str×Rat=>decide (y.1=n)) (by show ¬decide (y.1=n)=true;rw[Zp λw=>n1 (YV.mpr ⟨x,z,e.trans w.symm⟩)];decide)];exact ih n2 z
theorem agA(ws:List (Str×Rat))(p:Str×Rat)(nd:(ws.map (·.1)).Nodup):kpK (wKs ws) (.inr p.1)=wKs (addW ws p)/\kpT (wKs ws) (wTs ws) (.inr p.1) (frR (yO ws p.1+p.2))=wTs (addW ws p):=by
 unfold kpK kpT addW;rw[aeB];by_cases h:(ws.any λx=>decide (x.1=p.1))=true
 .rw[ZY h,ZY h,ZY h];refine⟨by simp only[wKs,WP];refine UQ λx _=>?_;show(Sum.inr x.1:Key)=.inr (if x.1=p.1 then(x.1,x.2+p.2)else x).1;split<;>rfl,?_⟩
  clear h
  rw[show wTs (ws.map λx=>if x.1=p.1 then(x.1,x.2+p.2)else x)=ws.map ((λx=>frR x.2) ∘ λx=>if x.1=p.1 then(x.1,x.2+p.2)else x)from WP]
  suffices H:∀(us:List (Str×Rat)),(∀x∈us,x.1=p.1->x.2=yO ws p.1)->List.zipWith (λ(k:Key)x=>if k=.inr p.1 then frR (yO ws p.1+p.2)else x) (wKs us) (wTs us)=us.map ((λx=>frR x.2) ∘ λx=>if x.1=p.1 then(x.1,x.2+p.2)else x)from H ws λx hx e=>by
   unfold yO;rw[Ud nd hx e];rfl
  intro us
  induction us with
  |nil=>intro _;rfl
  |cons x us ih =>
   intro H;show List.zipWith _ (Sum.inr x.1::wKs us) (frR x.2::wTs us)=_;rw[List.zipWith_cons_cons,ih λy hy=>H y (aJ _ hy),List.map_cons]
   congr 1
   by_cases e:x.1=p.1
   .rw[ZY (ZH Sum.inr e)];show _=frR (if x.1=p.1 then(x.1,x.2+p.2)else x).2;rw[ZY e,H x (aO ..) e]
   .rw[ZZ λz=>e (Sum.inr.inj z)];show _=frR (if x.1=p.1 then(x.1,x.2+p.2)else x).2;rw[ZZ e]
 .rw[ZZ h,ZZ h,ZZ h];have n0:yO ws p.1=0:=by
   unfold yO;rw[List.find?_eq_none.mpr λx hx z=>h (List.any_eq_true.mpr ⟨x,hx,z⟩)];rfl
  rw[n0,Rat.zero_add];simp only[wKs,wTs,bf];exact⟨rfl,rfl⟩
theorem acj{ws:List (Str×Rat)}{p:Str×Rat}(nd:(ws.map (·.1)).Nodup):((addW ws p).map (·.1)).Nodup:=by
 unfold addW;by_cases h:(ws.any λx=>decide (x.1=p.1))=true
 .rw[ZY h,WP];rw[show ws.map ((λx=>x.1) ∘ λx=>if x.1=p.1 then(x.1,x.2+p.2)else x)=ws.map (·.1)from UQ λx _=>by show(if x.1=p.1 then(x.1,x.2+p.2)else x).1=x.1;split<;>rfl];exact nd
 .rw[ZZ h,bf];refine List.nodup_append.mpr ⟨nd,by simp,λa ha b hb z=>h ?_⟩;obtain⟨x,hx,rfl⟩:=YV.mp ha;rw[List.map_singleton,YR]at hb;exact List.any_eq_true.mpr ⟨x,hx,Zs (z.trans hb)⟩
theorem W6(as bs:List (Str×Rat)):je (as++bs)=bs.foldl addW (je as):=List.foldl_append ..
theorem QM(ps:List (Str×Rat)):((je ps).map (·.1)).Nodup:=by
 suffices H:∀(ps ws:List (Str×Rat)),(ws.map (·.1)).Nodup->((ps.foldl addW ws).map (·.1)).Nodup from H ps [] .nil
 intro ps
 induction ps with
 |nil=>exact λ_ h=>h
 |cons p ps ih=>exact λws h=>ih _ (acj h)
theorem Jt(ps:List (Str×Rat)):(je ps).length<=ps.length:=by
 suffices H:∀(ps ws:List (Str×Rat)),(ps.foldl addW ws).length<=ws.length+ps.length from by simpa[je]using H ps []
 intro ps
 induction ps with
 |nil=>exact λ_=>aG _
 |cons p ps ih =>
  intro ws;have h1:(addW ws p).length<=ws.length+1:=by
   unfold addW;split
   .rw[ak];exact Xs _
   .rw[aA,List.length_singleton];exact aG _
  have:=ih (addW ws p);rw[List.foldl_cons,List.length_cons];lia
def ac6(ps:List (Str×Rat)):Prop:=∀as a bs,ps=as++a::bs->Bq (yO (je as) a.1)/\Bq a.2/\Bd (((yO (je as) a.1).den:Int)*a.2.den)
def zJ(ps:List (Str×Rat)):List (Str×Rat):=(je ps).filter λp=>!decide (p.2=0)
def uY:ST:=λts q=>∃ps:List (Str×Rat),ts=[.lst (ps.map wyT)]/\ps.length<=1000/\ac6 ps/\q (.l1 ((zJ ps).map wyT))
theorem FJ(F:Fun K k_ k_ mq f fd)(T:Txt K mg D)(Rx:OkT P w K mg base 3 Fg Ei Va):b_ P w K mg base CX0 4 f fd j5 (spT K uY):=by
 refine F.okT jR (λts R hP=>by obtain⟨t,e,_⟩:=hP;exact e ▸ rfl) λah A outer s H E hr=>?_;refine⟨_,(bC (jz 1 jR.nd (Or.inr rfl) K9)
  (bC (dO VY rfl (cF (qv 0)) (eZ (n:=2) rfl (bT (bZ (n:=99) 2 jR.nd (Or.inl rfl)) (bT (bZ (n:=99) 3 jR.nd (Or.inl rfl)) dz)))
  (bG (Lp 1 (xH hr) (bH Rx hr.md (by rfl) (bw (abG 1 (xH hr) (qv 2) (jL (by rfl) T.ig T.fB)) (bw (qv 3) bA))) (qv 2))))
  (bG (abS 1 (bF mq) xY ["pairs","chances","?room","chance"] ["room"] (gj (i:=0)) (U6 (cu (pF hr.units) (Lz (xH hr) (qv 2) (qv 0)) (jL (by rfl) T.ig T.fB))) (cT (bw (qv 0) (bw (Lz (xH hr) (qv 2) (qv 0)) bA))))))),?_⟩
 rintro _ R ⟨ps,rfl,pl,hb,q⟩;refine gZ wyT ps (λas o=>∃x y,o=[.fz (.lst (ps.map wyT)),.d1 (wKs (je as)) (wTs (je as)),x,y]) ⟨_,_,rfl⟩ ?_ ?_
 .rintro as a bs _ e ⟨x,y,rfl⟩;obtain⟨h1,h2,h3⟩:=hb as a bs e;refine⟨rfl,_,rfl,yO (je as) a.1,a.2,ZH (λt=>[t,frR a.2]) (abK (je as) a.1),h1,h2,h3,_,rfl,?_,.fz (.str a.1),.fz (frR a.2),?_⟩
  .have:=Jt as;have:as.length<=ps.length:=by rw[e];simp
   rw[ak];exact Y3 (show _<=1000 by lia) (by decide)
  .obtain⟨k1,k2⟩:=agA (je as) a (QM as);rw[show je (as++[a])=addW (je as) a from by rw[W6];rfl,<- k1,<- k2]
   rfl
 .rintro _ ⟨x,y,rfl⟩;have jl:=Jt ps;refine⟨by rw[ak];exact aL (show _<=1000 by exact aL jl pl) (by decide),?_⟩;rw[show(wKs (je ps)).map kT=(je ps).map λp=>.str p.1 from WP];refine qe (λp=>.str p.1) (λp=>!decide (p.2=0)) wyT (je ps) (λp hp N M hN hM=>?_) ?_
  rotate_left
  .exact q
  have ev:pG (wKs (je ps)) (wTs (je ps)) (.inr p.1)=some (frR p.2):=by rw[Tf,Ud (QM ps) hp rfl];rfl
  refine⟨_,_,rfl,ev,?_⟩;have ez:(decide (p.2.num=0)&&decide ((p.2.den:Int)=1))=decide (p.2=0):=by
   by_cases z:p.2=0
   .rw[z];decide
   .rw[Zp z,Zp λy=>z (Rat.num_eq_zero.mp y)];rfl
  refine sw2 (λh=>⟨_,_,rfl,ev,hN ?_⟩) λh=>hM ?_
  .rw[<- h];exact ZH (λb=>!b) ez.symm
  .rw[<- h];exact ZH (λb=>!b) ez.symm
noncomputable abbrev rN:Θ:=["name","pay","leads"]
abbrev drT(C:Addr)(n:Str)(p:Rat)(ws:List (Str×Rat)):T:=.ins C rN [.str n,frR p,.lst (ws.map wyT)]
def Lg(D:Adr):SI:=λC ks ts as R=>∃(n:Str)(p:Rat),ks=[]/\ts=[]/\Fam D C/\as=[.str n,frR p]/\Wd n/\R rN [.str n,frR p,.lst []]
theorem Lq(F:Fun K Bt zB vA f fd)(T:Txt K mg D)(iU:OkT P w K mg base 3 jc jg qG):b_ P w K mg base CX0 4 f fd j9 (spI K (Lg D)):=by
 refine F.okI N8 (λC ks ts as R hP=>by obtain⟨n,p,_,_,_,e,_⟩:=hP;exact e ▸ rfl) (by decide) λah A outer s H E hr=>?_;refine⟨_,(bC (mG (bH iU hr.md (by rfl) (bw (qv 1) (bw (qv 2) bA))))
  (bC (qd (Fm:=Fam D) 0 (λC h=>⟨T.cl C h,T.Ew C h⟩) (qv 1))
  (bC (qd (Fm:=Fam D) 0 (λC h=>⟨T.cl C h,T.Xv C h⟩) (qv 2))
  (bG (qd (Fm:=Fam D) 0 (λC h=>⟨T.cl C h,T.zY C h⟩) (cY bA)))))),?_⟩
 rintro a dx C _ _ _ R ⟨n,p,rfl,rfl,hC,rfl,hw,q⟩;exact⟨_,_,rfl,hw,⟨hC,by decide⟩,⟨hC,by decide⟩,⟨hC,by decide⟩,_,_,rfl,q⟩
theorem Xr(D:Adr):Fam D D.Sure:=by simp[Fam]
theorem Wu(D:Adr):Fam D D.Mixed:=by simp[Fam]
theorem Xw(D:Adr):Fam D D.Toss:=by simp[Fam]
theorem aax(D:Adr):Fam D D.Even:=by simp[Fam]
theorem Ao(D:Adr):Fam D D.Hall:=by simp[Fam]
def Uj(D:Adr):SI:=λC ks ts as R=>∃(n m:Str)(p:Rat),ks=[]/\ts=[]/\Fam D C/\as=[.str n,frR p,.str m]/\Wd n/\Wd m/\R rN [.str n,frR p,.lst ([(m,1)].map wyT)]
theorem Li(F:Fun K zm Av uO f fd)(T:Txt K mg D)(jF:OkI P w K mg base CX0 4 D.Door_init j9 (spI K (Lg D)))(dI:OkT P w K mg base 2 dZ d9 jx):b_ P w K mg base CX0 5 f fd oV (spI K (Uj D)):=by
 refine F.okI Lf (λC ks ts as R hP=>by obtain⟨n,p,_,_,_,_,e,_⟩:=hP;exact e ▸ rfl) (by decide) λah A outer s H E hr=>?_;refine⟨_,(bC (Ek 0 T.zK jF hr.md (by rfl) T.Zr (bw (qv 1) (bw (qv 2) bA)))
  (bC (mG (bH dI hr.md (by rfl) (bw (qv 3) bA)))
  (bG (qd (Fm:=Fam D) 0 (λC h=>⟨T.cl C h,T.zY C h⟩) (cY (bw (cT (bw (qv 3) (bw (jL (by rfl) T.C_ T.uP) bA))) bA)))))),?_⟩
 rintro a dx C _ _ _ R ⟨n,m,p,rfl,rfl,hC,rfl,hw,hm,q⟩;exact⟨_,_,rfl,rfl,hC,rfl,hw,_,rfl,hm,⟨hC,by decide⟩,_,_,rfl,q⟩
structure Prs(ps:List (Str×Rat)):Prop where
 few:ps.length<=1000
 ok:∀p∈ps,Wd p.1/\Ch p.2
 bd:Bd (gP 1 (ps.map (·.2)):Nat)
 one:zA (ps.map (·.2))=1
 jb:ac6 ps
def z6(D:Adr):SI:=λC ks ts as R=>∃(n:Str)(p:Rat)(ps:List (Str×Rat)),ks=[]/\ts=[]/\Fam D C/\as=[.str n,frR p,.lst (ps.map wyT)]/\Wd n/\Prs ps/\R rN [.str n,frR p,.lst ((zJ ps).map wyT)]
theorem Iz(F:Fun K xR xP sJ f fd)(T:Txt K mg D)(jF:OkI P w K mg base CX0 4 D.Door_init j9 (spI K (Lg D)))(qP:OkT P w K mg base 4 jM kh uz)(qQ:OkT P w K mg base 4 k_ j5 uY):b_ P w K mg base CX0 5 f fd gJ (spI K (z6 D)):=by
 refine F.okI Ii (λC ks ts as R hP=>by obtain⟨n,p,_,_,_,_,e,_⟩:=hP;exact e ▸ rfl) (by decide) λah A outer s H E hr=>?_;refine⟨_,(bC (Ek 0 T.zK jF hr.md (by rfl) T.Zr (bw (qv 1) (bw (qv 2) bA)))
  (bC (mG (bH qP hr.md (by rfl) (bw (qv 3) bA)))
  (bG (qd (Fm:=Fam D) 0 (λC h=>⟨T.cl C h,T.zY C h⟩) (bH qQ hr.md (by rfl) (bw (qv 3) bA)))))),?_⟩
 rintro a dx C _ _ _ R ⟨n,p,ps,rfl,rfl,hC,rfl,hw,h,q⟩;exact⟨_,_,rfl,rfl,hC,rfl,hw,_,rfl,h.few,h.ok,h.bd,h.one,_,rfl,h.few,h.jb,⟨hC,by decide⟩,_,_,rfl,q⟩
def Ub(D:Adr):SI:=λC ks ts as R=>∃(n x y:Str)(p c:Rat),ks=[]/\ts=[]/\Fam D C/\as=[.str n,frR p,frR c,.str x,.str y]/\Wd n/\Ch c/\Prs [(x,c),(y,1-c)]/\R rN [.str n,frR p,.lst ((zJ [(x,c),(y,1-c)]).map wyT)]
theorem Ko(F:Fun K Bh zO uT f fd)(T:Txt K mg D)(iU:OkT P w K mg base 3 jc jg qG)(fu:OkT P w K mg base 3 gB gA mZ)(nZ:OkT P w K mg base 3 rF rE za)(dN:OkI P w K mg base CX0 5 D.Mixed_init gJ (spI K (z6 D))):b_ P w K mg base CX0 6 f fd nH (spI K (Ub D)):=by
 refine F.okI Nq (λC ks ts as R hP=>by obtain⟨n,_,_,p,_,_,_,_,e,_⟩:=hP;exact e ▸ rfl) (by decide) λah A outer s H E hr=>?_;refine⟨_,(bC (mG (bH iU hr.md (by rfl) (bw (qv 1) (bw (qv 2) bA))))
  (bC (mG (bH fu hr.md (by rfl) (bw (qv 3) bA)))
  (bG (Ek 0 T.xJ dN hr.md (by rfl) T.NK (bw (qv 1) (bw (qv 2) (bw (cY (bw (cT (bw (qv 4) (bw (qv 3) bA))) (bw (cT (bw (qv 5) (bw (bH nZ hr.md (by rfl) (bw (jL (by rfl) T.C_ T.uP) (bw (qv 3) bA))) bA))) bA))) bA))))))),?_⟩
 rintro a dx C _ _ _ R ⟨n,x,y,p,c,rfl,rfl,hC,rfl,hw,hc,h,q⟩;refine⟨_,_,rfl,hw,_,rfl,hc,1,c,rfl,bq1,hc.bq,?_,n,p,_,rfl,rfl,hC,rfl,hw,h,_,_,rfl,q⟩;rw[show(((1:Rat).den:Nat):Int)*(c.den:Int)=(c.den:Int)from TU _];exact hc.2.2
noncomputable def even(br:Θ):List (Str×Rat):=br.map λr=>(r,mkRat 1 br.length)
theorem RP{n:Nat}(h:0<n):frR (mkRat 1 n)=.tup [.int 1,.int (n:Nat)]:=by
 have:mkRat 1 n=⟨1,n,by exact VQ h,by show Nat.Coprime 1 n;exact Nat.coprime_one_left n⟩:=by
  rw[Rat.mk_eq_divInt];rfl
 rw[this]
def T3(D:Adr):SI:=λC ks ts as R=>∃(n:Str)(p:Rat)(br:Θ),ks=[]/\ts=[]/\Fam D C/\as=[.str n,frR p,.lst (br.map T.str)]/\Wd n/\Prs (even br)/\R rN [.str n,frR p,.lst ((zJ (even br)).map wyT)]
theorem Ly(F:Fun K zL Bl pU f fd)(T:Txt K mg D)(dN:OkI P w K mg base CX0 5 D.Mixed_init gJ (spI K (z6 D))):b_ P w K mg base CX0 6 f fd n8 (spI K (T3 D)):=by
 refine F.okI K1 (λC ks ts as R hP=>by obtain⟨n,p,_,_,_,_,e,_⟩:=hP;exact e ▸ rfl) (by decide) λah A outer s H E hr=>?_;refine⟨_,(bG (Ek 0 T.xJ dN hr.md (by rfl) T.NK (bw (qv 1) (bw (qv 2) (bw (d_ (bF pU) vh vh ["room"] (cF (qv 3)) (gj (i:=0)) cG (cT (bw (qv 0) (bw (cT (bw bx (bw (bM cJ (by rfl) T.cZ WG (bw (qv 4) bA)) bA))) bA)))) bA))))),?_⟩;rintro a dx C _ _ _ R ⟨n,p,br,rfl,rfl,hC,rfl,hw,h,q⟩;have hl:br.length<=1000:=by have:=h.few;rwa[even,ak]at this
 refine⟨by rw[ak];exact aL hl (by decide),comp_map L2.T.str (λr=>wyT (r,mkRat 1 br.length)) br (λr hr N M hN=>?_) ⟨n,p,even br,rfl,rfl,hC,?_,hw,h,_,_,rfl,q⟩⟩
 .rw[show wyT (r,mkRat 1 br.length)=.tup [.str r,frR (mkRat 1 br.length)]from rfl,RP (List.length_pos_of_mem hr),<- ak (f:=L2.T.str)]at hN;exact hN
 .unfold even;rw[WP]
  rfl
def zy(D:Adr):ST:=λts q=>∃(C:Addr)(n:Str)(p:Rat)(ws:List (Str×Rat)),ts=[drT C n p ws]/\Fam D C/\q (.l1 (ws.map wyT))
theorem Ks(F:Fun K Af Bc uD f fd)(T:Txt K mg D):b_ P w K mg base CX0 1 f fd nG (spT K (zy D)):=by
 refine F.okT M4 (λts R hP=>by obtain⟨C,n,p,ws,e,_⟩:=hP;exact e ▸ rfl) λah A outer s H E hr=>?_;refine⟨_,(bG (bL (oZ Es (by rfl) T.yD boot_list (bw (sG (Fm:=Fam D) (λC h=>⟨T.cl C h,T.zY C h⟩) (qv 0)) bA)))),?_⟩;rintro _ R ⟨C,n,p,ws,rfl,hC,q⟩;exact⟨hC,_,rfl,q⟩
structure bV where
 name:Str
 pay:Rat
 ways:List (Nat×Rat)
abbrev nwT(p:Nat×Rat):T:=.tup [.int (p.1:Nat),frR p.2]
abbrev ofT(o:bV):T:=.tup [.str o.name,frR o.pay,.lst (o.ways.map nwT)]
noncomputable abbrev oA:Θ:=["share","numbers","offered"]
noncomputable abbrev nmK(ns:Θ):List Key:=ns.map Sum.inr
noncomputable abbrev nmT(ns:Θ):List T:=(List.range ns.length).map λk:Nat=>.int k
abbrev hlT(D:Adr)(s:Rat)(ns:Θ)(off:List (List bV)):T:=.ins D.Hall oA [frR s,.dct (nmK ns) (nmT ns),.lst (off.map λds=>.lst (ds.map ofT))]
def u_:ST:=λts q=>∃r:Rat,ts=[frR r]/\0<=r/\r<1/\Bq r/\q (.fz .non)
theorem G_(F:Fun K kJ kJ qU f fd)(T:Txt K mg D)(fV:OkT P w K mg base 2 jK jB pZ)(pY:OkT P w K mg base 1 vX vQ G9):b_ P w K mg base CX0 3 f fd jN (spT K u_):=by
 refine F.okT Hx (λts R hP=>by obtain⟨t,e,_⟩:=hP;exact e ▸ rfl) λah A outer s H E hr=>?_;refine⟨_,(bG (cB (QW.qt (lg (dG (dg (bH fV hr.md (by rfl) (bw (qv 0) bA)))) (lg (dg (bH pY hr.md (by rfl) (bw (qv 0) (bw (jL (by rfl) T.ig T.fB) bA)))) (iV (dG (dg (bH pY hr.md (by rfl) (bw (qv 0) (bw (jL (by rfl) T.C_ T.uP) bA)))))))))
  (bG eU)
  bQ)),?_⟩
 rintro _ R ⟨r,rfl,h0,h1,hb,q⟩;refine⟨_,rfl,r,0,rfl,hb,bq0,?_⟩;rw[Zp (Rat.not_lt.mpr h0)];refine⟨r,1,rfl,hb,bq1,?_⟩;rw[Zs h1];exact q
theorem aau(ns:Θ)(n:Str)(h:n∉ns):KZ (nmK ns) (.inr n)=false:=by
 unfold KZ;rw[List.any_map];exact List.any_eq_false.mpr λx hx z=>h ((Sum.inr.inj (of_decide_eq_true z)) ▸ hx)
theorem Tj{α:Type}(n:Str):∀(ns:Θ)(ts:List α),n∉ns->pG (nmK ns) ts (.inr n)=none
 |[],_,_=>rfl
 |_::_,[],_=>rfl
 |m::ns,t::ts,h=>by
  show(if(Sum.inr m:Key)=.inr n then some t else pG (nmK ns) ts (.inr n))=none;rw[ZZ λz=>h (by rw[Sum.inr.inj z];exact aO ..)];exact Tj n ns ts λz=>h (aJ _ z)
theorem Uy{α:Type}{n:Str} : ∀{ns:Θ}{ts:List α}{k:Nat}{t:α},ns.Nodup->ns[k]?=some n->ts[k]?=some t->pG (nmK ns) ts (.inr n)=some t
 |[],_,_,_,_,e,_=>by cases e
 |m::ns,[],_,_,_,_,e=>by cases e
 |m::ns,u::ts,k,t,nd,e1,e2=>by
  obtain⟨n1,n2⟩:=List.nodup_cons.mp nd;show(if(Sum.inr m:Key)=.inr n then some u else pG (nmK ns) ts (.inr n))=some t;cases k with
  |zero=>cases e1;cases e2;exact ZY rfl
  |succ k =>
   have fS:ns[k]?=some n:=by simpa using e1
   rw[ZZ λ(z:(Sum.inr m:Key)=.inr n)=>n1 (by rw[Sum.inr.inj z];exact aC fS)];exact Uy n2 fS (by simpa using e2)
theorem ae1(ns:Θ)(n:Str)(h:n∉ns):kpK (nmK ns) (.inr n)=nmK (ns++[n])/\kpT (nmK ns) (nmT ns) (.inr n) (.int (ns.length:Nat))=nmT (ns++[n]):=by
 unfold kpK kpT;rw[aau ns n h];refine⟨by rw[ZZ (by decide)];simp[nmK],?_⟩;rw[ZZ (by decide)];simp only[nmT,aA,List.length_singleton,List.range_succ,bf,List.map_singleton]
noncomputable abbrev rmT(p:Str×List T):T:=.tup [.str p.1,.lst p.2]
def xM:ST:=λts q=>∃fh:List (Str×List T),ts=[.lst (fh.map rmT)]/\fh.length<=1000/\(∀p∈fh,Wd p.1)/\(fh.map (·.1)).Nodup/\q (.d1 (nmK (fh.map (·.1))) (nmT (fh.map (·.1))))
theorem Jk(F:Fun K mF mF rO f fd)(T:Txt K mg D)(iT:OkT P w K mg base 1 lq lJ tU):b_ P w K mg base CX0 2 f fd lM (spT K xM):=by
 refine F.okT lQ (λts R hP=>by obtain⟨t,e,_⟩:=hP;exact e ▸ rfl) λah A outer s H E hr=>?_;refine⟨_,(bC (jz 1 lQ.nd (Or.inl rfl) K9)
  (bC (dO VY rfl (cF (qv 0)) (bZ (n:=99) 2 lQ.nd (Or.inl rfl))
  (bC (bO 3 lQ.nd (Or.inl rfl) (bI (qv 2) bx))
  (bC (cB (QW.qt (lg (dG (dg (bH iT hr.md (by rfl) (bw (qv 3) bA)))) (iV (R8 1 (ZG (xH hr) (qv 3) (qv 1))))))
  (bG eU)
  bQ)
  (bG (Lp 1 (xH hr) (Ro 1 (bM Uv (by rfl) T.cZ WG (bw (qv 1) bA))) (qv 3))))))
  (bG (oK 1)))),?_⟩
 rintro _ R ⟨fh,rfl,rl,hw,nd,q⟩;refine gZ rmT fh (λas o=>∃x y,o=[.fz (.lst (fh.map rmT)),.d1 (nmK (as.map (·.1))) (nmT (as.map (·.1))),x,y]) ⟨_,_,rfl⟩ ?_ ?_
 .rintro as a bs _ e ⟨x,y,rfl⟩;have na:a.1∉as.map (·.1):=by
   rw[e,bf,List.map_cons]at nd;exact λz=>(List.nodup_append.mp nd).2.2 a.1 z a.1 (aO ..) rfl
  have al:as.length<=fh.length:=by rw[e];simp
  refine⟨_,rfl,hw a (e ▸ by simp),_,rfl,?_⟩;rw[Tj a.1 _ _ na];refine⟨trivial,_,rfl,by rw[ak,ak];exact Y3 (show _<=1000 by exact aL al rl) (by decide),.fz (rmT a),.fz (.str a.1),?_⟩;obtain⟨k1,k2⟩:=ae1 (as.map (·.1)) a.1 na;rw[bf,List.map_singleton,<- k1,<- k2];simp only[ak]
  rfl
 .rintro _ ⟨x,y,rfl⟩;exact q
structure NWk(ns:Θ)(us:List (Nat×Rat)):Prop where
 few:us.length<=1000
 lt:∀p∈us,p.1<ns.length
abbrev Pg(ns:Θ)(us:List (Nat×Rat)):List (Str×Rat):=us.map λp=>(ns.getD p.1 ⟨#[]⟩,p.2)
def rG(D:Adr):ST:=λts q=>∃(C:Addr)(n:Str)(p:Rat)(ns:Θ)(us:List (Nat×Rat)),ts=[drT C n p (Pg ns us),.dct (nmK ns) (nmT ns)]/\cV D C/\ns.Nodup/\NWk ns us/\q (.l1 (us.map nwT))
theorem B_(F:Fun K iQ iQ mX f fd)(T:Txt K mg D)(vL:OkI P w K mg base CX0 1 D.Door_ways nG (spT K (zy D))):b_ P w K mg base CX0 2 f fd iH (spT K (rG D)):=by
 refine F.okT iI (λts R hP=>by obtain⟨C,n,p,ns,us,e,_⟩:=hP;exact e ▸ rfl) λah A outer s H E hr=>?_;refine⟨_,(bC (jz 2 iI.nd (Or.inl rfl) (cY bA))
  (bC (dO VY rfl (cF (QE.any λC(hC:cV D C)=>yR (qv 0) (T.cl C hC.fam) (T.K7 C hC) vL hr.md (KS:=rN))) (eZ (n:=2) rfl (bT (bZ (n:=99) 3 iI.nd (Or.inl rfl)) (bT (bZ (n:=99) 4 iI.nd (Or.inl rfl)) dz)))
  (bC (cB (Wx (xH hr) (qv 3) (qv 1))
  (bG eU)
  bQ)
  (bG (wg 2 (cT (bw (Lz (xH hr) (qv 1) (qv 3)) (bw (qv 4) bA)))))))
  (bG (oK 2)))),?_⟩
 rintro _ R ⟨C,n,p,ns,us,rfl,hC,nd,hu,q⟩;refine⟨C,hC,⟨rfl,rfl⟩,C,n,p,_,rfl,hC.fam,?_⟩;show xV _ _ _ (List.map wyT (Pg ns us)) _;rw[show(Pg ns us).map wyT=us.map λp=>wyT (ns.getD p.1 ⟨#[]⟩,p.2)from WP];refine gZ (λp=>wyT (ns.getD p.1 ⟨#[]⟩,p.2)) us (λas o=>∃x y,o=[.fz (drT C n p (Pg ns us)),.fz (.dct (nmK ns) (nmT ns)),.l1 (as.map nwT),x,y]) ⟨_,_,rfl⟩ ?_ ?_
 .rintro as a bs _ e ⟨x,y,rfl⟩;have lt:=hu.lt a (e ▸ by simp);have al:as.length<us.length:=by rw[e];simp
  have few:=hu.few;have en:ns[a.1]?=some (ns.getD a.1 ⟨#[]⟩):=by rw[au,aj lt];rfl
  have ev:pG (nmK ns) (nmT ns) (.inr (ns.getD a.1 ⟨#[]⟩))=some (.int (a.1:Nat)):=Uy nd en (by rw[aq,UZ lt];rfl);refine⟨rfl,_,rfl,?_⟩;rw[ev];refine⟨_,_,rfl,ev,by rw[ak];exact Y3 (show _<=1000 by exact aL (Y2 al) few) (by decide),.fz (.str (ns.getD a.1 ⟨#[]⟩)),.fz (frR a.2),?_⟩;rw[bf]
  rfl
 .rintro _ ⟨x,y,rfl⟩;exact q
structure Made where
 cls:Addr
 of:bV
abbrev mdT(ns:Θ)(m:Made):T:=drT m.cls m.of.name m.of.pay (Pg ns m.of.ways)
structure Mds(D:Adr)(ns:Θ)(ds:List Made):Prop where
 few:ds.length<=1000
 cls:∀m∈ds,cV D m.cls
 ways:∀m∈ds,NWk ns m.of.ways
 nd:(ds.map λm=>m.of.name).Nodup
theorem abv(ns:Θ)(n:Str)(h:n∉ns):kpK (nmK ns) (.inr n)=nmK (ns++[n])/\kpT (nmK ns) (ns.map λ_=>L2.T.bl true) (.inr n) (.bl true)=(ns++[n]).map λ_=>L2.T.bl true:=by
 unfold kpK kpT;rw[aau ns n h];refine⟨by rw[ZZ (by decide)];simp[nmK],?_⟩;rw[ZZ (by decide)];simp
def zW(D:Adr):ST:=λts q=>∃(ns:Θ)(ds:List Made),ts=[.lst (ds.map (mdT ns)),.dct (nmK ns) (nmT ns)]/\ns.Nodup/\Mds D ns ds/\q (.l1 (ds.map λm=>ofT m.of))
theorem Ka(F:Fun K n6 n6 vO f fd)(T:Txt K mg D)(m7:OkT P w K mg base 2 iQ iH (rG D)):b_ P w K mg base CX0 3 f fd nU (spT K (zW D)):=by
 refine F.okT nJ (λts R hP=>by obtain⟨ns,ds,e,_⟩:=hP;exact e ▸ rfl) λah A outer s H E hr=>?_;refine⟨_,(bC (jz 2 nJ.nd (Or.inl rfl) K9)
  (bC (jz 3 nJ.nd (Or.inl rfl) (cY bA))
  (bC (dO VY rfl (cF (qv 0)) (bZ (n:=99) 4 nJ.nd (Or.inl rfl))
  (bC (cB (R8 2 (ZG (xH hr) (sG (Fm:=Fam D) (λC h=>⟨T.cl C h,T.Ew C h⟩) (qv 4)) (qv 2)))
  (bG eU)
  bQ)
  (bC (Lp 2 (xH hr) mV (sG (Fm:=Fam D) (λC h=>⟨T.cl C h,T.Ew C h⟩) (qv 4)))
  (bG (wg 3 (cT (bw (sG (Fm:=Fam D) (λC h=>⟨T.cl C h,T.Ew C h⟩) (qv 4)) (bw (sG (Fm:=Fam D) (λC h=>⟨T.cl C h,T.Xv C h⟩) (qv 4)) (bw (bH m7 hr.md (by rfl) (bw (qv 4) (bw (qv 1) bA))) bA)))))))))
  (bG (oK 3))))),?_⟩
 rintro _ R ⟨ns,ds,rfl,nd,hd,q⟩;refine gZ (mdT ns) ds (λas o=>∃x,o=[.fz (.lst (ds.map (mdT ns))),.fz (.dct (nmK ns) (nmT ns)),.d1 (nmK (as.map λm=>m.of.name)) ((as.map λm=>m.of.name).map λ_=>.bl true),.l1 (as.map λm=>ofT m.of),x]) ⟨_,rfl⟩ ?_ ?_
 .rintro as a bs _ e ⟨x,rfl⟩;have na:a.of.name∉as.map λm=>m.of.name:=by
   have nd:=hd.nd;rw[e,bf,List.map_cons]at nd;exact λz=>(List.nodup_append.mp nd).2.2 _ z _ (aO ..) rfl
  have al:as.length<ds.length:=by rw[e];simp
  have few:=hd.few;have ma:a∈ds:=e ▸ by simp
  have hc:=hd.cls a ma;refine⟨hc.fam,_,rfl,_,rfl,?_⟩;rw[Tj _ _ _ na];refine⟨hc.fam,_,rfl,_,rfl,by rw[ak,ak];exact Y3 (show _<=1000 by exact aL (Y2 al) few) (by decide),hc.fam,_,rfl,hc.fam,_,rfl,_,_,_,ns,a.of.ways,rfl,hc,nd,hd.ways a ma,by rw[ak];exact Y3 (show _<=1000 by exact aL (Y2 al) few) (by decide),.fz (mdT ns a),?_⟩;obtain⟨k1,k2⟩:=abv (as.map λm=>m.of.name) a.of.name na;rw[show(as++[a]).map (λm=>m.of.name)=as.map (λm=>m.of.name)++[a.of.name]from bf,<- k1,<- k2,bf]
  rfl
 .rintro _ ⟨x,rfl⟩;exact q
structure adi(D:Adr)(ns:Θ)(ae:List (List Made)):Prop where
 len:ae.length=ns.length
 few:ns.length<=1000
 wd:∀n∈ns,Wd n
 nd:ns.Nodup
 mds:∀ds∈ae,Mds D ns ds
abbrev yr(ns:Θ)(ae:List (List Made)):List T:=(ns.zip ae).map λp=>rmT (p.1,p.2.map (mdT ns))
noncomputable abbrev offs(ae:List (List Made)):List (List bV):=ae.map λds=>ds.map λm=>m.of
def Vl(D:Adr):SI:=λC ks ts as R=>∃(s:Rat)(ns:Θ)(ae:List (List Made)),C=D.Hall/\ks=[]/\ts=[]/\as=[frR s,.lst (yr ns ae)]/\0<=s/\s<1/\Bq s/\adi D ns ae/\R oA [frR s,.dct (nmK ns) (nmT ns),.lst ((offs ae).map λds=>.lst (ds.map ofT))]
theorem K5(F:Fun K Am yV pX f fd)(T:Txt K mg D)(qI:OkT P w K mg base 3 kJ jN u_)(sW:OkT P w K mg base 2 mF lM xM)(uQ:OkT P w K mg base 3 n6 nU (zW D)):b_ P w K mg base CX0 4 f fd oh (spI K (Vl D)):=by
 refine F.okI Mj (λC ks ts as R hP=>by obtain⟨n,p,_,_,_,_,e,_⟩:=hP;exact e ▸ rfl) (by decide) λah A outer s H E hr=>?_;refine⟨_,(bC (mG (bH qI hr.md (by rfl) (bw (qv 1) bA)))
  (bC (qd (Fm:=Fam D) 0 (λC h=>⟨T.cl C h,T.Gq C h⟩) (qv 1))
  (bC (qd (Fm:=Fam D) 0 (λC h=>⟨T.cl C h,T.yI C h⟩) (bH sW hr.md (by rfl) (bw (qv 2) bA)))
  (bG (qd (Fm:=Fam D) 0 (λC h=>⟨T.cl C h,T.Gz C h⟩) (d_ (bF pX) uW uW ["room"] (cF (qv 2)) (gj (i:=0)) cG (bH uQ hr.md (by rfl) (bw (bI (qv 0) bx) (bw (ab4 (Fm:=Fam D) 1 (λC h=>⟨T.cl C h,T.yI C h⟩)) bA))))))))),?_⟩
 rintro a dx C _ _ _ R ⟨s,ns,ae,rfl,rfl,rfl,rfl,s0,s1,sb,h,q⟩;have z1:(ns.zip ae).map (·.1)=ns:=List.map_fst_zip (by have:=h.len;exact WH (Eq.symm this));have z2:(ns.zip ae).map (·.2)=ae:=List.map_snd_zip (by have:=h.len;exact WH this);have zl:(ns.zip ae).length=ns.length:=by rw[VT,h.len,UX]
 have hf:=Ao D;have few:=h.few;refine⟨_,rfl,s0,s1,sb,⟨hf,by decide⟩,(ns.zip ae).map λp=>(p.1,p.2.map (mdT ns)),by rw[WP];rfl,by rw[ak,zl];exact few,λp hp=>?_,?_,⟨hf,by decide⟩,?_⟩
 .obtain⟨x,hx,rfl⟩:=YV.mp hp;exact h.wd x.1 (z1 ▸ YV.mpr ⟨x,hx,rfl⟩)
 .rw[WP];exact z1.symm ▸ h.nd
 .rw[show((ns.zip ae).map λp=>(p.1,p.2.map (mdT ns))).map (·.1)=ns from List.map_map.trans z1];refine⟨by rw[ak,zl];exact aL few (by decide),comp_map (λp=>rmT (p.1,p.2.map (mdT ns))) (λp=>.lst (p.2.map λm=>ofT m.of)) (ns.zip ae) (λp hp N M hN=>?_) ⟨⟨hf,by decide⟩,_,_,rfl,?_⟩⟩
  .exact⟨hf,_,rfl,ns,p.2,rfl,h.nd,h.mds p.2 (z2 ▸ YV.mpr ⟨p,hp,rfl⟩),hN⟩
  .have:(ns.zip ae).map (λp=>L2.T.lst (p.2.map λm=>ofT m.of))=(offs ae).map λds=>.lst (ds.map ofT):=by
    rw[show(offs ae).map (λds=>L2.T.lst (ds.map ofT))=ae.map λds=>.lst (ds.map λm=>ofT m.of)from by simp[offs,WP,Function.comp_def]]
    conv=>rhs;rw[<- z2,WP]
    rfl
   rw[<- this]at q;exact q
structure MF(ns:Θ)(off:List (List bV)):Prop where
 len:off.length=ns.length
 few:ns.length<=1000
 fews:∀ds∈off,ds.length<=1000
def oR(D:Adr):ST:=λts q=>∃(s:Rat)(ns:Θ)(off:List (List bV)),ts=[hlT D s ns off]/\q (.fz (.int (ns.length:Nat)))
theorem M7(F:Fun K Ah zN ux f fd)(T:Txt K mg D):b_ P w K mg base CX0 1 f fd iG (spT K (oR D)):=by
 refine F.okT Ng (λts R hP=>by obtain⟨s,ns,off,e,_⟩:=hP;exact e ▸ rfl) λah A outer s H E hr=>?_;refine⟨_,(bG (bL (bM Uv (by rfl) T.cZ WG (bw (sG (Fm:=Fam D) (λC h=>⟨T.cl C h,T.yI C h⟩) (qv 0)) bA)))),?_⟩;rintro _ R ⟨s,ns,off,rfl,q⟩;refine⟨Ao D,_,rfl,?_⟩;rw[<- ak (f:=(Sum.inr:Str->Key))]at q;exact q
def xG(D:Adr):ST:=λts q=>∃(s:Rat)(ns:Θ)(off:List (List bV))(k:Nat),ts=[hlT D s ns off,.int k]/\k<ns.length/\q (.fz .non)
theorem Ir(F:Fun K o9 pH kY f fd)(T:Txt K mg D)(cQ:OkT P w K mg base 1 fM fP jJ)(eN:OkI P w K mg base CX0 1 D.Hall_size iG (spT K (oR D))):b_ P w K mg base CX0 2 f fd fQ (spT K (xG D)):=by
 refine F.okT yK (λts R hP=>by obtain⟨s,ns,off,k,e,_⟩:=hP;exact e ▸ rfl) λah A outer s H E hr=>?_;refine⟨_,(bG (cB (QW.qt (lg (dG (dg (bH cQ hr.md (by rfl) (bw (qv 1) bA)))) (iV (dG (Qx Jy vJ bx (qv 1) (yR (qv 0) T.mR T.tD eN hr.md (KS:=oA)))))))
  (bG eU)
  bQ)),?_⟩
 rintro _ R ⟨s,ns,off,k,rfl,hk,q⟩;refine⟨_,_,rfl,rfl,⟨rfl,rfl⟩,_,_,_,rfl,?_⟩;show sw (!decide ((k:Int)<(ns.length:Nat))) _ _;rw[Zs (show(k:Int)<(ns.length:Nat)by lia)];exact q
def wQ(D:Adr):ST:=λts q=>∃(s:Rat)(ns:Θ)(off:List (List bV))(k:Nat)(ds:List bV),ts=[hlT D s ns off,.int k]/\MF ns off/\off[k]?=some ds/\q (.l1 (ds.map ofT))
theorem dJ{α:Type}{l:List α}{h:α->T}{k:Nat}{a:α}(e:l[k]?=some a):ixT (l.map h) (k:Nat)=some (h a):=by
 show nth (l.map h) k=_;rw[qR,aq,e];rfl
theorem Vw(F:Fun K uH vP lY f fd)(T:Txt K mg D)(jQ:OkI P w K mg base CX0 2 D.Hall_check_room fQ (spT K (xG D))):b_ P w K mg base CX0 3 f fd fD (spT K (wQ D)):=by
 refine F.okT HD (λts R hP=>by obtain⟨s,ns,off,k,ds,e,_⟩:=hP;exact e ▸ rfl) λah A outer s H E hr=>?_;refine⟨_,(bC (mG (Ep (qv 0) T.mR T.yF jQ hr.md (bw (qv 1) bA) (KS:=oA)))
  (bG (bL (d_ (bF lY) qM qM ["name","pay","numbered"] (cF (bI (sG (Fm:=Fam D) (λC h=>⟨T.cl C h,T.Gz C h⟩) (qv 0)) (qv 1))) (eZ (n:=3) rfl (bT (gj (i:=0)) (bT (gj (i:=1)) (bT (gj (i:=2)) dz)))) cG (cT (bw (qv 0) (bw (qv 1) (bw (oZ Es (by rfl) T.yD boot_list (bw (qv 2) bA)) bA)))))))),?_⟩
 rintro _ R ⟨s,ns,off,k,ds,rfl,h,e,q⟩;have lk:k<ns.length:=by rw[<- h.len];exact(ao.mp e).1
 refine⟨⟨rfl,rfl⟩,s,ns,off,k,rfl,lk,Ao D,_,rfl,.lst (ds.map ofT),dJ (h:=λds=>L2.T.lst (ds.map ofT)) e,by rw[ak];exact aL (h.fews ds (aC e)) (by decide),comp_map ofT ofT ds (λo _ N M hN=>⟨rfl,hN⟩) q⟩
def Yd(m:Nat):List (List T):=(List.range m).map λi=>(List.range m).map λj=>frR (if j=i then 1 else 0)
def vR:ST:=λts q=>∃m:Nat,ts=[.int m]/\m<=100/\q (.l2 (Yd m))
theorem Fz(F:Fun K kE kE iY f fd)(T:Txt K mg D):b_ P w K mg base CX0 1 f fd jU (spT K vR):=by
 refine F.okT Gf (λts R hP=>by obtain⟨_,e,_⟩:=hP;exact e ▸ rfl) λah A outer s H E hr=>?_;refine⟨_,(bG (bL (Y7 (bF iY) jf jf "row" (dX (by rfl) T.fU (bw (qv 0) bA)) adk cG (U7 (bF iY) ("row"::jf) ("row"::jf) ["column"] (dX (by rfl) T.fU (bw (qv 1) bA)) (gj (i:=0)) cG (Ul (cu (go_eq hr.units) (qv 0) (qv 1)) (jL (by rfl) T.C_ T.uP) (jL (by rfl) T.ig T.fB)))))),?_⟩;rintro _ R ⟨m,rfl,h,q⟩;have sz:(100:Nat)<=sizeLine:=by decide
 have rl:(rng 0 m).length<=sizeLine:=by rw[rng,ak,WJ];exact aL h sz
 refine⟨⟨by lia,by lia⟩,rl,OD (λi=>(List.range m).map λj=>frR (if j=i then 1 else 0)) m (λi hi N M hN=>⟨⟨by lia,by lia⟩,rl,T9 (λj=>frR (if j=i then 1 else 0)) m (λj hj N M hN=>?_) hN⟩) q⟩;by_cases e:j=i
 .rw[ZY e]at hN;exact swT (Zs (by lia)) hN
 .rw[ZZ e]at hN;exact swF (Zp (by lia)) hN
noncomputable def dT:Option Nat->T
 |none=>.non
 |some d=>.int d
noncomputable def z_:Option Nat->Nat->Bool
 |none,n=>decide (n=0)
 |some d,n=>decide (d<n)
structure PlT(off:List (List bV))(pl:List (Option Nat)):Prop where
 len:pl.length=off.length
 ok:∀(k:Nat)(d:Option Nat)(ds:List bV),pl[k]?=some d->off[k]?=some ds->z_ d ds.length=true
def T6:ST:=λts q=>∃(d:Option Nat)(n:Nat),ts=[dT d,.int n]/\q (.fz (.bl (z_ d n)))
theorem abH(F:Fun K tu tu Kc f fd)(T:Txt K mg D)(cQ:OkT P w K mg base 1 fM fP jJ):b_ P w K mg base CX0 2 f fd wX (spT K T6):=by
 refine F.okT Vd (λts R hP=>by obtain⟨_,_,e,_⟩:=hP;exact e ▸ rfl) λah A outer s H E hr=>?_;refine⟨_,(bC (cB (cu (go_eq hr.units) (qv 1) bx)
  (bG (bL (m6 FP (qv 0) fX)))
  bQ)
  (bG (bL (vf (bH cQ hr.md (by rfl) (bw (qv 0) bA)) (yE (Hw Jy vJ bx (qv 0) (qv 1))))))),?_⟩
 rintro _ R ⟨d,n,rfl,q⟩;by_cases e:n=0
 .subst e;cases d with
  |none=>exact q
  |some d=>exact q
 .refine swF (Zp (by lia)) ?_;cases d with
  |none =>
   rw[show z_ none n=false from Zp e]at q;exact⟨_,_,rfl,rfl,q⟩
  |some d =>
   rw[show z_ (some d) n=decide ((d:Int)<(n:Int))from decide_eq_decide.mpr (by omega)]at q;exact⟨_,_,rfl,rfl,q⟩
def xT(D:Adr):ST:=λts q=>∃(s:Rat)(ns:Θ)(off:List (List bV))(pl:List (Option Nat)),ts=[hlT D s ns off,.lst (pl.map dT)]/\MF ns off/\PlT off pl/\q (.fz (.bl true))
theorem Ip(F:Fun K eY eY n_ f fd)(T:Txt K mg D)(yM:OkT P w K mg base 2 tu wX T6)(eN:OkI P w K mg base CX0 1 D.Hall_size iG (spT K (oR D)))(dB:OkI P w K mg base CX0 3 D.Hall_offers fD (spT K (wQ D))):b_ P w K mg base CX0 4 f fd gD (spT K (xT D)):=by
 refine F.okT gF (λts R hP=>by obtain⟨_,_,_,_,e,_⟩:=hP;exact e ▸ rfl) λah A outer s H E hr=>?_;refine⟨_,(bC (cB (QW.qt (lg (dG (dg (pR .list (qv 1) (by rfl) T.c7 (by rfl) T.yD boot_list))) (iV (cu (pF hr.units) (bM cJ (by rfl) T.cZ WG (bw (qv 1) bA)) (yR (qv 0) T.mR T.tD eN hr.md (KS:=oA))))))
  (bG eU)
  bQ)
  (bC (dO VY rfl (zG (by rfl) T.mK (bw (qv 1) bA)) (eZ (n:=2) rfl (bT (bZ (n:=99) 2 gF.nd (Or.inl rfl)) (bT (bZ (n:=99) 3 gF.nd (Or.inl rfl)) dz)))
  (bG (cB (dG (dg (bH yM hr.md (by rfl) (bw (qv 3) (bw (bM cJ (by rfl) T.cZ WG (bw (Ep (qv 0) T.mR T.pQ dB hr.md (bw (qv 2) bA) (KS:=oA)) bA)) bA)))))
  (bG eU)
  bQ)))
  (bG (bL mV)))),?_⟩
 rintro _ R ⟨s,ns,off,pl,rfl,h,hp,q⟩;refine⟨⟨rfl,rfl⟩,_,_,_,rfl,swF ?_ ?_⟩
 .show xr true (decide ((((pl.map dT).length:Nat):Int)=(ns.length:Nat)))=false;rw[ak,hp.len,h.len,Zs rfl]
  rfl
 .refine wN dT pl (λk o=>∃x y,o=[.fz (hlT D s ns off),.fz (.lst (pl.map dT)),x,y]) ⟨_,_,rfl⟩ ?_ ?_
  .rintro k d _ e ⟨x,y,rfl⟩;have lk:k<off.length:=by rw[<- hp.len];exact(ao.mp e).1
   have ek:=aj lk;refine⟨rfl,⟨rfl,rfl⟩,_,_,_,k,_,rfl,h,ek,d,(off[k]).length,?_,?_⟩
   .show[dT d,L2.T.int ((((off[k]).map ofT).length:Nat):Int)]=_;rw[ak]
   .rw[hp.ok k d _ e ek];exact⟨_,_,rfl⟩
  .rintro _ ⟨x,y,rfl⟩;exact q
def chO(off:List (List bV))(pl:List (Option Nat)):List (Option bV):=pl.zipIdx.map λp=>p.1.bind λd=>(off.getD p.2 [])[d]?
def opT:Option bV->T
 |none=>.non
 |some o=>ofT o
def m5(D:Adr):ST:=λts q=>∃(s:Rat)(ns:Θ)(off:List (List bV))(pl:List (Option Nat)),ts=[hlT D s ns off,.lst (pl.map dT)]/\MF ns off/\PlT off pl/\q (.l1 ((chO off pl).map opT))
theorem DG(F:Fun K gw gw jP f fd)(T:Txt K mg D)(dB:OkI P w K mg base CX0 3 D.Hall_offers fD (spT K (wQ D))):b_ P w K mg base CX0 4 f fd gC (spT K (m5 D)):=by
 refine F.okT Dl (λts R hP=>by obtain⟨_,_,_,_,e,_⟩:=hP;exact e ▸ rfl) λah A outer s H E hr=>?_;refine⟨_,(bG (bL (d_ (bF jP) pO pO ["room","door"] (zG (by rfl) T.mK (bw (qv 1) bA)) (eZ (n:=2) rfl (bT (gj (i:=0)) (bT (gj (i:=1)) dz))) cG (Ul (cu FP (qv 1) fX) fX (bI (Ep (qv 2) T.mR T.pQ dB hr.md (bw (qv 0) bA) (KS:=oA)) (qv 1)))))),?_⟩;rintro _ R ⟨s,ns,off,pl,rfl,h,hp,q⟩;refine⟨by unfold yc;rw[ak,List.length_zipIdx,ak,hp.len,h.len];exact aL h.few (by decide),?_⟩;rw[Yw];refine comp_map (λp=>.tup [.int (p.2:Nat),dT p.1]) (λp=>opT (p.1.bind λd=>(off.getD p.2 [])[d]?)) pl.zipIdx (λp hm N M hN=>⟨rfl,?a⟩) ?b
 case b =>
  unfold chO at q;rw[WP]at q;exact q
 case a =>
  obtain⟨d,k⟩:=p;have e:=List.mem_zipIdx_iff_getElem?.mp hm;have lk:k<off.length:=by rw[<- hp.len];exact(ao.mp e).1
  have ek:=aj lk;have eg:off.getD k []=off[k]:=by rw[au,ek];rfl
  have ft:=hp.ok k d _ e ek;cases d with
  |none=>exact hN
  |some d =>
   have ld:d<(off[k]).length:=of_decide_eq_true ft;have hN:N (opT ((off.getD k [])[d]?)):=hN;rw[eg,aj ld]at hN;exact⟨⟨rfl,rfl⟩,_,_,_,k,_,rfl,h,ek,_,dJ (aj ld),hN⟩
open Rw (vr iB gM mQ gcL fW f9 qX jT Big o8 jd lW jq mC eV)
noncomputable abbrev Row:=List Int×Int
noncomputable abbrev rwT(r:Row):T:=.tup [.lst (r.1.map T.int),.int r.2]
noncomputable def NN:Nat:=10^600
theorem aeE{i:Int}(h:i.natAbs<=NN*NN*NN):Bd i:=Y3 h (by decide +kernel)
theorem bdN{i:Int}(h:i.natAbs<=NN):Bd i:=aeE (aL h (by decide +kernel))
theorem aa1{i:Int}(h:i.natAbs<=NN*NN):Bd i:=aeE (aL h (by decide +kernel))
theorem aaY{a b:Int}{m n:Nat}(h1:a.natAbs<=m)(h2:b.natAbs<=n):(a*b).natAbs<=m*n:=by rw[VS];exact VX h1 h2
theorem rD{a b:Int}(h:0<b):Int.fdiv a b=a/b:=Zzy _ (XY h)
def BL:ST:=λts q=>∃r:Row,ts=[.lst (r.1.map T.int),.int r.2]/\0<r.2/\Bd r.2/\r.1.length<=1000/\q (.fz (rwT (iB r)))
theorem Wz(F:Fun K q_ q_ zc f fd)(dh:OkT P w K mg base 1 gU gW lE):b_ P w K mg base CX0 2 f fd rJ (spT K BL):=by
 refine F.okT xg (λts R hP=>by obtain⟨r,e,_⟩:=hP;exact e ▸ rfl) λah A outer s H E hr=>?_;refine⟨_,(bC (bO 2 xg.nd (Or.inr rfl) (qv 1))
  (bC (dO VY rfl (cF (qv 0)) (bZ (n:=99) 3 xg.nd (Or.inl rfl))
  (bG (bO 2 xg.nd (Or.inr rfl) (bH dh hr.md (by rfl) (bw (qv 3) (bw (qv 2) bA))))))
  (bG (bL (cT (bw (d_ (bF zc) Pq ["tops","bottom","common","?top"] ["top"] (cF (qv 0)) (gj (i:=0)) cG (bJ lK (qv 0) (qv 3))) (bw (bJ lK (qv 1) (qv 2)) bA))))))),?_⟩
 rintro _ R ⟨⟨tops,b⟩,rfl,hb,bb,tl,q⟩;have hb:0<b:=hb;have bb:Bd b:=bb;refine gZ L2.T.int tops (λas o=>∃x,o=[.fz (.lst (tops.map L2.T.int)),.fz (.int b),.fz (.int (gcL as b)),x]) ⟨_,rfl⟩ ?_ ?_
 .rintro as a bs _ e ⟨x,rfl⟩;refine⟨_,_,rfl,.fz (.int a),?_⟩;rw[show gcL (as++[a]) b=((Int.gcd a (gcL as b):Nat):Int)from by unfold gcL;rw[List.foldl_append];rfl]
  rfl
 .rintro _ ⟨x,rfl⟩;have g0:=fW (ts:=tops) hb;have g1:Bd (gcL tops b):=Jv (by have:=qX (ts:=tops) hb;omega) bb;refine⟨by rw[ak];exact aL tl (by decide),comp_map L2.T.int (λt=>.int (t/gcL tops b)) tops (λt ht N M hN=>⟨⟨by exact WS g0,g1⟩,?_⟩) ⟨⟨by exact WS g0,g1⟩,?_⟩⟩
  .rw[rD g0];exact hN
  .rw[rD g0];have:(iB (tops,b)).1.map L2.T.int=tops.map λt=>.int (t/gcL tops b):=WP;rw[<- this];exact q
structure Fn(c:Rat):Prop where
 n:c.num.natAbs<=NN
 d:c.den<=NN
noncomputable abbrev pr(c:Rat):Int×Int:=(c.num,c.den)
def zM:ST:=λts q=>∃(r:Row)(c:Rat),ts=[rwT r,frR c]/\Big NN r/\r.1.length<=1000/\Fn c/\q (.fz (rwT (iB (gM r (pr c)))))
theorem N5(F:Fun K oF oF qw f fd)(T:Txt K mg D)(rH:OkT P w K mg base 2 q_ rJ BL):b_ P w K mg base CX0 3 f fd oU (spT K zM):=by
 refine F.okT Kr (λts R hP=>by obtain⟨r,c,e,_⟩:=hP;exact e ▸ rfl) λah A outer s H E hr=>?_;refine⟨_,(bG (bL (bH rH hr.md (by rfl) (bw (d_ (bF qw) uR uR ["top"] (cF (bI (qv 0) bx)) (gj (i:=0)) cG (bJ cC (qv 0) (bI (qv 2) bx))) (bw (bJ cC (bI (qv 0) bx) (bI (qv 1) bx)) bA))))),?_⟩;rintro _ R ⟨r,c,rfl,hr,rl,hc,q⟩;have:=c.den_pos;have cd:((c.den:Nat):Int).natAbs<=NN:=hc.d;refine⟨by rw[ak];exact aL rl (by decide),comp_map L2.T.int (λt=>.int (t*c.num)) r.1 (λt ht N M hN=>⟨⟨bdN (hr.top t ht),bdN hc.n⟩,hN⟩) ⟨⟨bdN hr.bot,bdN cd⟩,gM r (pr c),?_,XZ hr.pos (show(0:Int)<(c.den:Nat)by lia),aa1 (aaY hr.bot cd),by show(r.1.map _).length<=1000;rw[ak];exact rl,q⟩⟩;show _=[L2.T.lst ((r.1.map λt=>t*c.num).map L2.T.int),.int (r.2*c.den)];rw[WP]
 rfl
def CT:ST:=λts q=>∃(r o:Row)(c:Rat),ts=[rwT r,rwT o,frR c]/\Big NN r/\Big NN o/\r.1.length<=1000/\o.1.length=r.1.length/\Fn c/\q (.fz (rwT (iB (mQ r o (pr c)))))
theorem Oq(F:Fun K p7 p7 sE f fd)(T:Txt K mg D)(dh:OkT P w K mg base 1 gU gW lE)(rH:OkT P w K mg base 2 q_ rJ BL):b_ P w K mg base CX0 3 f fd pW (spT K CT):=by
 refine F.okT jH (λts R hP=>by obtain⟨r,o,c,e,_⟩:=hP;exact e ▸ rfl) λah A outer s H E hr=>?_;refine⟨_,(bC (bO 3 jH.nd (Or.inl rfl) (bJ cC (bI (qv 1) bx) (bI (qv 2) bx)))
  (bC (bO 4 jH.nd (Or.inl rfl) (bH dh hr.md (by rfl) (bw (bI (qv 0) bx) (bw (qv 3) bA))))
  (bC (bO 5 jH.nd (Or.inr rfl) (bJ lK (qv 3) (qv 4)))
  (bC (bO 6 jH.nd (Or.inr rfl) (bJ cC (bJ lK (bI (qv 0) bx) (qv 4)) (bI (qv 2) bx)))
  (bC (p8 (bF sE) yd yd ["one","another"] (Rm (by rfl) T.Vh (bw (bI (qv 0) bx) (bw (bI (qv 1) bx) bA))) (eZ (n:=2) rfl (bT (gj (i:=0)) (bT (gj (i:=1)) dz))) cG (bJ cD (bJ cC (qv 0) (qv 7)) (bJ cC (qv 1) (qv 8))) (iJ (i:=7) jH.nd rfl (Or.inl rfl)))
  (bG (bL (bH rH hr.md (by rfl) (bw (qv 7) (bw (bJ cC (bI (qv 0) bx) (qv 5)) bA)))))))))),?_⟩
 rintro _ R ⟨r,o,c,rfl,hr,ho,rl,ol,hc,q⟩;have:=c.den_pos;have cd:((c.den:Nat):Int).natAbs<=NN:=hc.d;have hB:0<o.2*(c.den:Int):=XZ ho.pos (by lia);have bB:=aaY ho.bot cd;have g0:=mj (a:=r.2) (WS hB);have gr:((Int.gcd r.2 (o.2*(c.den:Int)):Nat):Int)≠0:=by exact WS g0
 have gl:Int.gcd r.2 (o.2*(c.den:Int))<=r.2.natAbs:=UU (by have:=hr.pos;omega) (Int.gcd_dvd_natAbs_left ..);have gb:Bd ((Int.gcd r.2 (o.2*(c.den:Int)):Nat):Int):=bdN (by have:=hr.bot;lia);have d2:(o.2*(c.den:Int)/((Int.gcd r.2 (o.2*(c.den:Int)):Nat):Int)).natAbs<=NN*NN:=aL (Int.natAbs_ediv_le_natAbs _ _) bB;have d1:(r.2/((Int.gcd r.2 (o.2*(c.den:Int)):Nat):Int)).natAbs<=NN:=aL (Int.natAbs_ediv_le_natAbs _ _) hr.bot;refine⟨⟨bdN ho.bot,bdN cd⟩,_,_,rfl,⟨gr,gb⟩,⟨gr,gb⟩,⟨by rw[rD g0];exact bdN d1,bdN hc.n⟩,?_⟩;rw[rD g0,rD g0];refine⟨by unfold Iu;rw[ak,VT,ak,ak,ol,UX];exact aL rl (by decide),?_⟩;rw[zip_map];refine comp_map (λp=>.tup [.int p.1,.int p.2]) (λp=>.int (p.1*(o.2*(c.den:Int)/((Int.gcd r.2 (o.2*(c.den:Int)):Nat):Int))+p.2*(r.2/((Int.gcd r.2 (o.2*(c.den:Int)):Nat):Int)*c.num))) (r.1.zip o.1) (λp hp N M hN=>⟨rfl,⟨bdN (hr.top _ (US hp).1),aa1 d2⟩,⟨bdN (ho.top _ (US hp).2),aa1 (aaY d1 hc.n)⟩,hN⟩) ⟨⟨bdN hr.bot,aa1 d2⟩,mQ r o (pr c),?_,?_,aeE ?_,?_,q⟩
 .show _=[L2.T.lst ((List.zipWith _ r.1 o.1).map L2.T.int),_];rw[List.map_zipWith,List.zip,List.map_zipWith]
  rfl
 .exact XZ hr.pos (Zzv hB (XY g0) (JP ..))
 .rw[Nat.mul_assoc];exact aaY hr.bot d2
 .show(List.zipWith _ r.1 o.1).length<=1000;rw[TZ,ol,UX];exact rl
open Rw (vr iB gM mQ gcL fW f9 qX jT Big o8 jd lW jq mC eV)
inductive Stp where
 |swap (i j:Nat)|times (i:Nat) (c:Rat)|add (i j:Nat) (c:Rat)
def stT:Stp->T
 |.swap i j=>.tup [.str "swap",.int i,.int j]
 |.times i c=>.tup [.str "times",.int i,frR c]
 |.add i j c=>.tup [.str "add",.int i,.int j,frR c]
noncomputable def rAt(rs:List Row)(i:Nat):Row:=rs.getD i ([],1)
def vC(rs:List Row):Stp->List Row
 |.swap i j=>(rs.set i (rAt rs j)).set j (rAt rs i)
 |.times i c=>rs.set i (iB (gM (rAt rs i) (pr c)))
 |.add i j c=>rs.set i (iB (mQ (rAt rs i) (rAt rs j) (pr c)))
def agr(n:Nat):Stp->Prop
 |.swap i j=>i<n/\j<n
 |.times i c=>i<n/\Fn c
 |.add i j c=>i<n/\j<n/\Fn c
theorem wW{rs:List Row}{i:Nat}(h:i<rs.length):rs[i]?=some (rAt rs i):=by
 unfold rAt;rw[au,aj h];rfl
theorem dW{rs:List Row}{i:Nat}(h:i<rs.length):rAt rs i∈rs:=aC (wW h)
theorem rW{n i:Nat}(h:i<n):ixN n ((i:Nat):Int)=some i:=by
 unfold ixN;rw[ZY (Wp _),ZY (by lia)];rfl
theorem tL{rs:List Row}{i:Nat}(h:i<rs.length):ixT (rs.map rwT) ((i:Nat):Int)=some (rwT (rAt rs i)):=dJ (wW h)
structure Rws(rs:List Row)(wd:Nat):Prop where
 big:∀r∈rs,Big NN r
 wds:∀r∈rs,r.1.length=wd
 few:rs.length<=100
 wde:wd<=1000
def zu:SO:=λtss ts R=>∃(rs:List Row)(st:Stp)(wd:Nat),tss=[rs.map rwT]/\ts=[stT st]/\Rws rs wd/\agr rs.length st/\R [(vC rs st).map rwT]
theorem Kp(F:Fun K oN oN vK f fd)(T:Txt K mg D)(uM:OkT P w K mg base 3 oF oU zM)(yq:OkT P w K mg base 3 p7 pW CT):b_ P w K mg base CX0 4 f fd oJ (spO K zu):=by
 refine F.okO Bu (λtss ts R ⟨rs,st,wd,e1,e2,_⟩=>by rw[e1,e2];rfl) (by decide) λah A outer s H E hr=>?_;refine⟨_,(bC (bO 2 Bu.nd (Or.inl rfl) (yt 0 (bI (qv 1) bx)))
  (bG (cB (cu (go_eq hr.units) (bI (qv 1) bx) lF)
  (bC (uq 0 (yt 0 (bI (qv 1) bx)) (bI (qv 1) bx))
  (bG (uq 0 (qv 2) (bI (qv 1) bx))))
  (bG (cB (cu (go_eq hr.units) (bI (qv 1) bx) lF)
  (bG (uq 0 (bH uM hr.md (by rfl) (bw (qv 2) (bw (bI (qv 1) bx) bA))) (bI (qv 1) bx)))
  (bG (uq 0 (bH yq hr.md (by rfl) (bw (qv 2) (bw (yt 0 (bI (qv 1) bx)) (bw (bI (qv 1) bx) bA)))) (bI (qv 1) bx)))))))),?_⟩
 rintro as tss ts R tl ⟨rs,st,wd,rfl,rfl,h,hs,q⟩;obtain⟨a,rfl⟩ : ∃a,as=[a]:=by
  match as,tl with
  |[a],_=>exact⟨a,rfl⟩
 have aE:∀(L:List L2.T)(x y:OT),R [L]->∃bi,(∀j,slot [.la a L,x,y] j=slot (List.zipWith OT.la [a] bi) j\/[a].length<=j)/\bi.length=[a].length/\R bi:=λL x y q=>⟨[L],λj=>by
  cases j with
  |zero=>exact .inl rfl
  |succ j=>exact .inr (by simp),rfl,q⟩
 have lm:(rs.map rwT).length=rs.length:=ak _
 match st,hs,q with
 |.swap i j,hs,q =>
  refine⟨_,tL hs.1,_,tL hs.2,i,rW (lm ▸ hs.1),j,rW (by rw[VZ,lm];exact hs.2),aE _ _ _ ?_⟩;rw[vC,List.map_set,List.map_set]at q;exact q
 |.times i c,hs,q =>
  have m:=dW hs.1;refine⟨_,tL hs.1,rAt rs i,c,rfl,h.big _ m,by rw[h.wds _ m];exact h.wde,hs.2,i,rW (lm ▸ hs.1),aE _ _ _ ?_⟩;rw[vC,List.map_set]at q;exact q
 |.add i j c,hs,q =>
  have m:=dW hs.1;have n:=dW hs.2.1;refine⟨_,tL hs.1,_,tL hs.2.1,rAt rs i,rAt rs j,c,rfl,h.big _ m,h.big _ n,by rw[h.wds _ m];exact h.wde,by rw[h.wds _ m,h.wds _ n],hs.2.2,i,rW (lm ▸ hs.1),aE _ _ _ ?_⟩;rw[vC,List.map_set]at q;exact q
open Rw (vr iB gM mQ gcL fW f9 qX jT Big o8 jd lW jq mC eV)
def rZ:ST:=λts q=>∃(r:Row)(k:Nat),ts=[rwT r,.int k]/\k<r.1.length/\Big NN r/\q (.fz (frR (vr r k)))
theorem LR(F:Fun K j7 j7 v7 f fd)(dU:OkT P w K mg base 2 pA pN uN):b_ P w K mg base CX0 3 f fd kO (spT K rZ):=by
 refine F.okT Nz (λts R hP=>by obtain⟨r,k,e,_⟩:=hP;exact e ▸ rfl) λah A outer s H E hr=>?_;refine⟨_,(bG (bL (bH dU hr.md (by rfl) (bw (bI (bI (qv 0) bx) (qv 1)) (bw (bI (qv 0) bx) bA))))),?_⟩;rintro _ R ⟨r,k,rfl,hk,hr,q⟩;have h0:=hr.pos;refine⟨_,dJ (aj hk),_,_,rfl,by exact WS h0,bdN hr.bot,λx y l=>?_⟩;rw[jo l (WS h0),TR];unfold vr at q;rw[au,aj hk]at q;exact q
def uc:ST:=λts q=>∃(rs:List Row)(wd:Nat),ts=[.lst (rs.map rwT)]/\Rws rs wd/\q (.l1 (rs.map λr=>.lst ((List.range wd).map λk=>frR (vr r k))))
theorem Dk(F:Fun K jr jr g_ f fd)(dU:OkT P w K mg base 2 pA pN uN):b_ P w K mg base CX0 3 f fd ji (spT K uc):=by
 refine F.okT DK (λts R hP=>by obtain⟨r,k,e,_⟩:=hP;exact e ▸ rfl) λah A outer s H E hr=>?_;refine⟨_,(bG (bL (acr (bF g_) iz iz "row" (cF (qv 0)) adk cG (U7 (bF g_) ("row"::iz) ("row"::iz) ["top"] (cF (bI (qv 0) bx)) (gj (i:=0)) cG (bH dU hr.md (by rfl) (bw (qv 0) (bw (bI (qv 1) bx) bA))))))),?_⟩;rintro _ R ⟨rs,wd,rfl,h,q⟩;refine⟨by rw[ak];exact aL h.few (by decide),comp_map rwT (λr=>.lst ((List.range wd).map λk=>frR (vr r k))) rs (λr hr N M hN=>⟨by rw[ak,h.wds r hr];exact aL h.wde (by decide),?_⟩) q⟩;have hb:=h.big r hr;have h0:=hb.pos;refine comp_map T.int (λt=>frR ((t:Rat)/(r.2:Rat))) r.1 (λt ht N M hN=>⟨_,_,rfl,by exact WS h0,bdN hb.bot,λx y l=>by rw[jo l (WS h0),TR];exact hN⟩) ?_;have e:(r.1.map λt:Int=>frR ((t:Rat)/(r.2:Rat)))=(List.range wd).map λk=>frR (vr r k):=by
  refine TK (by rw[ak,ak,WJ,h.wds r hr]) λn h1 h2=>?_;rw[ak]at h1;rw[UV,UV,QU];unfold vr;rw[au,aj h1]
  rfl
 rw[e];exact hN
theorem Yk{lo n i:Nat}{t:T}(e:(rng (lo:Nat) n)[i]?=some t):i<n/\t=.int ((lo+i:Nat):Int):=by
 unfold rng at e;rw[aq]at e;by_cases hi:i<n
 .rw[UZ hi]at e;cases e;exact⟨hi,rfl⟩
 .rw[aM (by simpa using hi)]at e;cases e
theorem ZX{r:Row}{k:Nat}(h:0<r.2)(hk:k<r.1.length):vr r k=0↔r.1[k]=0:=by
 have e:vr r k=(r.1[k] : Rat)/(r.2:Rat):=by unfold vr;rw[au,aj hk];rfl
 have n:(r.2:Rat)≠0:=λz=>by have:=Rat.intCast_eq_zero_iff.mp z;lia
 rw[e];constructor
 .intro z;have:(r.1[k] : Rat)=0:=by grind
  exact Rat.intCast_eq_zero_iff.mp this
 .intro z;rw[z];grind
def xX:ST:=λts R=>∃(rs:List Row)(wd p k:Nat),ts=[.lst (rs.map rwT),.int p,.int k]/\Rws rs wd/\p<=rs.length/\k<wd/\(∀q,p<=q->q<rs.length->vr (rAt rs q) k≠0->R (.fz (.int q)))/\((∀i,p<=i->i<rs.length->vr (rAt rs i) k=0)->R (.fz .non))
theorem Ij(F:Fun K lV lV sH f fd)(T:Txt K mg D):b_ P w K mg base CX0 1 f fd lX (spT K xX):=by
 refine F.okT xK (λts R hP=>by obtain⟨r,_,_,k,e,_⟩:=hP;exact e ▸ rfl) λah A outer s H E hr=>?_;refine⟨_,(bC (dO VY rfl (JQ (by rfl) T.fU (bw (qv 1) (bw (bM cJ (by rfl) T.cZ WG (bw (qv 0) bA)) bA))) (bZ (n:=99) 3 xK.nd (Or.inl rfl))
  (bG (cB (cu (pF hr.units) (bI (bI (bI (qv 0) (qv 3)) bx) (qv 2)) bx)
  (bG (bL (qv 3)))
  bQ)))
  (bG (bL fX))),?_⟩
 rintro _ R ⟨rs,wd,p,k,rfl,h,hp,hk,q,q0⟩;have at_:∀i,i<rs.length->k<(rAt rs i).1.length:=λi hi=>by rw[h.wds _ (dW hi)];exact hk
 have few:=h.few;have lm:(rs.map rwT).length=rs.length:=ak _;refine⟨⟨by lia,by lia,by lia,by lia⟩,Aw (λi o=>∃x,o=[.fz (.lst (rs.map rwT)),.fz (.int p),.fz (.int k),x]/\∀j,p<=j->j<p+i->vr (rAt rs j) k=0) _ 0 ⟨_,rfl,λj _ _=>by lia⟩ (λi t o e z=>?_) λo z=>?_⟩
 .obtain⟨hi,rfl⟩:=Yk e;rw[lm]at hi;have eP:p+i<rs.length:=by omega
  obtain⟨x,rfl,hz⟩:=z;have v0:=ZX (h.big _ (dW eP)).pos (at_ _ eP);refine⟨_,tL eP,_,dJ (aj (at_ _ eP)),?_⟩;by_cases c:(rAt rs (p+i)).1[k]'(at_ _ eP)=0
  .refine swF (by show xr true (decide (_=_))=false;rw[Zs c];rfl) ⟨_,rfl,λj hj hl=>?_⟩;by_cases ej:j=p+i
   .rw[ej];exact v0.mpr c
   .exact hz j hj (by lia)
  .exact swT (by show xr true (decide (_=_))=true;rw[Zp c];rfl) (q _ (X2 _ _) eP λz=>c (v0.mp z))
 .obtain⟨x,rfl,hz⟩:=z;refine q0 λj hj hl=>hz j hj ?_;unfold rng;rw[ak,WJ,lm];lia
def Gu:SO:=λtss ts R=>∃(rs:List Row)(ss:List T)(st:Stp)(wd:Nat),tss=[rs.map rwT,ss]/\ts=[stT st]/\Rws rs wd/\agr rs.length st/\ss.length<sizeLine/\R [(vC rs st).map rwT,ss++[stT st]]
theorem aal(F:Fun K uJ uJ Nf f fd)(v8:OkF P w K mg base 4 oN oJ (spO K zu)):b_ P w K mg base CX0 5 f fd vq (spO K Gu):=by
 refine F.okO aaD (λtss ts R ⟨rs,ss,st,wd,e1,e2,_⟩=>by rw[e1,e2];rfl) (by decide) λah A outer s H E hr=>?_;refine⟨_,(bC (afA 0 v8 hr.md (by rfl) (bw (qv 2) bA))
  (bG (wg 1 (qv 2)))),?_⟩
 rintro as tss ts R tl ⟨rs,ss,st,wd,rfl,rfl,h,hs,hl,q⟩;obtain⟨a,b,rfl⟩ : ∃a b,as=[a,b]:=by
  match as,tl with
  |[a,b],_=>exact⟨a,b,rfl⟩
 refine⟨rs,st,wd,rfl,rfl,h,hs,hl,[(vC rs st).map rwT,ss++[stT st]],λj=>?_,rfl,q⟩
 match j with
 |0=>exact .inl rfl
 |1=>exact .inl rfl
 |j+2=>exact .inr (by simp)
open Rw (vr iB gM mQ gcL fW f9 qX jT Big o8 jd lW jq mC eV)
theorem Ed{rs:List Row}{i:Nat}{r:Row}(h:i<rs.length)(j:Nat):rAt (rs.set i r) j=if j=i then r else rAt rs j:=by
 unfold rAt;rw[au,au,List.getElem?_set];by_cases e:i=j
 .subst e;rw[ZY rfl,ZY rfl,ZY h];rfl
 .rw[ZZ e,ZZ (Ne.symm e)]
theorem Fn.of{a b:Int}(hb:b≠0)(h1:a.natAbs<=NN)(h2:b.natAbs<=NN):Fn (Rat.divInt a b):=by
 have hg:=Zzw a hb;have low:∃x y,Low a b x y:=by
  rcases Int.lt_or_lt_of_ne hb with z|z
  .exact⟨_,_,uX (c:=-((Int.gcd a b:Nat):Int)) hb (by lia) (by lia) (Int.mul_pos_of_neg_of_neg (by lia) z)⟩
  .exact⟨_,_,uX (c:=((Int.gcd a b:Nat):Int)) hb (by lia) (by lia) (XZ (by lia) z)⟩
 obtain⟨x,y,l⟩:=low;have e:=jo l hb;injection e with e;injection e with e1 e;injection e with e2 e;injection e1 with e1;injection e2 with e2;exact⟨by rw[<- e1];exact aL l.lx h1,by have:=l.ly;lia⟩
theorem Yv{r:Row}{k:Nat}(hk:k<r.1.length):vr r k=Rat.divInt r.1[k] r.2:=by
 unfold vr;rw[au,aj hk,TR];rfl
theorem Fn.vr{r:Row}{k:Nat}(h:Big NN r)(hk:k<r.1.length):Fn (vr r k):=by
 have:=h.pos;rw[Yv hk];exact Fn.of (WS this) (h.top _ (aU _)) h.bot
theorem Fn.inv{c:Rat}(h:Fn c)(h0:c≠0):Fn (1/c):=by
 have nb:c.num≠0:=λz=>h0 (by rw[<- rd c,z];exact Rat.zero_divInt _);rw[Rat.div_def,Rat.one_mul,Rat.inv_def];exact Fn.of nb h.d h.n
theorem Fn.neg{c:Rat}(h:Fn c):Fn (0-c):=by
 rw[Rat.sub_eq_add_neg,Rat.zero_add];exact⟨by show(-c.num).natAbs<=NN;rw[Int.natAbs_neg];exact h.n,h.d⟩
theorem Fn.bq{c:Rat}(h:Fn c):Bq c:=⟨bdN h.n,bdN h.d⟩
theorem Rws.fn{rs:List Row}{wd i k:Nat}(h:Rws rs wd)(hi:i<rs.length)(hk:k<wd):Fn (Rw.vr (rAt rs i) k):=Fn.vr (h.big _ (dW hi)) (by rw[h.wds _ (dW hi)];exact hk)
theorem Rws.of{rs eI:List Row}{wd:Nat}(h:Rws rs wd)(hl:eI.length=rs.length)(hr:∀i,i<rs.length->Big NN (rAt eI i)/\(rAt eI i).1.length=wd):Rws eI wd:=by
 have:∀r∈eI,Big NN r/\r.1.length=wd:=λr hm=>by
  obtain⟨i,hi,e0⟩:=List.getElem_of_mem hm;have e:=wW hi;rw[aj hi,e0]at e;injection e with e;rw[e];exact hr i (hl ▸ hi)
 exact⟨λr hm=>(this r hm).1,λr hm=>(this r hm).2,hl ▸ h.few,h.wde⟩
theorem Fq(rs:List Row)(st:Stp):(vC rs st).length=rs.length:=by cases st<;>simp[vC]
def bgP(r:Row)(k:Nat):Row:=if vr r k=1 then r else iB (gM r (pr (1/vr r k)))
def bgA(rs:List Row)(p q k i:Nat):Row:=if i=p then bgP (rAt rs q) k else rAt rs (Rw.sw p q i)
def swR(rs:List Row)(p q:Nat):List Row:=if q=p then rs else vC rs (.swap p q)
theorem ab7(rs:List Row)(p q:Nat):(swR rs p q).length=rs.length:=by
 unfold swR;split
 .rfl
 .exact Fq _ _
theorem aeO{rs:List Row}{p q:Nat}(hp:p<rs.length)(hq:q<rs.length)(i:Nat):rAt (swR rs p q) i=rAt rs (Rw.sw p q i):=by
 unfold swR Rw.sw;by_cases e:q=p
 .subst e;rw[ZY rfl];by_cases c:i=q
  .rw[ZY c,c]
  .rw[ZZ c,ZZ c]
 .rw[ZZ e];show rAt ((rs.set p (rAt rs q)).set q (rAt rs p)) i=_;rw[Ed (by rw[VZ];exact hq),Ed hp];by_cases c:i=q
  .subst c;rw[ZY rfl,ZZ e,ZY rfl]
  .rw[ZZ c];by_cases d:i=p
   .rw[ZY d,ZY d]
   .rw[ZZ d,ZZ d,ZZ c]
def zQ:SO:=λtss ts R=>∃(rs:List Row)(ss:List T)(wd p q k:Nat),tss=[rs.map rwT,ss]/\ts=[.int p,.int q,.int k]/\Rws rs wd/\p<rs.length/\q<rs.length/\k<wd/\vr (rAt rs q) k≠0/\ss.length+2<sizeLine /\
 ∀eI iF,eI.length=rs.length->(∀i,i<rs.length->rAt eI i=bgA rs p q k i)->iF.length<=ss.length+2->R [eI.map rwT,iF]
theorem afk{x y:RS}{E:DT}{o:List OT}(J:List OT->Prop)(k:∀o',J o'->y E o')(h:(∀o',J o'->y E o')->jw x y E o):jw x y E o:=h k
theorem eqR(v u:Rat):(decide (v.num=u.num)&&decide (((v.den:Nat):Int)=u.den))=decide (v=u):=by
 rw[<- Bool.decide_and];refine decide_eq_decide.mpr ⟨λ⟨a,b⟩=>Rat.ext a (by lia),λz=>by rw[z];exact⟨rfl,rfl⟩⟩
theorem fin2{R:List (List T)->Prop}{a b:Addr}(L M:List T){o:List OT}(q:R [L,M]):∃bi,(∀j,slot (.la a L::.la b M::o) j=slot (List.zipWith OT.la [a,b] bi) j\/[a,b].length<=j)/\bi.length=[a,b].length/\R bi:=⟨[L,M],λj=>by
 match j with
 |0=>exact .inl rfl
 |1=>exact .inl rfl
 |j+2=>exact .inr (by simp),rfl,q⟩
theorem Xq{α β:Type}{as:List α}{x y:β}(tl : [x,y].length=as.length):∃a b,as=[a,b]:=by
 match as,tl with
 |[a,b],_=>exact⟨a,b,rfl⟩
theorem Nj(F:Fun K nq nq uE f fd)(T:Txt K mg D)(tR:OkF P w K mg base 5 uJ vq (spO K Gu))(jD:OkT P w K mg base 3 j7 kO rZ)(Td:OkT P w K mg base 3 Fb DX Vf):b_ P w K mg base CX0 6 f fd nW (spO K zQ):=by
 refine F.okO z9 (λtss ts R ⟨rs,ss,wd,p,q,k,e1,e2,_⟩=>by rw[e1,e2];rfl) (by decide) λah A outer s H E hr=>?_;refine⟨_,(bC (cB (cu (pF hr.units) (qv 3) (qv 2))
  (bG (Ft 0 1 tR hr.md (by rfl) (bw (cT (bw lF (bw (qv 2) (bw (qv 3) bA)))) bA)))
  bQ)
  (bC (bO 5 z9.nd (Or.inl rfl) (bH jD hr.md (by rfl) (bw (yt 0 (qv 2)) (bw (qv 4) bA))))
  (bG (cB (cu (pF hr.units) (qv 5) (jL (by rfl) T.C_ T.uP))
  (bG (Ft 0 1 tR hr.md (by rfl) (bw (cT (bw lF (bw (qv 2) (bw (bH Td hr.md (by rfl) (bw (jL (by rfl) T.C_ T.uP) (bw (qv 5) bA))) bA)))) bA)))
  bQ)))),?_⟩
 rintro as tss ts R tl ⟨rs,ss,wd,p,q,k,rfl,rfl,h,hp,hq,hk,h0,hl,ok⟩;obtain⟨a,b,rfl⟩:=Xq tl;have sl:=ab7 rs p q;have sa:=aeO hp hq;have gN:Rw.sw p q p=q:=ZY rfl;have swl:∀i,i<rs.length->Rw.sw p q i<rs.length:=λi hi=>by
  unfold Rw.sw;split
  .exact hq
  .split<;>omega
 have hS:Rws (swR rs p q) wd:=h.of sl λi hi=>by rw[sa];exact⟨h.big _ (dW (swl i hi)),h.wds _ (dW (swl i hi))⟩
 refine afk (λo=>∃dA,o=[.la a ((swR rs p q).map rwT),.la b dA,.fz (.int p),.fz (.int q),.fz (.int k),.und]/\dA.length<=ss.length+1) ?_ λgo=>?_
 .rintro _ ⟨dA,rfl,l1⟩;have d6:p<(swR rs p q).length:=by lia
  have hk':k<(rAt (swR rs p q) p).1.length:=by rw[hS.wds _ (dW d6)];exact hk
  have fn:=hS.fn d6 hk;refine⟨_,tL d6,_,k,rfl,hk',hS.big _ (dW d6),?_⟩;have v:vr (rAt (swR rs p q) p) k=vr (rAt rs q) k:=by rw[sa,gN]
  rw[v];rw[v]at fn;by_cases e:vr (rAt rs q) k=1
  .refine swF (by show xr true (_&&_)=false;rw[show(decide ((vr (rAt rs q) k).num=1)&&decide (((vr (rAt rs q) k).den:Int)=1))=_ from eqR _ 1,Zs e];rfl) (fin2 _ _ (ok _ _ sl (λi hi=>?_) (aL l1 (Xs _))));rw[sa];unfold bgA bgP;split
   .rename_i c;rw[c,gN]
   .rfl
  .refine swT (by show xr true (_&&_)=true;rw[show(decide ((vr (rAt rs q) k).num=1)&&decide (((vr (rAt rs q) k).den:Int)=1))=_ from eqR _ 1,Zp e];rfl) ⟨1,_,rfl,h0,bq1,fn.bq,by show Bd (1*_);rw[TU];exact bdN fn.n,swR rs p q,dA,.times p (1/vr (rAt rs q) k),wd,rfl,rfl,hS,⟨d6,fn.inv h0⟩,by lia,fin2 _ _ (ok _ _ (by rw[Fq];exact sl) (λi hi=>?_) (by rw[aA];show _+1<=_;exact Nat.succ_le_succ l1))⟩;show rAt ((swR rs p q).set p _) i=_;rw[Ed d6,sa,sa,gN];unfold bgA bgP;split
   .rfl
   .rfl
 .by_cases e:q=p
  .refine swF (by show xr true (decide (_=_))=false;rw[Zs (by lia)];rfl) (go [.la a (rs.map rwT),.la b ss,.fz (.int p),.fz (.int q),.fz (.int k),.und] ⟨ss,?_,by exact Xs _⟩);unfold swR;rw[ZY e]
  .refine swT (by show xr true (decide (_=_))=true;rw[Zp (by lia)];rfl) ⟨rs,ss,.swap p q,wd,rfl,rfl,h,⟨hp,hq⟩,by lia,go [.la a ((vC rs (.swap p q)).map rwT),.la b (ss++[stT (.swap p q)]),.fz (.int p),.fz (.int q),.fz (.int k),.und] ⟨ss++[stT (.swap p q)],?_,by simp⟩⟩;unfold swR;rw[ZZ e]
open Rw (vr iB gM mQ gcL fW f9 qX jT Big o8 jd lW jq mC eV)
def clA(rs:List Row)(p k i:Nat):Row:=if i=p\/vr (rAt rs i) k=0 then rAt rs i else iB (mQ (rAt rs i) (rAt rs p) (pr (0-vr (rAt rs i) k)))
def tZ:SO:=λtss ts R=>∃(rs:List Row)(ss:List T)(wd p k:Nat),tss=[rs.map rwT,ss]/\ts=[.int p,.int k]/\Rws rs wd/\p<rs.length/\k<wd/\ss.length+rs.length<sizeLine/\(∀i,i<rs.length->Big NN (clA rs p k i)) /\
 ∀eI iF,eI.length=rs.length->(∀i,i<rs.length->rAt eI i=clA rs p k i)->iF.length<=ss.length+rs.length->R [eI.map rwT,iF]
theorem acq{rs:List Row}{p k i wd:Nat}(h:Rws rs wd)(hp:p<rs.length)(hi:i<rs.length):(clA rs p k i).1.length=wd:=by
 unfold clA;split
 .exact h.wds _ (dW hi)
 .rw[jq];show(List.zipWith _ (rAt rs i).1 (rAt rs p).1).length=wd;rw[TZ,h.wds _ (dW hi),h.wds _ (dW hp),UX]
theorem Dm(F:Fun K jm jm pK f fd)(T:Txt K mg D)(tR:OkF P w K mg base 5 uJ vq (spO K Gu))(jD:OkT P w K mg base 3 j7 kO rZ)(nZ:OkT P w K mg base 3 rF rE za):b_ P w K mg base CX0 6 f fd jt (spO K tZ):=by
 refine F.okO mY (λtss ts R ⟨rs,ss,wd,p,k,e1,e2,_⟩=>by rw[e1,e2];rfl) (by decide) λah A outer s H E hr=>?_;refine⟨_,(bG (dO VY rfl (dX (by rfl) T.fU (bw (Ro 0 (bM cJ (by rfl) T.cZ WG (bw (qv 0) bA))) bA)) (bZ (n:=99) 4 mY.nd (Or.inl rfl))
  (bG (cB (QW.qt (Ye (cu (pF hr.units) (qv 4) (qv 2)) (Um (cu (pF hr.units) (bI (bI (yt 0 (qv 4)) bx) (qv 3)) bx))))
  (bC (bO 5 mY.nd (Or.inl rfl) (bH nZ hr.md (by rfl) (bw (jL (by rfl) T.ig T.fB) (bw (bH jD hr.md (by rfl) (bw (yt 0 (qv 4)) (bw (qv 3) bA))) bA))))
  (bG (Ft 0 1 tR hr.md (by rfl) (bw (cT (bw lF (bw (qv 4) (bw (qv 2) (bw (qv 5) bA))))) bA))))
  bQ)))),?_⟩
 rintro as tss ts R tl ⟨rs,ss,wd,p,k,rfl,rfl,h,hp,hk,hl,hb,ok⟩;obtain⟨a,b,rfl⟩:=Xq tl;have lm:(rs.map rwT).length=rs.length:=ak _;have few:=h.few;refine⟨trivial,⟨by lia,by lia⟩,rM (λn o=>∃c8 dA x y,o=[.la a (c8.map rwT),.la b dA,.fz (.int p),.fz (.int k),x,y]/\c8.length=rs.length/\(∀i,i<rs.length->rAt c8 i=if i<n then clA rs p k i else rAt rs i)/\dA.length<=ss.length+n) ⟨rs,ss,_,_,rfl,rfl,λi _=>by rw[ZZ (WV _)],aG _⟩ ?_ ?_⟩
 .rintro n _ hn ⟨c8,dA,x,y,rfl,l1,gy,s1⟩;have hn:n<rs.length:=by rw[lm]at hn;lia
  have rn:rAt c8 n=rAt rs n:=by rw[gy n hn,ZZ (X9 _)]
  have rp:rAt c8 p=rAt rs p:=by
   rw[gy p hp];split
   .unfold clA;rw[ZY (.inl rfl)]
   .rfl
  have h1:Rws c8 wd:=h.of l1 λi hi=>by
   rw[gy i hi];split
   .exact⟨hb i hi,acq h hp hi⟩
   .exact⟨h.big _ (dW hi),h.wds _ (dW hi)⟩
  have stay:clA rs p k n=rAt rs n->∀i,i<rs.length->rAt c8 i=if i<n+1 then clA rs p k i else rAt rs i:=λe i hi=>by
   rw[gy i hi];by_cases c:i=n
   .subst c;rw[ZZ (X9 _),ZY (X1 _),e]
   .by_cases d:i<n
    .rw[ZY d,ZY (WU _ d)]
    .rw[ZZ d,ZZ (by lia)]
  by_cases e:n=p
  .exact swF (by show xr true (decide (_=_))=false;rw[Zs (by lia)];rfl) ⟨c8,dA,_,_,rfl,l1,stay (ZY (.inl e)),by lia⟩
  .have gm:n<c8.length:=by lia
   have hk1:k<(rAt c8 n).1.length:=by rw[h1.wds _ (dW gm)];exact hk
   have v0:=ZX (h1.big _ (dW gm)).pos hk1;refine swT (by show xr true (decide (_=_))=true;rw[Zp (by lia)];rfl) ⟨_,tL gm,_,dJ (aj hk1),?_⟩;by_cases c:(rAt c8 n).1[k]'hk1=0
   .exact swF (by show xr true (decide (_=_))=false;rw[Zs c];rfl) ⟨c8,dA,_,_,rfl,l1,stay (ZY (.inr (by rw[<- rn];exact v0.mpr c))),by lia⟩
   .have fn:=h1.fn gm hk;refine swT (by show xr true (decide (_=_))=true;rw[Zp c];rfl) ⟨_,tL gm,_,k,rfl,hk1,h1.big _ (dW gm),0,_,rfl,bq0,fn.bq,by show Bd (1*_);rw[TU];exact bdN fn.d,c8,dA,.add n p (0-vr (rAt c8 n) k),wd,rfl,rfl,h1,⟨gm,by lia,fn.neg⟩,by lia,vC c8 (.add n p (0-vr (rAt c8 n) k)),dA++[stT (.add n p (0-vr (rAt c8 n) k))],_,_,rfl,by rw[Fq];exact l1,λi hi=>?_,by rw[aA];show _+1<=_;lia⟩;show rAt (c8.set n _) i=_;rw[Ed gm,rn,rp];by_cases d:i=n
    .rw[ZY d,d,ZY (X1 _)];unfold clA;rw[ZZ λz=>z.elim e λz=>c (v0.mp (by rw[rn];exact z))]
    .rw[ZZ d,gy i hi];by_cases d':i<n
     .rw[ZY d',ZY (WU _ d')]
     .rw[ZZ d',ZZ (by lia)]
 .rintro _ ⟨c8,dA,x,y,rfl,l1,gy,s1⟩;rw[lm]at gy s1;exact fin2 _ _ (ok c8 dA l1 (λi hi=>by rw[gy i hi,ZY (by lia)]) (by lia))
open Rw (vr iB gM mQ gcL fW f9 qX jT Big o8 jd lW jq mC eV sg fZ fJ cj gk gO)
theorem YF(c:Rat):(((pr c).1:Int):Rat)/(((pr c).2:Int):Rat)=c:=by rw[<- TR];exact rd c
theorem N6(c:Rat):0<(pr c).2:=by have:=c.den_pos;show(0:Int)<(c.den:Nat);lia
theorem Vk{r:Row}(h:0<r.2):0<(iB r).2:=Zzv h (XY (fW h)) f9.1
theorem afi{r:Row}{k:Nat}(h:0<r.2)(h0:vr r k≠0):0<(bgP r k).2/\(bgP r k).1.length=r.1.length/\(gcL (bgP r k).1 (bgP r k).2=1\/bgP r k=r)/\∀j,vr (bgP r k) j*vr r k=vr r j:=by
 unfold bgP;by_cases e:vr r k=1
 .rw[ZY e];exact⟨h,rfl,.inr rfl,λj=>by rw[e,Rat.mul_one]⟩
 .rw[ZZ e];have tp:0<(gM r (pr (1/vr r k))).2:=XZ h (N6 _);refine⟨Vk tp,by rw[jq];unfold gM;rw[ak],.inl (jT tp),λj=>?_⟩;rw[o8 tp,jd h (N6 _),YF]
  grind
theorem aeN{rs:List Row}{p k i:Nat}(hi:0<(rAt rs i).2)(hp:0<(rAt rs p).2)(hl:(rAt rs i).1.length=(rAt rs p).1.length):0<(clA rs p k i).2/\(gcL (clA rs p k i).1 (clA rs p k i).2=1\/clA rs p k i=rAt rs i)/\∀j,vr (clA rs p k i) j=if i=p then vr (rAt rs p) j else vr (rAt rs i) j-vr (rAt rs i) k*vr (rAt rs p) j:=by
 unfold clA;by_cases e:i=p
 .rw[ZY (.inl e)];exact⟨hi,.inr rfl,λj=>by rw[ZY e,e]⟩
 .by_cases z:vr (rAt rs i) k=0
  .rw[ZY (.inr z)];exact⟨hi,.inr rfl,λj=>by rw[ZZ e,z];grind⟩
  .rw[ZZ λy=>y.elim e z];have tp:0<(mQ (rAt rs i) (rAt rs p) (pr (0-vr (rAt rs i) k))).2:=by
    have hB:=XZ hp (N6 (0-vr (rAt rs i) k));exact XZ hi (Zzv hB (XY (mj (WS hB))) (JP _ _))
   refine⟨Vk tp,.inl (jT tp),λj=>?_⟩;rw[o8 tp,lW hi hp (N6 _) hl,YF,ZZ e]
   grind
structure FnB(M:Nat)(c:Rat):Prop where
 n:c.num.natAbs<=M
 d:c.den<=M
theorem FnB.vr{M:Nat}{r:Row}{k:Nat}(h:Big M r)(hk:k<r.1.length):FnB M (Rw.vr r k):=by
 have hb:=h.pos;have hg:=Zzw r.1[k] (WS hb);have l:=uX (t:=r.1[k]) (c:=((Int.gcd r.1[k] r.2:Nat):Int)) (WS hb) (by lia) (by lia) (XZ (by lia) hb);have e:=jo l (WS hb);rw[Yv hk];injection e with e;injection e with e1 e;injection e with e2 e;injection e1 with e1;injection e2 with e2;exact⟨by rw[<- e1];exact aL l.lx (h.top _ (aU _)),by have:=l.ly;have:=h.bot;omega⟩
structure B0(rs0:List Row)(wd N:Nat):Prop where
 big:∀i,i<rs0.length->Big N (rAt rs0 i)/\(rAt rs0 i).1.length=wd
 one:1<=N
 mb:(2*rs0.length*N)^rs0.length<=NN
 nn:N<=NN
abbrev aT(rs0:List Row)(i j:Nat):Int:=(rAt rs0 i).1.getD j 0
abbrev aB(rs0:List Row)(i:Nat):Int:=(rAt rs0 i).2
structure Gs(rs0:List Row)(wd N c:Nat)(rs:List Row):Prop where
 len:rs.length=rs0.length
 row:∀i,i<rs0.length->0<(rAt rs i).2/\(rAt rs i).1.length=wd/\(gcL (rAt rs i).1 (rAt rs i).2=1\/Big N (rAt rs i))
 st:∃pv s,eV (aT rs0) (aB rs0) rs0.length wd (λi j=>vr (rAt rs i) j) c pv s
 unit:∀i l,i<rs0.length->l<c->vr (rAt rs i) l=if i=l then 1 else 0
 ker:∀x:Nat->Rat,(∀i,i<rs0.length->sg (λj=>vr (rAt rs i) j*x j) wd=0)->∀i,i<rs0.length->sg (λj=>vr (rAt rs0 i) j*x j) wd=0
section
variable{rs0 rs:List Row}{wd N c q:Nat}
theorem B0.zero(h:B0 rs0 wd N):Gs rs0 wd N 0 rs0:=⟨rfl,λi hi=>⟨(h.big i hi).1.pos,(h.big i hi).2,.inr (h.big i hi).1⟩,⟨λ_=>0,id,eV.zero λi hi=>(h.big i hi).1.pos⟩,λ_ _ _ z=>absurd z (WV _),λ_ z=>z⟩
theorem alq{m N:Nat}(hm:1<=m)(h1:1<=N):N<=(2*m*N)^m:=by
  have x:N<=2*m*N:=Zzu _ (by lia);have y:1<=2*m*N:=VX (show 1<=2*m by lia) h1
  calc N<=(2*m*N)^1:=by rw[Nat.pow_one];exact x
    _<=_:=XT y hm
theorem B0.sbigM(h:B0 rs0 wd N){R:Nat->Nat->Rat}{p:Nat}(st:∃pv s,eV (aT rs0) (aB rs0) rs0.length wd R p pv s){i:Nat}(hi:i<rs0.length){r:Row}(hr:0<r.2)(hw:r.1.length=wd)(g:gcL r.1 r.2=1\/Big N r)(e:∀j,j<wd->vr r j=R i j):Big ((2*rs0.length*N)^rs0.length) r:=by
 rcases g with g|g
 .obtain⟨pv,s,st⟩:=st;obtain⟨v,u,u0,ub,vb,ee⟩:=st.bound h.one (λi j hi hj=>by
   have b:=h.big i hi;show((rAt rs0 i).1.getD j 0).natAbs<=N;rw[au,aj (by rw[b.2];exact hj)];exact b.1.top _ (aU _)) (λi hi=>⟨(h.big i hi).1.pos,(h.big i hi).1.bot⟩) hi
  exact mC hr g hw u0 ub vb λj hj=>by rw[e j hj];exact ee j hj
 .exact g.le (alq (by lia) h.one)
theorem B0.sbig(h:B0 rs0 wd N){R:Nat->Nat->Rat}{p:Nat}(st:∃pv s,eV (aT rs0) (aB rs0) rs0.length wd R p pv s){i:Nat}(hi:i<rs0.length){r:Row}(hr:0<r.2)(hw:r.1.length=wd)(g:gcL r.1 r.2=1\/Big N r)(e:∀j,j<wd->vr r j=R i j):Big NN r:=(h.sbigM st hi hr hw g e).le h.mb
theorem Gs.bigM(g:Gs rs0 wd N c rs)(h:B0 rs0 wd N){i:Nat}(hi:i<rs0.length):Big ((2*rs0.length*N)^rs0.length) (rAt rs i):=h.sbigM g.st hi (g.row i hi).1 (g.row i hi).2.1 (g.row i hi).2.2 λ_ _=>rfl
theorem Gs.big(g:Gs rs0 wd N c rs)(h:B0 rs0 wd N){i:Nat}(hi:i<rs0.length):Big NN (rAt rs i):=h.sbig g.st hi (g.row i hi).1 (g.row i hi).2.1 (g.row i hi).2.2 λ_ _=>rfl
theorem U0{p q i m:Nat}(hp:p<m)(hq:q<m)(hi:i<m):Rw.sw p q i<m:=by
 unfold Rw.sw;split
 .exact hq
 .split<;>omega
theorem adl(p q i:Nat):Rw.sw p q (Rw.sw p q i)=i:=by
 unfold Rw.sw;by_cases a:i=p
 .subst a;rw[ZY rfl];by_cases b:q=i
  .rw[ZY b,b]
  .rw[ZZ b,ZY rfl]
 .by_cases b:i=q
  .subst b;rw[ZZ a,ZY rfl,ZY rfl]
  .rw[ZZ a,ZZ b,ZZ a,ZZ b]
theorem Gs.next(g:Gs rs0 wd N c rs)(h:B0 rs0 wd N)(hc:c<rs0.length)(cw:c<wd)(hq:c<=q)(c9:q<rs0.length)(h0:vr (rAt rs q) c≠0){rs2:List Row}(e2:∀i,i<rs0.length->rAt rs2 i=bgA rs c q c i) :
  (∀i,i<rs0.length->Big NN (rAt rs2 i)/\(rAt rs2 i).1.length=wd)/\(∀i,i<rs0.length->Big NN (clA rs2 c c i))/\∀gS:List Row,gS.length=rs0.length->(∀i,i<rs0.length->rAt gS i=clA rs2 c c i)->Gs rs0 wd N (c+1) gS:=by
 have gN:Rw.sw c q c=q:=ZY rfl;obtain⟨b1,b2,b3,b4⟩:=afi (g.row q c9).1 h0;have ec:rAt rs2 c=bgP (rAt rs q) c:=by rw[e2 c hc];exact ZY rfl
 have ei:∀i,i<rs0.length->i≠c->rAt rs2 i=rAt rs (Rw.sw c q i):=λi hi ne=>by rw[e2 i hi];exact ZZ ne
 have ci:∀i,i<rs0.length->0<(rAt rs2 i).2/\(rAt rs2 i).1.length=wd/\(gcL (rAt rs2 i).1 (rAt rs2 i).2=1\/Big N (rAt rs2 i)):=λi hi=>by
  by_cases e:i=c
  .rw[e,ec];refine⟨b1,by rw[b2];exact(g.row q c9).2.1,b3.elim .inl λz=>?_⟩;rw[z];exact(g.row q c9).2.2
  .rw[ei i hi e];exact g.row _ (U0 hc c9 hi)
 have cl:=λi(hi:i<rs0.length)=>aeN (rs:=rs2) (p:=c) (k:=c) (i:=i) (ci i hi).1 (ci c hc).1 (by rw[(ci i hi).2.1,(ci c hc).2.1]);have clw:∀i,i<rs0.length->(clA rs2 c c i).1.length=wd:=λi hi=>by
  unfold clA;split
  .exact(ci i hi).2.1
  .rw[jq];show(List.zipWith _ (rAt rs2 i).1 (rAt rs2 c).1).length=wd;rw[TZ,(ci i hi).2.1,(ci c hc).2.1,UX]
 have clg:∀i,i<rs0.length->gcL (clA rs2 c c i).1 (clA rs2 c c i).2=1\/Big N (clA rs2 c c i):=λi hi=>(cl i hi).2.1.elim .inl λz=>by rw[z];exact(ci i hi).2.2
 have Vc:∀j,vr (clA rs2 c c c) j*vr (rAt rs q) c=vr (rAt rs q) j:=λj=>by
  rw[(cl c hc).2.2 j,ZY rfl,ec];exact b4 j
 have Vi:∀i,i<rs0.length->i≠c->∀j,vr (clA rs2 c c i) j=vr (rAt rs (Rw.sw c q i)) j-vr (rAt rs (Rw.sw c q i)) c*vr (clA rs2 c c c) j:=λi hi ne j=>by
  rw[(cl i hi).2.2 j,(cl c hc).2.2 j,ZZ ne,ZY rfl,ei i hi ne]
 have di:∃pv s,eV (aT rs0) (aB rs0) rs0.length wd (λi j=>vr (clA rs2 c c i) j) (c+1) pv s:=by
  obtain⟨pv,s,st⟩:=g.st;have s1:=st.swap hq c9 (R':=λi j=>vr (rAt rs (Rw.sw c q i)) j) λi j _ _=>rfl;exact⟨_,_,s1.pivot hc (λi hi=>(h.big i hi).1.pos) cw (by show vr (rAt rs (Rw.sw c q c)) c≠0;rw[gN];exact h0) (R':=λi j=>vr (clA rs2 c c i) j) (λj _=>by show vr (clA rs2 c c c) j*vr (rAt rs (Rw.sw c q c)) c=vr (rAt rs (Rw.sw c q c)) j;rw[gN];exact Vc j) λi j hi ne _=>Vi i hi ne j⟩
 have oz:∀i,i<rs0.length->Big NN (clA rs2 c c i):=λi hi=>h.sbig di hi (cl i hi).1 (clw i hi) (clg i hi) λ_ _=>rfl;refine⟨λi hi=>⟨?_,(ci i hi).2.1⟩,oz,λgS l3 e3=>⟨l3,λi hi=>by rw[e3 i hi];exact⟨(cl i hi).1,clw i hi,clg i hi⟩,?_,λi l hi hl=>?_,λx hx=>g.ker x λi hi=>?_⟩⟩
 .by_cases e:i=c
  .rw[e];refine h.sbig di hc (ci c hc).1 (ci c hc).2.1 (ci c hc).2.2 λj _=>?_;show _=vr (clA rs2 c c c) j;rw[(cl c hc).2.2 j,ZY rfl]
  .rw[ei i hi e];exact g.big h (U0 hc c9 hi)
 .obtain⟨pv,s,st⟩:=di;exact⟨pv,s,st.congr λi j hi=>by rw[e3 i hi]⟩
 .rw[e3 i hi];have v0:l<c->vr (clA rs2 c c c) l=0:=λhl=>by
   have:=Vc l;rw[g.unit q l c9 hl,ZZ (by lia)]at this
   grind
  have v1:vr (clA rs2 c c c) c=1:=by
   have:=Vc c
   grind
  by_cases e:i=c
  .subst e;by_cases z:l<i
   .rw[v0 z,ZZ (VQ z)]
   .rw[show l=i by lia,v1,ZY rfl]
  .rw[Vi i hi e l];by_cases z:l<c
   .rw[v0 z,g.unit _ l (U0 hc c9 hi) z];have:(Rw.sw c q i=l)=(i=l):=by
     unfold Rw.sw;rw[ZZ e];split
     .exact propext ⟨λ_=>by lia,λ_=>by lia⟩
     .rfl
    simp only[this]
    grind
   .rw[show l=c by lia,v1,ZZ e]
    grind
 .have nv:=hx c hc;rw[e3 c hc]at nv;by_cases e:i=q
  .rw[e,cj (g:=λj=>vr (rAt rs q) c*(vr (clA rs2 c c c) j*x j)) λj _=>by rw[<- Vc j];grind,fJ,nv]
   grind
  .have hs:=U0 hc c9 hi;have ne:Rw.sw c q i≠c:=λz=>by
    have:=adl c q i;rw[z,gN]at this;exact e this.symm
   have hi0:=hx _ hs;rw[e3 _ hs]at hi0;rw[cj (g:=λj=>vr (clA rs2 c c (Rw.sw c q i)) j*x j+vr (rAt rs i) c*(vr (clA rs2 c c c) j*x j)) λj _=>by rw[Vi _ hs ne,adl];grind,fZ,fJ,nv,hi0]
   grind
theorem Gs.found(g:Gs rs0 wd N c rs)(hc:c<rs0.length)(cw:c<wd)(inj:∀x:Nat->Rat,(∀j,rs0.length<=j->x j=0)->(∀i,i<rs0.length->sg (λj=>vr (rAt rs0 i) j*x j) wd=0)->∀j,j<rs0.length->x j=0):¬∀i,c<=i->i<rs0.length->vr (rAt rs i) c=0:=λhz=>by
 have:=inj (λj=>if j<c then -(vr (rAt rs j) c)else if j=c then 1 else 0) (λj hj=>by rw[ZZ (by lia),ZZ (by lia)]) (g.ker _ λi hi=>?_) c hc
 .rw[ZZ (X9 _),ZY rfl]at this;exact absurd this (by decide)
 .rw[cj (g:=λj=>(if j=i then 1 else 0)*(if j<c then -(vr (rAt rs j) c)else 0)+(if j=c then 1 else 0)*vr (rAt rs i) c) λj hj=>?_,fZ,gO (v:=λj=>if j<c then -(vr (rAt rs j) c)else 0),gO (v:=λ_=>vr (rAt rs i) c),ZY cw]
  .by_cases e:i<c
   .rw[ZY (Ts e cw),ZY e]
    grind
   .rw[hz i (Up e) hi];rw[ZZ e]
    grind
  .by_cases a:j<c
   .rw[ZY a,ZY a,g.unit i j hi a,ZZ (show j≠c by exact aQ a)];by_cases b:i=j
    .rw[ZY b,ZY b.symm];grind
    .rw[ZZ b,ZZ (Ne.symm b)];grind
   .rw[ZZ a,ZZ a];by_cases b:j=c
    .rw[ZY b,b];grind
    .rw[ZZ b];grind
theorem Gs.answer(g:Gs rs0 (rs0.length+1) N rs0.length rs){i:Nat}(hi:i<rs0.length):sg (λj=>vr (rAt rs0 i) j*vr (rAt rs j) rs0.length) rs0.length=vr (rAt rs0 i) rs0.length:=by
 have:=g.ker (λj=>if j<rs0.length then vr (rAt rs j) rs0.length else -1) (λi hi=>?_) i hi
 .show _=_;rw[show sg (λj=>vr (rAt rs0 i) j*(if j<rs0.length then vr (rAt rs j) rs0.length else -1)) (rs0.length+1)=sg (λj=>vr (rAt rs0 i) j*(if j<rs0.length then vr (rAt rs j) rs0.length else -1)) rs0.length+vr (rAt rs0 i) rs0.length*(if rs0.length<rs0.length then vr (rAt rs rs0.length) rs0.length else -1)from rfl,ZZ (X9 _),cj (g:=λj=>vr (rAt rs0 i) j*vr (rAt rs j) rs0.length) λj hj=>by rw[ZY hj]]at this
  grind
 .rw[show sg (λj=>vr (rAt rs i) j*(if j<rs0.length then vr (rAt rs j) rs0.length else -1)) (rs0.length+1)=sg (λj=>vr (rAt rs i) j*(if j<rs0.length then vr (rAt rs j) rs0.length else -1)) rs0.length+vr (rAt rs i) rs0.length*(if rs0.length<rs0.length then vr (rAt rs rs0.length) rs0.length else -1)from rfl,ZZ (X9 _),cj (g:=λj=>(if j=i then 1 else 0)*vr (rAt rs j) rs0.length) λj hj=>by rw[ZY hj,g.unit i j hi hj];simp only[eq_comm],gO (v:=λj=>vr (rAt rs j) rs0.length),ZY hi]
  grind
end
open Rw (vr iB gM mQ gcL fW f9 qX jT Big o8 jd lW jq mC eV sg fZ fJ cj gk gO)
abbrev lG(r:List Rat):Row:=(tops (gP 1 r) r,((gP 1 r:Nat):Int))
abbrev HN(r:List Rat):T:=.lst (r.map frR)
theorem acS(r:List Rat):(lG r).1.length=r.length:=ak _
theorem Ru(r:List Rat)(j:Nat):vr (lG r) j=r.getD j 0:=by
 unfold vr;have hB:=mU r Tx;show(((tops (gP 1 r) r).getD j 0:Int):Rat)/(((gP 1 r:Nat):Int):Rat)=_;unfold tops;rw[au,au,aq];by_cases h:j<r.length
 .rw[aj h];show((r[j].num*((gP 1 r/r[j].den:Nat):Int):Int):Rat)/_=r[j];obtain⟨k,hk⟩:=(mL r (n:=1)).2 r[j] (aU h);have hd:=r[j].den_pos;rw[show gP 1 r/r[j].den=k by rw[hk];exact Nat.mul_div_cancel_left _ hd];have ku:k≠0:=λz=>by rw[z]at hk;lia
  rw[<- TR,hk,TW,Rat.divInt_mul_right (by lia)];exact rd _
 .rw[aM (Nat.not_lt.mp h)];show((0:Int):Rat)/_=0
  grind
structure Sys(ac:List (List Rat))(N:Nat):Prop where
 wid:∀r∈ac,r.length=ac.length+1
 few:ac.length<=100
 lev:∀r∈ac,Big N (lG r)
 num:∀r∈ac,∀c∈r,Bd c.num
 one:1<=N
 mb:(2*ac.length*N)^ac.length<=NN
 nn:N<=NN
 inj:∀x:Nat->Rat,(∀j,ac.length<=j->x j=0)->(∀r∈ac,sg (λj=>r.getD j 0*x j) (ac.length+1)=0)->∀j,j<ac.length->x j=0
theorem Mf{ac:List (List Rat)}{i:Nat}(h:i<ac.length):rAt (ac.map lG) i=lG ac[i]:=by
 have:=wW (rs:=ac.map lG) (i:=i) (by rw[ak];exact h);rw[aq,aj h]at this;injection this with this;exact this.symm
theorem Sys.b0{ac:List (List Rat)}{N:Nat}(h:Sys ac N):B0 (ac.map lG) (ac.length+1) N:=⟨λi hi=>by
 rw[ak]at hi;rw[Mf hi];exact⟨h.lev _ (aU hi),by rw[acS];exact h.wid _ (aU hi)⟩,h.one,by rw[ak];exact h.mb,h.nn⟩
theorem Rws.mk'{rs:List Row}{wd:Nat}(hr:∀i,i<rs.length->Big NN (rAt rs i)/\(rAt rs i).1.length=wd)(h1:rs.length<=100)(h2:wd<=1000):Rws rs wd:=by
 have:∀r∈rs,Big NN r/\r.1.length=wd:=λr hm=>by
  obtain⟨i,hi,e0⟩:=List.getElem_of_mem hm;have e:=wW hi;rw[aj hi,e0]at e;injection e with e;rw[e];exact hr i hi
 exact⟨λr hm=>(this r hm).1,λr hm=>(this r hm).2,h1,h2⟩
theorem Sys.rws{ac:List (List Rat)}{N c:Nat}{rs:List Row}(h:Sys ac N)(g:Gs (ac.map lG) (ac.length+1) N c rs):Rws rs (ac.length+1):=by
 have l:=g.len;have few:=h.few;rw[ak]at l;refine Rws.mk' (λi hi=>?_) (aL (WH l) few) (by lia);have eP:i<(ac.map lG).length:=by rw[g.len]at hi;exact hi
 exact⟨g.big h.b0 eP,(g.row i eP).2.1⟩
theorem aeJ{ac:List (List Rat)}{i n:Nat}(hi:i<ac.length)(x:Nat->Rat):sg (λj=>vr (rAt (ac.map lG) i) j*x j) n=sg (λj=>ac[i].getD j 0*x j) n:=cj λj _=>by rw[Mf hi,Ru]
theorem Sys.inj'{ac:List (List Rat)}{N:Nat}(h:Sys ac N):∀x:Nat->Rat,(∀j,(ac.map lG).length<=j->x j=0)->(∀i,i<(ac.map lG).length->sg (λj=>vr (rAt (ac.map lG) i) j*x j) (ac.length+1)=0)->∀j,j<(ac.map lG).length->x j=0:=by
 rw[ak];intro x h1 h2;refine h.inj x h1 λr hr=>?_;obtain⟨i,hi,rfl⟩:=List.getElem_of_mem hr;rw[<- aeJ hi];exact h2 i hi
def I8(m:Nat)(y:Nat->Rat):List T:=(List.range m).map λi=>.lst ((List.range (m+1)).map λj=>frR (if j<m then if i=j then 1 else 0 else y i))
theorem adH{ac:List (List Rat)}{N:Nat}{rs:List Row}(h:Sys ac N)(g:Gs (ac.map lG) (ac.length+1) N ac.length rs):(rs.map λr=>T.lst ((List.range (ac.length+1)).map λk=>frR (vr r k)))=I8 ac.length λi=>vr (rAt rs i) ac.length:=by
 have l:=g.len;rw[ak]at l;unfold I8;refine TK (by rw[ak,ak,WJ,l]) λi h1 h2=>?_;rw[ak]at h1;rw[UV,UV,QU];have e:=wW h1;rw[aj h1]at e;injection e with e;rw[e]
 congr 1
 refine UQ λj hj=>?_;have hj:=List.mem_range.mp hj;by_cases c:j<ac.length
 .rw[ZY c,g.unit i j (by rw[ak];exact aR h1 (WH l)) c]
 .rw[ZZ c,show j=ac.length by lia]
theorem aeZ{ac:List (List Rat)}{N:Nat}{rs:List Row}(g:Gs (ac.map lG) (ac.length+1) N ac.length rs):∀r∈ac,sg (λj=>r.getD j 0*vr (rAt rs j) ac.length) ac.length=r.getD ac.length 0:=λr hr=>by
 obtain⟨i,hi,rfl⟩:=List.getElem_of_mem hr;have l:(ac.map lG).length=ac.length:=ak _;have:=Gs.answer (rs0:=ac.map lG) (N:=N) (rs:=rs) (by rw[l];exact g) (i:=i) (by rw[l];exact hi);rw[l,Mf hi,Ru]at this;rw[<- this];exact cj λj _=>by rw[Ru]
def Hl:ST:=λts R=>∃(ac:List (List Rat))(N:Nat),ts=[.lst (ac.map HN),.int ac.length]/\Sys ac N/\∀(ss:List T)(y:Nat->Rat),(∀r∈ac,sg (λj=>r.getD j 0*y j) ac.length=r.getD ac.length 0)->(∀i,i<ac.length->FnB ((2*ac.length*N)^ac.length) (y i))->R (.fz (.tup [.lst ss,.lst (I8 ac.length y)]))
theorem Tp(F:Fun K tX tX wR f fd)(T:Txt K mg D)(wV:OkT P w K mg base 2 vY v9 Gr)(rT:OkT P w K mg base 1 lV lX xX)(vV:OkF P w K mg base 6 nq nW (spO K zQ))(pL:OkF P w K mg base 6 jm jt (spO K tZ))(pJ:OkT P w K mg base 3 jr ji uc):b_ P w K mg base CX0 7 f fd sX (spT K Hl):=by
 refine F.okT jy (λts R hP=>by obtain⟨_,_,e,_⟩:=hP;exact e ▸ rfl) λah A outer s H E hr=>?_;refine⟨_,(bC (aeh (bF wR) Cp Cp ["row"] (cF (qv 0)) (gj (i:=0)) cG (bH wV hr.md (by rfl) (bw (qv 0) bA)) (iJ (i:=2) jy.nd rfl (Or.inl rfl)))
  (bC (jz 3 jy.nd (Or.inl rfl) (cY bA))
  (bC (bO 4 jy.nd (Or.inl rfl) bx)
  (bC (dO VY rfl (dX (by rfl) T.fU (bw (qv 1) bA)) (bZ (n:=99) 5 jy.nd (Or.inl rfl))
  (bC (bO 6 jy.nd (Or.inl rfl) (Ro 2 (bH rT hr.md (by rfl) (bw (qv 2) (bw (qv 4) (bw (qv 5) bA))))))
  (bG (cB (cu Fd (qv 6) fX)
  (bC (Ft 2 3 vV hr.md (by rfl) (bw (qv 4) (bw (qv 6) (bw (qv 5) bA))))
  (bC (Ft 2 3 pL hr.md (by rfl) (bw (qv 4) (bw (qv 5) bA)))
  (bG (adV 4 jy.nd (Or.inl rfl) aeL bx))))
  bQ))))
  (bG (GD 3 (GD 2 (bL (cT (bw (qv 3) (bw (bH pJ hr.md (by rfl) (bw (qv 2) bA)) bA))))))))))),?_⟩
 rintro _ R ⟨ac,N,rfl,h,ok⟩;have lm:(ac.map HN).length=ac.length:=ak _;have ll:(ac.map lG).length=ac.length:=ak _;have few:=h.few;have b0:=h.b0;have e0:(ac.map λr=>rwT (lG r))=(ac.map lG).map rwT:=by rw[WP];rfl
 refine⟨by rw[lm];exact aL few (by decide),comp_map HN (λr=>rwT (lG r)) ac (λr hr N' M hN=>⟨r,rfl,by rw[h.wid r hr];lia,h.num r hr,bdN (aL (h.lev r hr).bot h.nn),hN⟩) ?_⟩;rw[e0];refine⟨⟨by lia,by lia⟩,rM (λc o=>∃rs ss x y,o=[.fz (.lst (ac.map HN)),.fz (.int ac.length),.l1 (rs.map rwT),.l1 ss,.fz (.int (c:Nat)),x,y]/\Gs (ac.map lG) (ac.length+1) N c rs/\ss.length<=102*c) ⟨_,[],_,_,rfl,b0.zero,aG _⟩ ?_ ?_⟩
 .rintro c _ hc ⟨rs,ss,x,y,rfl,g,sl⟩;have hc:c<ac.length:=by lia
  have dk:c<(ac.map lG).length:=by lia
  have l:=g.len;have hR:=h.rws g;have big:(20000:Nat)<sizeLine:=by decide
  refine⟨rs,_,c,c,rfl,hR,by lia,by exact WU _ hc,λq h1 h2 h3=>⟨trivial,rs,ss,_,c,q,c,rfl,rfl,hR,by exact Y3 h1 h2,h2,by exact WU _ hc,h3,by lia,λrs2 ss2 l2 e2 s2=>?_⟩,λz=>(g.found dk (WU _ hc) h.inj' λi a b=>z i a (by lia)).elim⟩;obtain⟨n1,n2,n3⟩:=g.next b0 dk (WU _ hc) h1 (aR h2 (WH l)) h3 (rs2:=rs2) λi hi=>e2 i (by lia);exact⟨rs2,ss2,_,c,c,rfl,rfl,Rws.mk' (λi hi=>n1 i (by lia)) (by lia) (by lia),by lia,by exact WU _ hc,by lia,λi hi=>n2 i (by lia),λgS ss3 l3 e3 s3=>⟨gS,ss3,.fz (.int c),.fz (.int q),rfl,n3 gS (by lia) λi hi=>e3 i (by lia),by lia⟩⟩
 .rintro _ ⟨rs,ss,x,y,rfl,g,sl⟩;have g:Gs (ac.map lG) (ac.length+1) N ac.length rs:=g;have hR:=h.rws g;have l:=g.len;refine⟨rs,_,rfl,hR,?_⟩;have:=ok ss _ (aeZ g) λi hi=>by
   have eP:i<(ac.map lG).length:=by lia
   have b:=g.bigM b0 eP;rw[ll]at b;exact FnB.vr b (by rw[(g.row i eP).2.1];exact X1 _)
  rw[<- adH h g]at this;exact this
open Rw (vr iB gM mQ gcL fW f9 qX jT Big o8 jd lW jq mC eV sg fZ fJ cj gk gO)
def CW:ST:=λts q=>∃(ac:List (List Rat))(n:Nat),ts=[.lst (ac.map HN)]/\(∀r∈ac,r.length=n)/\(ac=[]->n=0)/\q (.fz (.int n))
theorem P0(F:Fun K qj qj yL f fd)(T:Txt K mg D):b_ P w K mg base CX0 1 f fd qm (spT K CW):=by
 refine F.okT Q9 (λts R hP=>by obtain⟨_,_,e,_⟩:=hP;exact e ▸ rfl) λah A outer s H E hr=>?_;refine⟨_,(bC (cB (cu (go_eq hr.units) (bM cJ (by rfl) T.cZ WG (bw (qv 0) bA)) bx)
  (bG (bL bx))
  bQ)
  (bG (bL (bM cJ (by rfl) T.cZ WG (bw (bI (qv 0) bx) bA))))),?_⟩
 rintro _ R ⟨ac,n,rfl,h,h0,q⟩
 match ac,h,h0 with
 |[],h,h0=>rw[h0 rfl]at q;exact q
 |r::ac,h,h0 =>
  have e:(r.map frR).length=n:=by rw[ak];exact h r (aO ..)
  rw[<- e]at q;exact⟨_,rfl,q⟩
theorem Qa(i:Nat):∀m,(List.range m).filter (λj=>decide (j=i))=if i<m then[i]else[]
 |0=>by rw[ZZ (WV _)];rfl
 |m+1=>by
  rw[List.range_succ,List.filter_append,Qa i m];by_cases e:m=i
  .subst e;rw[ZZ (X9 _),ZY (X1 _)];simp
  .rw[List.filter_cons_of_neg (by simpa using e)];by_cases c:i<m
   .rw[ZY c,ZY (WU _ c)];rfl
   .rw[ZZ c,ZZ (by lia)];rfl
def u9:ST:=λts q=>∃(ac:List (List Rat))(aw:List Rat),ts=[.lst (ac.map HN),.lst (aw.map frR)]/\ac.length<=100/\(∀r∈ac,r.length<=100)/\q (.l1 ((List.zipWith (λr c=>r++[c]) ac aw).map HN))
theorem Gd(F:Fun K jZ jZ lN f fd)(T:Txt K mg D):b_ P w K mg base CX0 1 f fd jW (spT K u9):=by
 refine F.okT Gm (λts R hP=>by obtain⟨_,_,e,_⟩:=hP;exact e ▸ rfl) λah A outer s H E hr=>?_;refine⟨_,(bG (bL (d_ (bF lN) qz qz ["row","right"] (Rm (by rfl) T.Vh (bw (qv 0) (bw (qv 1) bA))) (eZ (n:=2) rfl (bT (gj (i:=0)) (bT (gj (i:=1)) dz))) cG (bJ cD (qv 0) (cY (bw (qv 1) bA)))))),?_⟩;rintro _ R ⟨ac,aw,rfl,h1,h2,q⟩;have zl:(ac.zip aw).length<=ac.length:=by rw[VT];exact Nat.min_le_left ..
 refine⟨by unfold Iu;rw[ak,VT,ak,ak];exact aL (aL (Nat.min_le_left ..) h1) (by decide),?_⟩;rw[zip_map];refine comp_map (λp=>.tup [HN p.1,frR p.2]) (λp=>HN (p.1++[p.2])) (ac.zip aw) (λp hp N M hN=>⟨rfl,?a,?b⟩) ?c
 case a =>
  have:=h2 _ (US hp).1;show(p.1.map frR).length+1<=sizeLine;rw[ak];exact aL (show _<=101 by exact Nat.succ_le_succ this) (by decide)
 case b =>
  show N (.lst (p.1.map frR++[frR p.2]));rw[show(p.1.map frR++[frR p.2])=(p.1++[p.2]).map frR by rw[bf];rfl];exact hN
 case c =>
  rw[List.map_zipWith]at q;rw[List.zip,List.map_zipWith];exact q
def Ay:ST:=λts q=>∃(m:Nat)(y:Nat->Rat),ts=[.lst (I8 m y),.int m]/\m<=100/\q (.l1 ((List.range m).map λi:Nat=>.int i))
theorem Ky(F:Fun K nR nR qg f fd)(T:Txt K mg D):b_ P w K mg base CX0 1 f fd oG (spT K Ay):=by
 refine F.okT oH (λts R hP=>by obtain⟨_,_,e,_⟩:=hP;exact e ▸ rfl) λah A outer s H E hr=>?_;refine⟨_,(bC (jz 2 oH.nd (Or.inl rfl) (cY bA))
  (bC (dO VY rfl (cF (qv 0)) (bZ (n:=99) 3 oH.nd (Or.inr rfl))
  (bC (p8 (bF qg) uy uy ["column"] (dX (by rfl) T.fU (bw (qv 1) bA)) (gj (i:=0)) (U6 (cu (pF hr.units) (bI (qv 4) (qv 0)) (jL (by rfl) T.ig T.fB))) (qv 0) (iJ (i:=4) oH.nd rfl (Or.inl rfl)))
  (bG (cB (cu JT (bM cJ (by rfl) T.cZ WG (bw (qv 4) bA)) bx)
  (bG (wg 2 (bI (qv 4) bx)))
  bQ))))
  (bG (oK 2)))),?_⟩
 rintro _ R ⟨m,y,rfl,h,q⟩;have sz:(1000:Nat)<=sizeLine:=by decide
 refine gZ _ (List.range m) (λas o=>∃x z,o=[.fz (.lst (I8 m y)),.fz (.int m),.l1 (as.map λi:Nat=>.int i),x,z]) ⟨_,_,rfl⟩ ?_ ?_
 .rintro as i bs _ e ⟨x,z,rfl⟩;have hi:i<m:=List.mem_range.mp (e ▸ by simp);have la:as.length<m:=by have:=ZH List.length e;rw[WJ,aA,List.length_cons]at this;lia
  refine⟨⟨by lia,by lia⟩,by rw[rng,ak,WJ];exact aL (show _<=1000 by lia) sz,qe (λk:Nat=>.int (0+k)) (λj=>decide (j=i)) (λj=>.int (0+(j:Nat))) (List.range m) (λj hj N M h1 h2=>?_) ?_⟩
  .have hj:=List.mem_range.mp hj;show hName 0 (L2.T.int (0+((j:Nat):Int))) _ _;rw[show(0:Int)+((j:Nat):Int)=((j:Nat):Int)by lia]at h1 ⊢;refine⟨_,dJ (UZ (WU _ hj)),?_⟩;by_cases c:j=i
   .refine swT ?_ (h1 (Zs c));show xr true (_&&_)=true;rw[ZY hj,ZY c.symm]
    rfl
   .refine swF ?_ (h2 (Zp c));show xr true (_&&_)=false;rw[ZY hj,ZZ (Ne.symm c)]
    rfl
  .rw[Qa,ZY hi];refine⟨_,rfl,by rw[ak];lia,.fz (.lst ((List.range (m+1)).map λj=>frR (if j<m then if i=j then 1 else 0 else y i))),.fz (.lst [.int (0+(i:Nat))]),?_⟩;rw[bf];show[_,_,OT.l1 (as.map _++[L2.T.int (0+(i:Nat))]),_,OT.fz (.lst [L2.T.int (0+(i:Nat))])]=[_,_,OT.l1 (as.map _++[L2.T.int (i:Nat)]),_,_];rw[show(0:Int)+((i:Nat):Int)=((i:Nat):Int)by exact Int.zero_add _]
 .rintro _ ⟨x,z,rfl⟩;exact q
def G8:ST:=λts q=>∃(m:Nat)(y:Nat->Rat),ts=[.lst (I8 m y),.lst ((List.range m).map λi:Nat=>.int i),.int m]/\m<=100/\q (.fz .non)
theorem S9(F:Fun K su su Cw f fd)(T:Txt K mg D):b_ P w K mg base CX0 1 f fd tK (spT K G8):=by
 refine F.okT FN (λts R hP=>by obtain⟨_,_,e,_⟩:=hP;exact e ▸ rfl) λah A outer s H E hr=>?_;refine⟨_,(bC (dO VY rfl (JQ (by rfl) T.fU (bw (bM cJ (by rfl) T.cZ WG (bw (qv 1) bA)) (bw (bM cJ (by rfl) T.cZ WG (bw (qv 0) bA)) bA))) (bZ (n:=99) 3 FN.nd (Or.inl rfl))
  (bG (cB (cu (pF hr.units) (bI (bI (qv 0) (qv 3)) (qv 2)) (jL (by rfl) T.ig T.fB))
  (bG (bL (qv 3)))
  bQ)))
  (bG (bL fX))),?_⟩
 rintro _ R ⟨m,y,rfl,h,q⟩;have l1:((List.range m).map λi:Nat=>L2.T.int i).length=m:=by rw[ak,WJ]
 have l2:(I8 m y).length=m:=by unfold I8;rw[ak,WJ]
 refine⟨⟨by lia,by lia,by lia,by lia⟩,Aw (λ_ _=>True) _ 0 trivial (λi t o e z=>?_) λo _=>q⟩;have:=(Yk e).1;lia
def Bo:ST:=λts q=>∃(m:Nat)(y:Nat->Rat),ts=[.lst (I8 m y),.lst ((List.range m).map λi:Nat=>.int i),.int m]/\m<=100/\q (.l1 ((List.range m).map λi=>frR (y i)))
theorem Ml(F:Fun K nQ nQ uh f fd)(T:Txt K mg D):b_ P w K mg base CX0 1 f fd nY (spT K Bo):=by
 refine F.okT oM (λts R hP=>by obtain⟨_,_,e,_⟩:=hP;exact e ▸ rfl) λah A outer s H E hr=>?_;refine⟨_,(bC (jz 3 oM.nd (Or.inl rfl) (bJ cC (cY (bw (jL (by rfl) T.ig T.fB) bA)) (qv 2)))
  (bC (dO VY rfl (zG (by rfl) T.mK (bw (qv 1) bA)) (eZ (n:=2) rfl (bT (bZ (n:=99) 4 oM.nd (Or.inl rfl)) (bT (bZ (n:=99) 5 oM.nd (Or.inl rfl)) dz)))
  (bG (uq 3 (bI (bI (qv 0) (qv 4)) (qv 2)) (qv 5))))
  (bG (oK 3)))),?_⟩
 rintro _ R ⟨m,y,rfl,h,q⟩;refine⟨⟨by lia,by lia,by show 1*_<=_;exact aL (show _<=100 by lia) (by decide)⟩,λz ez=>?_⟩;have ez:z=(List.range m).map λi=>if i<0 then frR (y i)else frR 0:=by
  rw[ez,List.flatten_replicate_singleton];refine TK (by rw[aN,ak,WJ];rfl) λn h1 h2=>?_;rw[List.getElem_replicate,UV,ZZ (WV _)]
  rfl
 subst ez;refine wN (λi:Nat=>.int i) (List.range m) (λk o=>∃x z,o=[.fz (.lst (I8 m y)),.fz (.lst ((List.range m).map λi:Nat=>.int i)),.fz (.int m),.l1 ((List.range m).map λi=>if i<k then frR (y i)else frR 0),x,z]) ⟨_,_,rfl⟩ ?_ ?_
 .rintro k i _ e ⟨x,z,rfl⟩;have hk:k<m:=by have:=(ao.mp e).1;rwa[WJ]at this
  rw[UZ hk]at e;cases e;refine⟨rfl,_,dJ (UZ hk),_,dJ (UZ (X1 m)),k,rW (by rw[ak,WJ];exact hk),.fz (.int k),.fz (.int k),?_⟩;have:((List.range m).map λi=>if i<k then frR (y i)else frR 0).set k (frR (if m<m then if k=m then 1 else 0 else y k))=(List.range m).map λi=>if i<k+1 then frR (y i)else frR 0:=by
   rw[ZZ (X9 _)];refine TK (by rw[VZ,ak,ak]) λn h1 h2=>?_;rw[List.getElem_set,UV,UV,QU];by_cases c:k=n
   .rw[ZY c,ZY (by lia),c]
   .rw[ZZ c];by_cases d:n<k
    .rw[ZY d,ZY (WU _ d)]
    .rw[ZZ d,ZZ (by lia)]
  rw[<- this]
  rfl
 .rintro _ ⟨x,z,rfl⟩;have:((List.range m).map λi=>if i<(List.range m).length then frR (y i)else frR 0)=(List.range m).map λi=>frR (y i):=UQ λi hi=>by rw[WJ,ZY (List.mem_range.mp hi)]
  rw[<- this]at q;exact q
open Rw (vr iB gM mQ gcL fW f9 qX jT Big o8 jd lW jq mC eV sg fZ fJ cj gk gO)
noncomputable abbrev Cy(ac:List (List Rat))(aw:List Rat):List (List Rat):=List.zipWith (λr c=>r++[c]) ac aw
def pI:ST:=λts R=>∃(ac:List (List Rat))(aw:List Rat)(N:Nat),ts=[.lst (ac.map HN),.lst (aw.map frR)]/\aw.length=ac.length/\(∀r∈ac,r.length=ac.length)/\Sys (Cy ac aw) N/\∀y:Nat->Rat,(∀r∈Cy ac aw,sg (λj=>r.getD j 0*y j) ac.length=r.getD ac.length 0)->(∀i,i<ac.length->FnB ((2*ac.length*N)^ac.length) (y i))->R (.l1 ((List.range ac.length).map λi=>frR (y i)))
theorem Fw(F:Fun K iy iy qN f fd)(T:Txt K mg D)(yx:OkT P w K mg base 1 qj qm CW)(qT:OkT P w K mg base 1 jZ jW u9)(Ck:OkT P w K mg base 7 tX sX Hl)(uU:OkT P w K mg base 1 nR oG Ay)(BZ:OkT P w K mg base 1 su tK G8)(vN:OkT P w K mg base 1 nQ nY Bo):b_ P w K mg base CX0 8 f fd gY (spT K pI):=by
 refine F.okT kZ (λts R hP=>by obtain⟨_,_,_,e,_⟩:=hP;exact e ▸ rfl) λah A outer s H E hr=>?_;refine⟨_,(bC (bO 2 kZ.nd (Or.inl rfl) (bH yx hr.md (by rfl) (bw (qv 0) bA)))
  (bC (bO 3 kZ.nd (Or.inl rfl) (bI (bH Ck hr.md (by rfl) (bw (bH qT hr.md (by rfl) (bw (qv 0) (bw (qv 1) bA))) (bw (qv 2) bA))) bx))
  (bC (bO 4 kZ.nd (Or.inl rfl) (bH uU hr.md (by rfl) (bw (qv 3) (bw (qv 2) bA))))
  (bC (cB (QW.qt (lg (cu vJ (bM cJ (by rfl) T.cZ WG (bw (qv 4) bA)) (qv 2)) (iV (cu Fd (bH BZ hr.md (by rfl) (bw (qv 3) (bw (qv 4) (bw (qv 2) bA)))) fX))))
  (bG (bL fX))
  bQ)
  (bG (bL (bH vN hr.md (by rfl) (bw (qv 3) (bw (qv 4) (bw (qv 2) bA)))))))))),?_⟩
 rintro _ R ⟨ac,aw,N,rfl,hl,hw,h,ok⟩;have la:(Cy ac aw).length=ac.length:=by rw[TZ,hl,UX]
 have few:=h.few;rw[la]at few;refine⟨ac,ac.length,rfl,hw,λz=>by rw[z];rfl,ac,aw,rfl,few,λr hr=>by rw[hw r hr];exact few,Cy ac aw,N,?_,h,λss y h1 h2=>?_⟩
 .rw[la];rfl
 .rw[la]at h1 h2 ⊢;have lr:((List.range ac.length).map λi:Nat=>L2.T.int i).length=ac.length:=by rw[ak,WJ]
  exact⟨ac.length,y,rfl,few,swF (Zp (by show ¬((((List.range ac.length).map λi:Nat=>L2.T.int i).length:Nat):Int)<_;lia)) ⟨ac.length,y,rfl,few,ac.length,y,rfl,few,ok y h1 h2⟩⟩
open Rw (sg)
def rowsOf(f:Nat->Nat->Rat)(m:Nat):List (List T):=(List.range m).map λi=>(List.range m).map λj=>frR (f i j)
noncomputable def qK:List (Nat×Rat)->Nat->Rat
 |[],_=>0
 |w::ws,j=>(if w.1=j then w.2 else 0)+qK ws j
noncomputable def mH:Option bV->List (Nat×Rat)
 |none=>[]
 |some o=>o.ways
structure WyB(s:Rat)(m:Nat)(ws:List (Nat×Rat)):Prop where
 nd:(ws.map (·.1)).Nodup
 few:ws.length<=1000
 lt:∀w∈ws,w.1<m
 bq:∀w∈ws,Bq w.2/\Bd ((s.den:Int)*w.2.den)/\Bq (s*w.2)
def eE(s:Rat)(cs:List (Option bV))(i j:Nat):Rat:=(if j=i then 1 else 0)-s*qK (mH (cs.getD i none)) j
def rR:ST:=λts q=>∃(s:Rat)(cs:List (Option bV)),ts=[frR s,.lst (cs.map opT)]/\cs.length<=100/\Bq s/\(∀o∈cs,WyB s cs.length (mH o))/\q (.l2 (rowsOf (eE s cs) cs.length))
theorem ZV(f:Nat->Nat->Rat)(m:Nat):(rowsOf f m).length=m:=by unfold rowsOf;rw[ak,WJ]
theorem U5{f:Nat->Nat->Rat}{m i:Nat}(h:i<m):(rowsOf f m)[i]?=some ((List.range m).map λj=>frR (f i j)):=by
 unfold rowsOf;rw[aq,UZ h];rfl
theorem sZ{f g:Nat->Nat->Rat}{m:Nat}(h:∀i j,i<m->j<m->f i j=g i j):rowsOf f m=rowsOf g m:=UQ λi hi=>UQ λj hj=>by rw[h i j (List.mem_range.mp hi) (List.mem_range.mp hj)]
theorem aaA{f g:Nat->Nat->Rat}{m i k:Nat}{v:Rat}(h:∀a b,a<m->b<m->g a b=if a=i/\b=k then v else f a b):(rowsOf f m).set i (((List.range m).map λj=>frR (f i j)).set k (frR v))=rowsOf g m:=by
 unfold rowsOf;refine TK (by rw[VZ,ak,ak]) λa h1 h2=>?_;have ha:a<m:=by rw[ak,WJ]at h2;exact h2
 rw[List.getElem_set];by_cases e:i=a
 .rw[ZY e,UV,QU];refine TK (by rw[VZ,ak,ak]) λb h3 h4=>?_;have hb:b<m:=by rw[ak,WJ]at h4;exact h4
  rw[List.getElem_set,UV,UV,QU,h a b ha hb];by_cases c:k=b
  .rw[ZY c,ZY ⟨e.symm,c.symm⟩]
  .rw[ZZ c,ZZ λz=>c z.2.symm,e]
 .rw[ZZ e,UV,UV,QU];refine UQ λb hb=>?_;rw[h a b ha (List.mem_range.mp hb),ZZ λz=>e z.1.symm]
theorem acg{f:Nat->Nat->Rat}{m i:Nat}(h:i<m):ixT (rowsOf f m) ((i:Nat):Int)=some ((List.range m).map λj=>frR (f i j)):=by
 show nth (rowsOf f m) i=_;rw[qR,U5 h]
theorem Ym(as:List (Nat×Rat))(w:Nat×Rat)(j:Nat):qK (as++[w]) j=qK as j+if w.1=j then w.2 else 0:=by
 induction as with
 |nil=>show(_+(0:Rat))=0+_;grind
 |cons a as ih=>show _+qK (as++[w]) j=(_+qK as j)+_;rw[ih];grind
theorem Xa{ws:List (Nat×Rat)}{j:Nat}(h:j∉ws.map (·.1)):qK ws j=0:=by
 induction ws with
 |nil=>rfl
 |cons a as ih =>
  show(if a.1=j then a.2 else 0)+qK as j=0;rw[ih λz=>h (aJ _ z),ZZ λz=>h (by rw[<- z];exact aO ..)]
  grind
def tG(s:Rat)(cs:List (Option bV))(n:Nat)(as:List (Nat×Rat))(i j:Nat):Rat:=if i<n then eE s cs i j else if i=n then(if j=i then 1 else 0)-s*qK as j else if j=i then 1 else 0
theorem aci(s:Rat)(cs:List (Option bV))(n i j:Nat):tG s cs n [] i j=if i<n then eE s cs i j else if j=i then 1 else 0:=by
 unfold tG;split
 .rfl
 .split
  .show _-s*0=_;grind
  .rfl
theorem abl{s:Rat}{cs:List (Option bV)}{n:Nat}(i j:Nat):tG s cs n (mH (cs.getD n none)) i j=if i<n+1 then eE s cs i j else if j=i then 1 else 0:=by
 unfold tG;by_cases a:i<n
 .rw[ZY a,ZY (show i<n+1 by exact WU _ a)]
 .by_cases b:i=n
  .subst b;rw[ZZ a,ZY rfl,ZY (show i<i+1 by exact X1 _)]
   rfl
  .rw[ZZ a,ZZ b,ZZ (show ¬i<n+1 by lia)]
theorem Sy(s:Rat)(cs:List (Option bV))(n:Nat)(as:List (Nat×Rat))(j:Nat):tG s cs n as n j=(if j=n then 1 else 0)-s*qK as j:=by unfold tG;rw[ZZ (X9 _),ZY rfl]
theorem aeP{s:Rat}{cs:List (Option bV)}{n i:Nat}(as bs:List (Nat×Rat))(j:Nat)(h:i≠n):tG s cs n as i j=tG s cs n bs i j:=by unfold tG;rw[ZZ h,ZZ h]
theorem Lb(F:Fun K j_ j_ uV f fd)(T:Txt K mg D)(qJ:OkT P w K mg base 1 kE jU vR)(nZ:OkT P w K mg base 3 rF rE za)(L_:OkT P w K mg base 3 zq Bp Ou):b_ P w K mg base CX0 4 f fd jX (spT K rR):=by
 refine F.okT iD (λts R hP=>by obtain⟨_,_,e,_⟩:=hP;exact e ▸ rfl) λah A outer s H E hr=>?_;refine⟨_,(bC (jz 2 iD.nd (Or.inl rfl) (bH qJ hr.md (by rfl) (bw (bM cJ (by rfl) T.cZ WG (bw (qv 1) bA)) bA)))
  (bC (dO VY rfl (zG (by rfl) T.mK (bw (qv 1) bA)) (eZ (n:=2) rfl (bT (bZ (n:=99) 3 iD.nd (Or.inl rfl)) (bT (bZ (n:=99) 4 iD.nd (Or.inl rfl)) dz)))
  (bG (cB (cu Fd (qv 4) fX)
  (bG (dO VY rfl (cF (bI (qv 4) bx)) (eZ (n:=2) rfl (bT (bZ (n:=99) 5 iD.nd (Or.inl rfl)) (bT (bZ (n:=99) 6 iD.nd (Or.inl rfl)) dz)))
  (bG (aa2 2 (bH nZ hr.md (by rfl) (bw (aa4 2 (qv 3) (qv 5)) (bw (bH L_ hr.md (by rfl) (bw (qv 0) (bw (qv 6) bA))) bA))) (qv 3) (qv 5)))))
  bQ)))
  (bG (oK 2)))),?_⟩
 rintro _ R ⟨s,cs,rfl,hm,hs,hw,q⟩;refine⟨cs.length,?_,hm,?_⟩
 .show[L2.T.int (((cs.map opT).length:Nat):Int)]=_;rw[ak]
 .have lc:∀x:Nat,((cs.map opT).length:Nat)=cs.length:=λ_=>ak _;refine wN opT cs (λn o=>∃x y z u,o=[.fz (frR s),.fz (.lst (cs.map opT)),.l2 (rowsOf (λi j=>if i<n then eE s cs i j else if j=i then 1 else 0) cs.length),x,y,z,u]) ⟨.und,.und,.und,.und,?_⟩ ?_ ?_
  .show[_,_,OT.l2 (rowsOf (λi j=>if j=i then 1 else 0) cs.length),_,_,_,_]=_;rw[sZ (f:=λi j=>if j=i then 1 else 0) (g:=λi j=>if i<0 then eE s cs i j else if j=i then 1 else 0) λi j _ _=>by rw[ZZ (WV _)]]
  .rintro n oo _ e ⟨x,y,z,u,rfl⟩;have hn:n<cs.length:=(ao.mp e).1;have eg:cs.getD n none=oo:=by rw[au,e];rfl
   have hb:=hw oo (aC e);rw[show rowsOf (λi j=>if i<n then eE s cs i j else if j=i then 1 else 0) cs.length=rowsOf (tG s cs n []) cs.length from sZ λi j _ _=>(aci s cs n i j).symm];rw[show rowsOf (λi j=>if i<n+1 then eE s cs i j else if j=i then 1 else 0) cs.length=rowsOf (tG s cs n (mH oo)) cs.length from sZ λi j _ _=>by rw[<- eg];exact(abl i j).symm];refine⟨rfl,?_⟩
   match oo,hb with
   |none,hb=>exact⟨_,_,_,_,rfl⟩
   |some o,hb =>
    refine gZ nwT o.ways (λas ot=>∃z u,ot=[.fz (frR s),.fz (.lst (cs.map opT)),.l2 (rowsOf (tG s cs n as) cs.length),.fz (.int n),.fz (ofT o),z,u]) ⟨_,_,rfl⟩ ?_ ?_
    .rintro as ⟨k,c⟩ bs _ e2 ⟨z,u,rfl⟩;have kq:(k,c)∈o.ways:=e2 ▸ by simp
     have hk:=hb.lt _ kq;obtain⟨c1,c2,c3⟩:=hb.bq _ kq;have nk:k∉as.map (·.1):=λz=>by
      have nd:=hb.nd;rw[show mH (some o)=o.ways from rfl,e2,bf]at nd;exact(List.nodup_append.mp nd).2.2 k z k (by simp) rfl
     have cell:tG s cs n as n k=if k=n then 1 else 0:=by
      unfold tG;rw[ZZ (X9 _),ZY rfl,Xa nk]
      grind
     have q1:Bq (tG s cs n as n k)/\Bd (((tG s cs n as n k).den:Int)*(s*c).den):=by
      rw[cell];split
      .exact⟨bq1,by show Bd (1*_);rw[TU];exact c3.2⟩
      .exact⟨bq0,by show Bd (1*_);rw[TU];exact c3.2⟩
     refine⟨rfl,_,(acg hn),_,dJ (UZ hk),s,c,rfl,hs,c1,c2,_,_,rfl,q1.1,c3,q1.2,n,_,rW (by rw[ZV];exact hn),U5 hn,k,rW (by rw[ak,WJ];exact hk),.fz (.int k),.fz (frR c),?_⟩;rw[<- aaA (f:=tG s cs n as) (g:=tG s cs n (as++[(k,c)])) (i:=n) (k:=k) (v:=tG s cs n as n k-s*c) λa b _ _=>?_]
     .rfl
     .by_cases a1:a=n
      .subst a1;rw[Sy,Ym];by_cases b1:b=k
       .subst b1;rw[ZY (show a=a/\b=b from⟨rfl,rfl⟩),Sy,ZY (show(b,c).1=b from rfl)]
        grind
       .rw[ZZ (show ¬(a=a/\b=k)from λz=>b1 z.2),Sy,ZZ (show ¬(k,c).1=b from λz=>b1 z.symm)]
        grind
      .rw[ZZ (show ¬(a=n/\b=k)from λz=>a1 z.1)];exact aeP _ _ _ a1
    .rintro _ ⟨z,u,rfl⟩;exact⟨_,_,_,_,rfl⟩
  .rintro _ ⟨x,y,z,u,rfl⟩;rw[show rowsOf (eE s cs) cs.length=rowsOf (λi j=>if i<cs.length then eE s cs i j else if j=i then 1 else 0) cs.length from sZ λi j hi _=>by rw[ZY hi]]at q;exact q
open Rw (sg)
noncomputable def lD:Option bV->Rat
 |none=>0
 |some o=>o.pay
def Ai(s:Rat)(cs:List (Option bV)):List (List Rat):=(List.range cs.length).map λi=>(List.range cs.length).map λj=>eE s cs i j
theorem alg(s:Rat)(cs:List (Option bV)):(rowsOf (eE s cs) cs.length).map T.lst=(Ai s cs).map HN:=by
 unfold rowsOf Ai;rw[WP,WP];refine UQ λi _=>?_;show T.lst _=T.lst (List.map frR _);rw[WP]
 rfl
theorem MP(s:Rat)(cs:List (Option bV)):(Ai s cs).length=cs.length:=by unfold Ai;rw[ak,WJ]
theorem aeD{s:Rat}{cs:List (Option bV)} : ∀r∈Ai s cs,r.length=cs.length:=λr hr=>by
 obtain⟨i,_,rfl⟩:=YV.mp hr;rw[ak,WJ]
def Eu(s:Rat)(cs:List (Option bV))(y:Nat->Rat):Prop:=∀i,i<cs.length->sg (λj=>eE s cs i j*y j) cs.length=lD (cs.getD i none)
structure WoB(s:Rat)(cs:List (Option bV))(N:Nat):Prop where
 bs:Bq s
 ways:∀o∈cs,WyB s cs.length (mH o)
 sys:Sys (Cy (Ai s cs) (cs.map lD)) N
theorem TF{s:Rat}{cs:List (Option bV)}{i:Nat}(h:i<cs.length):(Cy (Ai s cs) (cs.map lD))[i]?=some (((List.range cs.length).map λj=>eE s cs i j)++[lD (cs.getD i none)]):=by
 unfold Cy Ai;rw[List.getElem?_zipWith,aq,UZ h,aq,au,aj h]
 rfl
theorem aaE{s:Rat}{cs:List (Option bV)}{y:Nat->Rat}(h:∀r∈Cy (Ai s cs) (cs.map lD),sg (λj=>r.getD j 0*y j) cs.length=r.getD cs.length 0):Eu s cs y:=λi hi=>by
 have:=h _ (aC (TF hi));have l:((List.range cs.length).map λj=>eE s cs i j).length=cs.length:=by rw[ak,WJ]
 rw[show(((List.range cs.length).map λj=>eE s cs i j)++[lD (cs.getD i none)]).getD cs.length 0=lD (cs.getD i none)by
  rw[au,aD (by rw[l];exact aG _),l,Nat.sub_self];rfl]at this
 rw[<- this];refine Rw.cj λj hj=>?_;rw[au,aF (by rw[l];exact hj),aq,UZ hj]
 rfl
def yW(D:Adr):ST:=λts R=>∃(s:Rat)(ns:Θ)(off:List (List bV))(pl:List (Option Nat))(N:Nat),ts=[hlT D s ns off,.lst (pl.map dT)]/\MF ns off/\PlT off pl/\off.length<=100/\WoB s (chO off pl) N/\∀y:Nat->Rat,Eu s (chO off pl) y->(∀i,i<off.length->FnB ((2*off.length*N)^off.length) (y i))->R (.l1 ((List.range off.length).map λi=>frR (y i)))
theorem Tq{off:List (List bV)}{pl:List (Option Nat)}(h:PlT off pl):(chO off pl).length=off.length:=by unfold chO;rw[ak,List.length_zipIdx,h.len]
theorem Ke(F:Fun K fY fY jG f fd)(T:Txt K mg D)(sV:OkT P w K mg base 4 eY gD (xT D))(fj:OkT P w K mg base 4 gw gC (m5 D))(jA:OkT P w K mg base 4 j_ jX rR)(gK:OkT P w K mg base 8 iy gY pI):b_ P w K mg base CX0 9 f fd iM (spT K (yW D)):=by
 refine F.okT iK (λts R hP=>by obtain⟨_,_,_,_,_,e,_⟩:=hP;exact e ▸ rfl) λah A outer s H E hr=>?_;refine⟨_,(bC (mG (bH sV hr.md (by rfl) (bw (qv 0) (bw (qv 1) bA))))
  (bC (bO 2 iK.nd (Or.inl rfl) (bH fj hr.md (by rfl) (bw (qv 0) (bw (qv 1) bA))))
  (bC (p8 (bF jG) mJ mJ ["offer"] (cF (qv 2)) (gj (i:=0)) cG (Ul (cu FP (qv 0) fX) (jL (by rfl) T.ig T.fB) (bI (qv 0) bx)) (iJ (i:=3) iK.nd rfl (Or.inl rfl)))
  (bG (bL (bH gK hr.md (by rfl) (bw (bH jA hr.md (by rfl) (bw (sG (Fm:=Fam D) (λC h=>⟨T.cl C h,T.Gq C h⟩) (qv 0)) (bw (qv 2) bA))) (bw (qv 3) bA)))))))),?_⟩
 rintro _ R ⟨s,ns,off,pl,N,rfl,h,hp,few,hw,ok⟩;have cl:=Tq hp;refine⟨_,_,_,_,rfl,h,hp,_,_,_,_,rfl,h,hp,?_⟩;refine⟨by rw[ak,cl];exact aL few (by decide),comp_map opT (λo=>frR (lD o)) (chO off pl) (λo ho N M hN=>by cases o<;>exact hN) ?_⟩;refine⟨Ao D,_,rfl,s,chO off pl,rfl,by exact aL (WH cl) few,hw.bs,hw.ways,Ai s (chO off pl),(chO off pl).map lD,N,?_,by rw[ak,MP],by rw[MP];exact aeD,hw.sys,?_⟩
 .show[L2.T.lst ((rowsOf (eE s (chO off pl)) (chO off pl).length).map L2.T.lst),L2.T.lst ((chO off pl).map λo=>frR (lD o))]=_;rw[alg,WP]
  rfl
 .rw[MP,cl];exact λy h1 h2=>ok y (aaE (by rw[cl];exact h1)) h2
noncomputable def amG(ws:List (Nat×Rat))(tp:List Int):Rat:=(ws.map λw=>w.2*((tp.getD w.1 0:Int):Rat)).sum
def ajJ(s:Rat)(tp:List Int)(B:Nat)(o:bV):Rat:=o.pay*(B:Rat)+s*amG o.ways tp
def ag1(rs:List Rat)(d b:Nat):Prop:=(∀x∈rs,x<=rs.getD d 0)/\b=d\/((rs.getD d 0)<rs.getD b 0/\b<rs.length/\(∀x∈rs,x<=rs.getD b 0)/\∀i,i<b->rs.getD i 0≠rs.getD b 0)
structure alw(s:Rat)(off:List (List bV))(tp:List Int)(B:Nat)(pl kS:List (Option Nat)):Prop where
 len:kS.length=pl.length
 none:∀k:Nat,pl[k]?=some none->kS[k]?=some none
 some:∀(k d:Nat)(ds:List bV),pl[k]?=some (some d)->off[k]?=some ds->∃b,kS[k]?=some (some b)/\ag1 (ds.map (ajJ s tp B)) d b
open Rw (sg fZ fJ cj gk gO)
noncomputable def dw(ws:List (Nat×Rat))(x:Nat->Rat):Rat:=(ws.map λw=>w.2*x w.1).sum
noncomputable def BP(ws:List (Nat×Rat)):Rat:=(ws.map (·.2)).sum
theorem cW(w:Nat×Rat)(ws:List (Nat×Rat))(x:Nat->Rat):dw (w::ws) x=w.2*x w.1+dw ws x:=rfl
theorem wH(w:Nat×Rat)(ws:List (Nat×Rat)):BP (w::ws)=w.2+BP ws:=rfl
theorem T_{M:Rat}{x:Nat->Rat} : ∀{ws:List (Nat×Rat)},(∀w∈ws,0<=w.2/\x w.1<=M)->dw ws x<=BP ws*M
 |[],_=>by show(0:Rat)<=0*M;rw[Rat.zero_mul];exact UR
 |w::ws,h=>by
  rw[cW,wH];have:=T_ (ws:=ws) λv hv=>h v (aJ _ hv);obtain⟨a,b⟩:=h w (aO ..);have:=QR b a
  grind
theorem adf{m:Nat}{x:Nat->Rat} : ∀{ws:List (Nat×Rat)},(∀w∈ws,w.1<m)->sg (λj=>qK ws j*x j) m=dw ws x
 |[],_=>by
  show sg (λj=>0*x j) m=0;rw[cj (g:=λ_=>0) λj _=>Rat.zero_mul _,gk]
 |w::ws,h=>by
  rw[cW,<- adf (m:=m) (ws:=ws) λv hv=>h v (aJ _ hv)];rw[cj (g:=λj=>(if j=w.1 then 1 else 0)*(w.2*x j)+qK ws j*x j) λj _=>?_,fZ,gO (v:=λj=>w.2*x j),ZY (h w (aO ..))];show((if w.1=j then w.2 else 0)+qK ws j)*x j=_;by_cases e:w.1=j
  .rw[ZY e,ZY e.symm];grind
  .rw[ZZ e,ZZ (Ne.symm e)];grind
theorem aah(x:Nat->Rat):∀{m:Nat},0<m->∃i,i<m/\∀j,j<m->x j<=x i
 |0,h=>absurd h (WV _)
 |1,_=>⟨0,Tx,λj hj=>by rw[show j=0 by exact Nat.eq_zero_of_le_zero (UH hj)];exact UR⟩
 |m+2,_=>by
  obtain⟨i,hi,h⟩:=aah x (m:=m+1) (U2 _);by_cases c:x i<=x (m+1)
  .refine⟨m+1,by exact X1 _,λj hj=>?_⟩;by_cases e:j=m+1
   .rw[e];exact UR
   .exact TH (h j (XX (UH hj) e)) c
  .refine⟨i,by exact Ts hi (X1 _),λj hj=>?_⟩;by_cases e:j=m+1
   .rw[e];exact Rat.le_of_lt (Rat.not_le.mp c)
   .exact h j (XX (UH hj) e)
structure ShB(s:Rat)(m:Nat)(ws:List (Nat×Rat)):Prop where
 lt:∀w∈ws,w.1<m
 nn:∀w∈ws,0<=w.2
 one:BP ws<=1
theorem sub_le{m:Nat}{s:Rat}{ws:Nat->List (Nat×Rat)}{x:Nat->Rat}(s0:0<=s)(s1:s<1)(hw:∀i,i<m->ShB s m (ws i))(h:∀i,i<m->x i<=s*dw (ws i) x):∀j,j<m->x j<=0:=λj hj=>by
 obtain⟨i,hi,mx⟩:=aah x (m:=m) (by lia);refine TH (mx j hj) (Rat.not_lt.mp λp=>?_);have b:=hw i hi;have d:dw (ws i) x<=BP (ws i)*x i:=T_ λw hw=>⟨b.nn w hw,mx _ (b.lt w hw)⟩;have e:BP (ws i)*x i<=1*x i:=Q3 b.one (Rat.le_of_lt p);have f:=QR (TH d e) s0;have g:=h i hi;have k:s*x i<1*x i:=Rat.mul_lt_mul_of_pos_right s1 p
 grind
theorem TV{s:Rat}{cs:List (Option bV)}{x:Nat->Rat}{i:Nat}(hi:i<cs.length)(h:∀w∈mH (cs.getD i none),w.1<cs.length):sg (λj=>eE s cs i j*x j) cs.length=x i-s*dw (mH (cs.getD i none)) x:=by
 rw[<- adf h,cj (g:=λj=>(if j=i then 1 else 0)*x j+(-s)*(qK (mH (cs.getD i none)) j*x j)) λj _=>by unfold eE;grind,fZ,fJ,gO (v:=x),ZY hi]
 grind
theorem V4{s:Rat}{cs:List (Option bV)}{y:Nat->Rat}(h:∀i,i<cs.length->ShB s cs.length (mH (cs.getD i none))):Eu s cs y↔∀i,i<cs.length->y i=lD (cs.getD i none)+s*dw (mH (cs.getD i none)) y:=by
 constructor
 .intro w i hi;have:=w i hi;rw[TV hi (h i hi).lt]at this
  grind
 .intro w i hi;rw[TV hi (h i hi).lt];have:=w i hi
  grind
theorem Mx(x:Nat->Rat):∀ws:List (Nat×Rat),dw ws (λj=>-(x j))=-(dw ws x)
 |[]=>by show(0:Rat)=-0;grind
 |w::ws=>by rw[cW,cW,Mx x ws];grind
theorem afp{s:Rat}{cs:List (Option bV)}(s0:0<=s)(s1:s<1)(h:∀i,i<cs.length->ShB s cs.length (mH (cs.getD i none)))(x:Nat->Rat)(hx:∀i,i<cs.length->sg (λj=>eE s cs i j*x j) cs.length=0):∀j,j<cs.length->x j=0:=λj hj=>by
 have e:∀i,i<cs.length->x i=s*dw (mH (cs.getD i none)) x:=λi hi=>by
  have:=hx i hi;rw[TV hi (h i hi).lt]at this
  grind
 have a:=sub_le s0 s1 h (x:=x) (λi hi=>by rw[<- e i hi];exact UR) j hj;have b:=sub_le s0 s1 h (x:=λj=>-(x j)) (λi hi=>by
  show -(x i)<=_;rw[Mx,e i hi]
  grind) j hj
 grind
open Rw (sg fZ fJ cj gk gO Big)
theorem Aa(s:Rat)(cs:List (Option bV)):(Cy (Ai s cs) (cs.map lD)).length=cs.length:=by rw[TZ,MP,ak,UX]
theorem acu{s:Rat}{cs:List (Option bV)}(s0:0<=s)(s1:s<1)(h:∀i,i<cs.length->ShB s cs.length (mH (cs.getD i none)))(x:Nat->Rat)(h0:∀j,cs.length<=j->x j=0)(hx:∀r∈Cy (Ai s cs) (cs.map lD),sg (λj=>r.getD j 0*x j) (cs.length+1)=0):∀j,j<cs.length->x j=0:=by
 refine afp s0 s1 h x λi hi=>?_;have:=hx _ (aC (TF hi));have l:((List.range cs.length).map λj=>eE s cs i j).length=cs.length:=by rw[ak,WJ]
 rw[<- this];show _=sg (λj=>(((List.range cs.length).map λj=>eE s cs i j)++[lD (cs.getD i none)]).getD j 0*x j) cs.length+_*x cs.length;rw[h0 _ (aG _),Rat.mul_zero,Rat.add_zero];refine cj λj hj=>?_;rw[au,aF (by rw[l];exact hj),aq,UZ hj]
 rfl
theorem acM{A Q:Nat}{r:List Rat}(hA:1<=A)(hQ:0<Q)(h:∀c∈r,c.den ∣ Q/\c.num.natAbs<=A*c.den):Big (A*Q) (lG r):=by
 have hB:=mU r Tx;have hd:gP 1 r ∣ Q:=tV r (Nat.one_dvd _) λc hc=>(h c hc).1;have le:=UU hQ hd;refine⟨by show(0:Int)<(gP 1 r:Nat);lia,?_,λt ht=>?_⟩
 .show((gP 1 r:Nat):Int).natAbs<=A*Q;rw[XG];exact aL le (Zzu _ hA)
 .obtain⟨c,hc,rfl⟩:=YV.mp ht;rw[VS,XG];refine aL (Nat.mul_le_mul_right _ (h c hc).2) ?_;rw[Nat.mul_assoc,Nat.mul_div_cancel' ((mL r).2 c hc)];exact QQ _ le
theorem N7{s:Rat}{cs:List (Option bV)}{r:List Rat}(hr:r∈Cy (Ai s cs) (cs.map lD)):∃i,i<cs.length/\r=((List.range cs.length).map λj=>eE s cs i j)++[lD (cs.getD i none)]:=by
 obtain⟨i,e⟩:=aV hr;have hi:i<cs.length:=by have:=(ao.mp e).1;rw[Aa]at this;exact this
 rw[TF hi]at e;injection e with e;exact⟨i,hi,e.symm⟩
def agG(s:Rat)(y:Nat->Rat)(o:bV):Rat:=o.pay+s*dw o.ways y
theorem Oe{x z:Nat->Rat} : ∀{ws:List (Nat×Rat)},(∀w∈ws,x w.1=z w.1)->dw ws x=dw ws z
 |[],_=>rfl
 |w::ws,h=>by rw[cW,cW,h w (aO ..),Oe λv hv=>h v (aJ _ hv)]
theorem Te(x z:Nat->Rat):∀ws:List (Nat×Rat),dw ws (λj=>x j-z j)=dw ws x-dw ws z
 |[]=>by show(0:Rat)=0-0;grind
 |w::ws=>by rw[cW,cW,cW,Te x z ws];grind
def TJ(s:Rat)(y:Nat->Rat)(c:Option bV):Rat:=lD c+s*dw (mH c) y
theorem ady{off:List (List bV)}{pl:List (Option Nat)}{i:Nat}{d:Option Nat}(e:pl[i]?=some d):(chO off pl).getD i none=d.bind λd=>(off.getD i [])[d]?:=by
 unfold chO;rw[au,aq,List.getElem?_zipIdx,e];simp
theorem uF{α:Type}{g:α->PyData}(h:∀x,PyData.canLay0 (g x)=true):∀xs:List α,PyData.canLayAll0 (xs.map g)=true
 |[]=>rfl
 |x::xs=>by rw[List.map_cons];unfold PyData.canLayAll0;rw[uF h xs,h x];rfl
theorem yj{α:Type}{g:α->PyData}{n:Nat}(h:∀x,PyData.depth (g x)<=n):∀xs:List α,PyData.depthAll (xs.map g)<=n
 |[]=>aZ _
 |x::xs=>by
  rw[List.map_cons];unfold PyData.depthAll;have:=yj h xs;have:=h x;lia
theorem zZ{α:Type}{g:α->PyData}{h:α->T}(e:∀x,h x=ofD (g x)):∀xs:List α,xs.map h=Yo (xs.map g)
 |[]=>rfl
 |x::xs=>by rw[List.map_cons,List.map_cons,zZ e xs,e x];rfl
theorem Hr{α:Type}[DecidableEq α]{g:α->PyData}(h:∀x y,PyData.eqv (g x) (g y)=decide (x=y)):∀xs ys:List α,PyData.eqvAll (xs.map g) (ys.map g)=decide (xs=ys)
 |[],[]=>rfl
 |[],_::_=>rfl
 |_::_,[]=>rfl
 |x::xs,y::ys=>by
  rw[List.map_cons,List.map_cons];unfold PyData.eqvAll;rw[h,Hr h xs ys,<- Bool.decide_and];exact decide_eq_decide.mpr ⟨λz=>by rw[z.1,z.2],λz=>List.cons.inj z⟩
structure EqD{α:Type}[DecidableEq α](h:α->T)(g:α->PyData):Prop where
 of:∀x,h x=ofD (g x)
 lay:∀x,PyData.canLay0 (g x)=true
 dep:∀x,PyData.depth (g x)<=60
 eqv:∀x y,PyData.eqv (g x) (g y)=decide (x=y)
theorem EqD.lst{α:Type}[DecidableEq α]{h:α->T}{g:α->PyData}(E:EqD h g)(xs:List α):SeqAt.shaped (.list (xs.map g))=true:=by
 have h1:PyData.canLay0 (.list (xs.map g))=true:=by unfold PyData.canLay0;exact uF E.lay xs
 have h2:PyData.depth (.list (xs.map g))<=64:=by unfold PyData.depth;have:=yj E.dep xs;lia
 unfold SeqAt.shaped;rw[h1,Zs h2];rfl
theorem EqD.gEq{α:Type}[DecidableEq α]{h:α->T}{g:α->PyData}(E:EqD h g){neg:Bool}{a c:List α}{q:OT->Prop}(hq:q (.fz (.bl (xr neg (decide (a=c)))))):gEq neg (.lst (a.map h)) (.lst (c.map h)) q:=by
 refine⟨.list (a.map g),.list (c.map g),ZH L2.T.lst (zZ E.of a),ZH L2.T.lst (zZ E.of c),E.lst a,E.lst c,?_⟩;unfold PyData.eqv;rw[Hr E.eqv];exact hq
noncomputable def dD:Option Nat->PyData
 |none=>.none
 |some d=>.int (d:Nat)
theorem Ho:EqD dT dD:=⟨λx=>by cases x<;>rfl,λx=>by cases x<;>rfl,λx=>by cases x<;>exact aZ _,λx y=>by
 cases x<;>cases y
 .rfl
 .rfl
 .rfl
 .rename_i a b
  show decide ((a:Int)=(b:Int))=_;exact decide_eq_decide.mpr ⟨λz=>by rw[Int.ofNat.inj z],λz=>by rw[Option.some.inj z]⟩⟩
theorem T8{s:Rat}{off:List (List bV)}(hw:∀ds∈off,∀o∈ds,ShB s off.length o.ways){ql:List (Option Nat)}(hq:PlT off ql)(i:Nat)(hi:i<off.length):ShB s off.length (mH ((chO off ql).getD i none)):=by
 have ei:=aj (show i<ql.length by rw[hq.len];exact hi);rw[ady ei];cases ql[i]'(by rw[hq.len];exact hi)with
 |none=>exact⟨λ_ z=>(nomatch z),λ_ z=>(nomatch z),by show(0:Rat)<=1;decide⟩
 |some d =>
  show ShB s off.length (mH ((off.getD i [])[d]?));rw[au,aj hi];show ShB s off.length (mH (off[i][d]?));cases ed:off[i][d]? with
  |none=>exact⟨λ_ z=>(nomatch z),λ_ z=>(nomatch z),by show(0:Rat)<=1;decide⟩
  |some o=>exact hw _ (aU hi) o (aC ed)
theorem Fp(F:Fun K uw u5 qW f fd)(T:Txt K mg D):b_ P w K mg base CX0 1 f fd kW (afX D.NoPlan "room"):=by
 refine F.okB GZ ?_ ?_
 .rintro _ _ _ _ ⟨a,v,rfl,_⟩;rfl
 .rintro ah A outer s H _ Q E hr ⟨a,v,rfl,ha,q⟩;refine⟨_,(Ws (PSB.mk (jV (YJ T.ib_HallError T.xi_NoPlan (by rfl) T.Qn (cN (pv 0) (cN K8 lA)))))
   (Xp (PSB.mk (abW (pv 0) (pv 1) rfl)))),?_⟩
  exact⟨_,rfl,a,[_],rfl,ha,by decide,_,rfl,_,rfl,a,D.NoPlan,rfl,ha,T.xs_NoPlan,T.ur,q⟩
def Gh(t:L2.T)(n:Nat):Option Bool:=if n=0 then match t with|.non=>some true|.any=>none|.val _=>none|_=>some false else match t with|.int k=>some (decide (0<=k)&&decide (k<n))|_=>(isW t).map λ_=>false
def Qj:ST:=λts q=>∃(t:L2.T)(n:Nat)(b:Bool),ts=[t,.int n]/\Gh t n=some b/\q (.fz (.bl b))
theorem Zg(F:Fun K tu tu Kc f fd)(T:Txt K mg D)(cQ:OkT P w K mg base 1 fM fP jJ):b_ P w K mg base CX0 2 f fd wX (spT K Qj):=by
 refine F.okT Vd (λts R hP=>by obtain⟨_,_,_,e,_⟩:=hP;exact e ▸ rfl) λah A outer s H E hr=>?_;refine⟨_,(bC (cB (cu (go_eq hr.units) (qv 1) bx)
  (bG (bL (m6 FP (qv 0) fX)))
  bQ)
  (bG (bL (vf (bH cQ hr.md (by rfl) (bw (qv 0) bA)) (yE (Hw Jy vJ bx (qv 0) (qv 1))))))),?_⟩
 rintro _ R ⟨t,n,b,rfl,hb,q⟩;by_cases e:n=0
 .subst e;cases t<;>cases hb<;>exact q
 .refine swF (Zp (by lia)) ?_;unfold Gh at hb;rw[ZZ e]at hb;cases t with
  |int k =>
   cases hb;refine⟨_,_,rfl,rfl,?_⟩;show sw (decide (0<=k)) (R (.fz (.bl (decide (k<(n:Int)))))) (R (.fz (.bl false)));by_cases k0:0<=k
   .rw[Zs k0,Bool.true_and]at q;exact swT (Zs k0) q
   .rw[Zp k0,Bool.false_and]at q;exact swF (Zp k0) q
  |_=>cases hb<;>exact⟨_,_,rfl,rfl,q⟩
inductive PlX(off:List (List bV)):L2.T->L2.T->Prop
 |kind {t:L2.T} : isK .list t=some false->PlX off t .non
 |len {ts:List L2.T} : ts.length≠off.length->PlX off (.lst ts) .non
 |at{ts:List L2.T}{k:Nat}{t:L2.T}{ds:List bV} : ts.length=off.length->(∀(j:Nat)(u:L2.T)(es:List bV),j<k->ts[j]?=some u->off[j]?=some es->Gh u es.length=some true)->ts[k]?=some t->off[k]?=some ds->Gh t ds.length=some false->PlX off (.lst ts) (.int k)
def vW(D:Adr):SX:=λts _ z=>∃(s:Rat)(ns:Θ)(off:List (List bV))(v w:L2.T),ts=[hlT D s ns off,v]/\MF ns off/\PlX off v w/\z D.NoPlan ["room"] [w]
theorem Hz(F:Fun K eY eY n_ f fd)(T:Txt K mg D)(lZ:OkI P w K mg base CX0 1 D.NoPlan_init kW (afX D.NoPlan "room"))(yM:OkT P w K mg base 2 tu wX Qj)(eN:OkI P w K mg base CX0 1 D.Hall_size iG (spT K (oR D)))(dB:OkI P w K mg base CX0 3 D.Hall_offers fD (spT K (wQ D))):b_ P w K mg base (CXO P w) 4 f fd gD (spX K (vW D)):=by
 refine F.okTX gF (λts R Z hP=>by obtain⟨_,_,_,_,_,e,_⟩:=hP;exact e ▸ rfl) λah A outer s H E hr=>?_;refine⟨_,(bC (cB (QW.qt (lg (dG (dg (pR .list (qv 1) (by rfl) T.c7 (by rfl) T.yD boot_list))) (iV (cu (pF hr.units) (bM cJ (by rfl) T.cZ WG (bw (qv 1) bA)) (yR (qv 0) T.mR T.tD eN hr.md (KS:=oA))))))
  (bG (Ot rfl (by rfl) T.FT T.xi_NoPlan lZ hr.md fX))
  bQ)
  (bC (dO PassesOwn.leaving rfl (zG (by rfl) T.mK (bw (qv 1) bA)) (eZ (n:=2) rfl (bT (bZ (n:=99) 2 gF.nd (Or.inl rfl)) (bT (bZ (n:=99) 3 gF.nd (Or.inl rfl)) dz)))
  (bG (cB (dG (dg (bH yM hr.md (by rfl) (bw (qv 3) (bw (bM cJ (by rfl) T.cZ WG (bw (Ep (qv 0) T.mR T.pQ dB hr.md (bw (qv 2) bA) (KS:=oA)) bA)) bA)))))
  (bG (Ot rfl (by rfl) T.FT T.xi_NoPlan lZ hr.md (qv 2)))
  bQ)))
  (bG (bL mV)))),?_⟩
 rintro _ R Z ⟨s,ns,off,v,w,rfl,h,hp,q⟩;cases hp with
 |kind e =>
  cases v<;>first|exact q|cases e
 |len e =>
  refine⟨⟨rfl,rfl⟩,_,_,_,rfl,swT ?_ ?_⟩
  .have hl:=h.len;rw[Zp (λz=>e (by lia))]
   rfl
  .exact q
 |@«at» us k t ds l hf et eo ef =>
  refine⟨⟨rfl,rfl⟩,_,_,_,rfl,swF ?_ ?_⟩
  .show xr true (decide (((us.length:Nat):Int)=(ns.length:Nat)))=false;rw[l,h.len,Zs rfl]
   rfl
  .have hk:k<us.length:=(ao.mp et).1;rw[show us=us.map λt=>t from(List.map_id' us).symm];refine wN (λt=>t) us (λj o=>j<=k/\∃x y,o=[.fz (hlT D s ns off),.fz (.lst (us.map λt=>t)),x,y]) ⟨aZ _,_,_,rfl⟩ ?_ ?_
   .rintro j u _ e ⟨jk,x,y,rfl⟩;have lj:j<off.length:=by rw[<- l];exact(ao.mp e).1
    have ej:=aj lj;by_cases c:j=k
    .subst c;rw[et]at e;cases e;rw[eo]at ej;have ds':(off[j]).length=ds.length:=by rw[Option.some.inj ej]
     refine⟨rfl,⟨rfl,rfl⟩,_,_,_,j,_,rfl,h,eo,t,ds.length,false,?_,ef,q⟩;show[t,L2.T.int (((ds.map ofT).length:Nat):Int)]=_;rw[ak]
    .refine⟨rfl,⟨rfl,rfl⟩,_,_,_,j,_,rfl,h,ej,u,(off[j]).length,true,?_,hf j u _ (XX jk c) e ej,?_⟩
     .show[u,L2.T.int ((((off[j]).map ofT).length:Nat):Int)]=_;rw[ak]
     .exact⟨by lia,_,_,rfl⟩
   .rintro _ ⟨z,x,y,rfl⟩;exact absurd z (Nat.not_le_of_lt hk)
def xZ(D:Adr):SX:=λts _ z=>∃(s:Rat)(ns:Θ)(off:List (List bV))(v w:L2.T),ts=[hlT D s ns off,v]/\MF ns off/\PlX off v w/\z D.NoPlan ["room"] [w]
theorem Y9{t u:TS}{D:Ends}{σ:L2.St}{H:Hp}(h:∀u',u'=u->WW t u' D σ H):WW t u D σ H:=h u rfl
theorem adI{t u:TS}{D:Ends}{σ:L2.St}{H:Hp}(h:t { D with nx:=u D } σ H):WW t u D σ H:=h
theorem Jj(F:Fun K fY fY jG f fd)(T:Txt K mg D)(qH:aeU P w K mg base 4 eY gD (vW D))(fj:OkT P w K mg base 4 gw gC (m5 D))(jA:OkT P w K mg base 4 j_ jX rR)(gK:OkT P w K mg base 8 iy gY pI):b_ P w K mg base (CXO P w) 9 f fd iM (spX K (xZ D)):=by
 refine F.okTX iK (λts R Z hP=>by obtain⟨_,_,_,_,_,e,_⟩:=hP;exact e ▸ rfl) λah A outer s H E hr=>?_;refine⟨_,(bC (aaC qH hr.md (by rfl) (bw (qv 0) (bw (qv 1) bA)))
  (bC (bO 2 iK.nd (Or.inl rfl) (bH fj hr.md (by rfl) (bw (qv 0) (bw (qv 1) bA))))
  (bC (p8 (bF jG) mJ mJ ["offer"] (cF (qv 2)) (gj (i:=0)) cG (Ul (cu FP (qv 0) fX) (jL (by rfl) T.ig T.fB) (bI (qv 0) bx)) (iJ (i:=3) iK.nd rfl (Or.inl rfl)))
  (bG (bL (bH gK hr.md (by rfl) (bw (bH jA hr.md (by rfl) (bw (sG (Fm:=Fam D) (λC h=>⟨T.cl C h,T.Gq C h⟩) (qv 0)) (bw (qv 2) bA))) (bw (qv 3) bA)))))))),?_⟩
 rintro _ R Z ⟨s,ns,off,v,w,rfl,h,hp,q⟩;exact⟨s,ns,off,v,w,rfl,h,hp,q⟩
def HW(D:Adr):ST:=λts q=>∃(s:Rat)(ns:Θ)(off:List (List bV))(v w:L2.T),ts=[hlT D s ns off,v]/\MF ns off/\PlX off v w/\q (.fz (.tup [.str "plan",w]))
theorem Rt(F:Fun K sY sY BX f fd)(T:Txt K mg D)(sS:aeU P w K mg base 9 fY iM (xZ D)):b_ P w K mg base CX0 10 f fd tH (spT K (HW D)):=by
 refine F.ok FW (λvs H Q E h=>?_) (λah A outer s H vs Q E hr h=>?_)
 .obtain⟨ts,R,r,⟨_,_,_,_,_,rfl,_⟩,_⟩:=h;exact r.len
 .obtain⟨ts,R,r,⟨s',ns,off,v',w',rfl,hh,hp,q⟩,k⟩:=h;obtain⟨o,v,rfl⟩ : ∃o v,vs=[o,v]:=by
   match vs,r.len with
   |[o,v],_=>exact⟨o,v,rfl⟩
  refine⟨_,(uL (aan (i:=2) FW.nd rfl rfl (by rfl) T.FT T.XR T.Zu rfl rfl rfl (λ_ _ _ HF=>(rY (jV (Pk sS hr.md (by rfl) HF (cN (pv 0) (cN (pv 1) lA))))))
    (λ_ _=>(rY (Cz (Np (cN K8 (cN (Y0 (K':=K) rfl (pv 2) rfl) lA)))))))
   (rY (Cz (Np (cN K8 (cN X5 lA)))))),?_⟩
  refine Y9 λR1 hR1=>?_;refine adI ⟨λC d σ H'=>C=.ref D.NoPlan/\σ=[some o,some v,none]/\∃d' u,d=some d'/\Same H H'/\H' d'=some (.xd [("room",u)])/\Rep K H' u w',?_,?_⟩
  .refine⟨_,rfl,_,rfl,_,λ_=>False,λC ks us=>C=D.NoPlan/\ks=(["room"] : Θ)/\us=[w'],r,⟨s',ns,off,v',w',rfl,hh,hp,rfl,rfl,rfl⟩,(λ_ _ _ z=>z.elim),?_⟩;rintro H' C d ks us c6 ⟨rfl,rfl,rfl⟩ S hx ru
   match us,ru with
   |[u],.cons ru .nil=>exact⟨rfl,rfl,d,u,rfl,S,hx,ru⟩
  .rintro _ _ σ' H' ⟨rfl,rfl,d,u,rfl,S,hx,ru⟩;refine⟨D.NoPlan,rfl,T.sm_NoPlan,λa ha=>?_⟩;have S1:Same H' (upd H' a (XO a D.NoPlan (some d))):=Same.upd ha;have hX:upd H' a (XO a D.NoPlan (some d)) a=some (XO a D.NoPlan (some d)):=bW;generalize upd H' a (XO a D.NoPlan (some d))=H1 at S1 hX ⊢;exact⟨_,rfl,a,D.NoPlan,d,_,u,rfl,hX,S1 _ _ hx,T.xk_NoPlan,T.hd_NoPlan,T.ur,rfl,(show 2<=sizeLine by decide),λt H5 S5 ft et=>k H5 (.ref t) _ q (S.trans (S1.trans S5)) (NR.fz (by
    rw[Ez];exact .tup (.inl (Rd.of et)) (.cons (.str _) (.cons (ru.same (S1.trans S5)) .nil))))⟩
theorem Ea{α:Type}(l:List α)(c:Int){m:Nat}(hl:l.length=m)(h0:0<m):∃t,t∈l/\ixT l (c%(m:Nat))=some t:=by
 have a:=Z3 c (show((m:Nat):Int)≠0 by lia);have b:=YY c (show(0:Int)<(m:Nat)by lia);obtain⟨k,e⟩:=Zzt a;have hk:k<l.length:=by lia
 refine⟨l[k],aU hk,?_⟩;rw[e];show nth l k=_;rw[qR,aj hk]
def Z1:ST:=λts q=>∃(c:Int)(n:Nat),ts=[.int c,.int (n:Nat)]/\n<=100/\∀t,Gh t n=some false->q (.fz t)
theorem aez(F:Fun K Kw Kw Yx f fd)(T:Txt K mg D):b_ P w K mg base CX0 1 f fd Nk (spT K Z1):=by
 refine F.okT aeQ (λts R hP=>by obtain⟨_,_,e,_⟩:=hP;exact e ▸ rfl) λah A outer s H E hr=>?_;refine⟨_,(bC (cB (cu (go_eq hr.units) (qv 1) bx)
  (bG (bL (bI (cY (bw bx (bw mV (bw lF (bw (Cv bx) (bw (cY bA) (bw (cT (bw bx (bw bx bA))) bA))))))) (bJ cA (qv 0) bx))))
  bQ)
  (bG (bL (bI (cY (bw fX (bw (Cv bx) (bw (qv 1) (bw mV (bw mV (bw lF (bw (cY (bw bx bA)) (bw (bJ cD (qv 1) (bJ KD bx bx)) bA))))))))) (bJ cA (qv 0) bx))))),?_⟩
 rintro _ R ⟨c,n,rfl,nl,q⟩;refine swD (λh=>?_) λh=>?_
 .have n0:n=0:=by lia
  subst n0;refine⟨by decide,?_⟩;obtain⟨t,ht,e⟩:=Ea [L2.T.int 0,.bl false,.str "",.int (-1),.lst [],.tup [.int 0,.int 1]] c rfl (by decide);refine⟨t,e,q t ?_⟩
  revert t
  simp only[YU,VU,or_false];rintro t (rfl|rfl|rfl|rfl|rfl|rfl) _<;>rfl
 .have n0:n≠0:=by lia
  refine⟨?_,?_⟩
  .exact⟨by decide,by decide⟩
  have e30:(10:Int)^Int.toNat 30=10^30:=rfl;dsimp only[frz];rw[e30];refine⟨by decide,?_⟩;obtain⟨t,ht,e⟩:=Ea [L2.T.non,.int (-1),.int (n:Nat),.bl true,.bl false,.str "0",.lst [.int 0],.int ((n:Nat)+10^30)] c (m:=8) rfl (by decide);refine⟨t,e,q t ?_⟩
  revert t
  simp only[YU,VU,or_false];have big:(100:Int)<10^30:=by decide
  rintro t (rfl|rfl|rfl|rfl|rfl|rfl|rfl|rfl) _<;>unfold Gh<;>rw[ZZ n0]<;>first|rfl|(refine ZH some ?_;rw[Zp (show ¬(_:Int)<(n:Nat)by lia),Bool.and_false])
theorem fK{i:Int}(h:i.natAbs<18446744073709551616):Bd i:=aR h (aL (by decide:18446744073709551616<=2^64) (XT (by decide) (by decide)))
noncomputable abbrev scT(ns:List Int):T:=.scr (ns.map T.int)
def Mh:ST:=λts q=>∃(ns:List Int)(k:Nat),ts=[scT ns,.int (k:Nat)]/\ns.length<=100/\q (.fz (.int (ns.getD k 0)))
theorem Al{α β:Type}(h:α->β)(l:List α)(lo hi:Option Int):fH (l.map h) lo hi=(fH l lo hi).map h:=by unfold fH;rw[ak,List.map_take,List.map_drop]
theorem ab2{α:Type}(l:List α)(k:Nat):fH l (some (k:Int)) (some ((k:Int)+1))=(l.drop k).take 1:=by
 unfold fH HT.sIx;show List.take ((if(k:Int)+1<0 then _ else min ((k:Int)+1).toNat l.length)-(if(k:Int)<0 then _ else min (k:Int).toNat l.length)) (List.drop (if(k:Int)<0 then _ else min (k:Int).toNat l.length) l)=_;rw[ZZ (by lia),ZZ (Int.not_lt_of_ge (Wp _))];by_cases h:k<l.length
 .rw[show min ((k:Int)+1).toNat l.length=k+1 by lia,show min (k:Int).toNat l.length=k by lia,show k+1-k=1 by exact Tk _ _]
 .rw[show min (k:Int).toNat l.length=l.length by lia,List.drop_length,Th (Up h),List.take_nil,List.take_nil]
theorem abn(F:Fun K Ab Ab Sq f fd):b_ P w K mg base CX0 1 f fd Bx (spT K Mh):=by
 refine F.okT acG (λts R hP=>by obtain⟨_,_,e,_⟩:=hP;exact e ▸ rfl) λah A outer s H E hr=>?_;refine⟨_,(bG (bL (bI (bJ cD (i_ (qv 0) (gq (qv 1)) (gq (bJ cD (qv 1) bx))) (cY (bw bx bA))) bx))),?_⟩;rintro _ R ⟨ns,k,rfl,hl,q⟩;have e:fH (ns.map L2.T.int) (some (k:Int)) (some ((k:Int)+1))=((ns.drop k).take 1).map L2.T.int:=by rw[Al,ab2]
 refine⟨?_,.int (ns.getD k 0),?_,q⟩
 .show(fH (ns.map L2.T.int) (some (k:Int)) (some ((k:Int)+1))).length+1<=sizeLine;rw[e,ak,aY];exact aL (show _<=2 by lia) (by decide)
 .show ixT (fH (ns.map L2.T.int) (some (k:Int)) (some ((k:Int)+1))++[L2.T.int 0]) 0=_;rw[e];by_cases h:k<ns.length
  .rw[QP h,List.take_succ_cons,au,aj h]
   rfl
  .rw[Th (Up h),au,aM (Up h)]
   rfl
noncomputable def strN(c:Int):Nat->Int×Int
 |0=>((c%1999999973+31)*765432101%1999999973,if c<0\/10^18<=c then(c.natAbs:Int)else 0)
 |k+1=>(((strN c k).1*((strN c k).1%65521+40487)+7*(k:Int)+5)%1999999973,(strN c k).2.fdiv 1000000)
def strm(c:Int)(k:Nat):Int:=if 0<(strN c k).2 then(strN c k).2%1000000 else(strN c (k+1)).1
theorem Vm(c:Int):∀k,0<=(strN c k).1/\(strN c k).1<1999999973
 |0=>⟨Z3 _ (by decide),YY _ (by decide)⟩
 |_+1=>⟨Z3 _ (by decide),YY _ (by decide)⟩
theorem jY(c:Int)(k:Nat):0<=strm c k/\strm c k<2000000000:=by
 unfold strm;have:=Vm c (k+1);split<;>lia
abbrev jh(c:Int)(n:Nat):List Int:=(List.range n).map (strm c)
def jC:ST:=λts q=>∃(c:Int)(n:Nat),ts=[.int c,.int (n:Nat)]/\n<=1000/\q (.l1 ((jh c n).map T.int))
theorem Wy(F:Fun K gH gH GF f fd)(T:Txt K mg D):b_ P w K mg base CX0 1 f fd gG (spT K jC):=by
 refine F.okT jE (λts R hP=>by obtain⟨_,_,e,_⟩:=hP;exact e ▸ rfl) λah A outer s H E hr=>?_;refine⟨_,(bC (jz 2 jE.nd (Or.inl rfl) (cY bA))
  (bC (bO 3 jE.nd (Or.inl rfl) (bJ cA (bJ cC (bJ cD (bJ cA (qv 0) bx) bx) bx) bx))
  (bC (bO 4 jE.nd (Or.inl rfl) bx)
  (bC (cB (QW.qt (lg (cu vJ (qv 0) bx) (iV (cu adA (qv 0) (bJ KD bx bx)))))
  (bG (bO 4 jE.nd (Or.inl rfl) (bM GR (by rfl) T.Ri boot_abs (bw (qv 0) bA))))
  bQ)
  (bC (dO VY rfl (dX (by rfl) T.fU (bw (qv 1) bA)) (bZ (n:=99) 5 jE.nd (Or.inl rfl))
  (bC (bO 3 jE.nd (Or.inl rfl) (bJ cA (bJ cD (bJ cD (bJ cC (qv 3) (bJ cD (bJ cA (qv 3) bx) bx)) (bJ cC bx (qv 5))) bx) bx))
  (bC (wg 2 (bI (cY (bw (qv 3) (bw (bJ cA (qv 4) bx) bA))) (oZ afQ (by rfl) T.Y4 boot_int (bw (m6 JT (qv 4) bx) bA))))
  (bG (bO 4 jE.nd (Or.inl rfl) (bJ lK (qv 4) bx))))))
  (bG (oK 2))))))),?_⟩
 rintro _ R ⟨c,n,rfl,hn,q⟩;refine sq4 (λo=>o=[.fz (.int c),.fz (.int (n:Nat)),.l1 [],.fz (.int (strN c 0).1),.fz (.int (strN c 0).2),.und]) ?_ λY go=>?_
 .rintro _ rfl;refine⟨⟨by lia,by lia⟩,?_⟩;refine rM (λk o=>∃x,o=[.fz (.int c),.fz (.int (n:Nat)),.l1 ((jh c k).map L2.T.int),.fz (.int (strN c k).1),.fz (.int (strN c k).2),x]) ⟨_,rfl⟩ ?_ ?_
  .rintro k _ hk ⟨x,rfl⟩;have b:=Vm c k;refine⟨by decide,⟨fK (by lia),fK (by lia)⟩,⟨fK (by decide),fK (by lia)⟩,by decide,by decide,.int (strm c k),?_,?_,⟨by decide,fK (by decide)⟩,.fz (.int k),?_⟩
   .by_cases h:0<(strN c k).2
    .rw[Zs h];unfold strm;rw[ZY h]
     rfl
    .rw[Zp h];unfold strm;rw[ZZ h]
     rfl
   .rw[ak,ak,WJ];exact aR (show k<1001 by lia) (by decide)
   .rw[show jh c (k+1)=jh c k++[strm c k]by simp[jh,List.range_succ],bf]
    rfl
  .rintro _ ⟨x,rfl⟩;exact q
 .refine⟨by decide,⟨fK (by lia),fK (by decide)⟩,by decide,?_⟩;refine swD (λh=>go _ ?_) λh=>⟨⟨by decide,by decide,by decide⟩,swD (λh'=>go _ ?_) λh'=>go _ ?_⟩
  .show _=[_,_,_,_,OT.fz (L2.T.int (if c<0\/10^18<=c then(c.natAbs:Int)else 0)),_];rw[ZY (.inl h)]
   rfl
  .show _=[_,_,_,_,OT.fz (L2.T.int (if c<0\/10^18<=c then(c.natAbs:Int)else 0)),_];rw[ZY (.inr h')]
   rfl
  .show _=[_,_,_,_,OT.fz (L2.T.int (if c<0\/10^18<=c then(c.natAbs:Int)else 0)),_];rw[ZZ (λz=>z.elim h h')]
   rfl
def R6:ST:=λts q=>∃a b:Int,ts=[.int a,.int b]/\q (.fz (.int (Int.gcd a b)))
theorem aes(F:Fun K FZ FZ X_ f fd)(T:Txt K mg D):b_ P w K mg base CX0 1 f fd Hy (spT K R6):=by
 refine F.okT K6 (λts R hP=>by obtain⟨_,_,e,_⟩:=hP;exact e ▸ rfl) λah A outer s H E hr=>?_;refine⟨_,(bC (Ga (bM WT (by rfl) T.Xh boot_sorted (bw (cY (bw (bM GR (by rfl) T.Ri boot_abs (bw (qv 0) bA)) (bw (bM GR (by rfl) T.Ri boot_abs (bw (qv 1) bA)) bA))) bA)) (aeu (n:=2) rfl (bT (bZ (n:=99) 2 K6.nd (Or.inl rfl)) (bT (bZ (n:=99) 3 K6.nd (Or.inl rfl)) dz))))
  (bC (Qf VY (cu JT (qv 2) bx)
  (bG (afC 2 3 rfl K6.nd (by decide) (bw (bJ cA (qv 3) (qv 2)) (bw (qv 2) bA)))))
  (bG (bL (qv 3))))),?_⟩
 rintro _ R ⟨a,b,rfl,q⟩;refine⟨[(a.natAbs:Int),(b.natAbs:Int)],rfl,by simp,λms pm so=>?_⟩;obtain⟨l,h,rfl,hg⟩ : ∃l h:Nat,ms=[(l:Int),(h:Int)]/\Nat.gcd l h=Int.gcd a b:=by
  have ln:=pm.length_eq
  match ms,ln with
  |[x,y],_ =>
   have hx:x=(a.natAbs:Int)\/x=(b.natAbs:Int):=by simpa using pm.subset (aO ..)
   rcases hx with rfl|rfl
   .have:=(List.perm_cons _).mp pm;have:=List.perm_singleton.mp this;cases this;exact⟨_,_,rfl,rfl⟩
   .have:=(List.perm_cons _).mp (pm.trans (List.Perm.swap _ _ _));have:=List.perm_singleton.mp this;cases this;exact⟨_,_,rfl,Nat.gcd_comm _ _⟩
 refine⟨rfl,λm o=>∃(l h:Nat),o=[.fz (.int a),.fz (.int b),.fz (.int l),.fz (.int h)]/\Nat.gcd l h=Int.gcd a b/\m=l,⟨_,_,_,rfl,hg,rfl⟩,?_⟩;rintro m _ ⟨l,h,rfl,hg,rfl⟩;refine swD (λhl=>?_) λhl=>?_
 .refine⟨λo=>o=[.fz (.int a),.fz (.int b),.fz (.int ((h%m:Nat):Int)),.fz (.int m)],?_,?_⟩
  .rintro _ rfl;exact⟨h%m,Nat.mod_lt _ (by lia),h%m,m,rfl,(Nat.gcd_rec m h).symm.trans hg,rfl⟩
  .exact⟨hl,by rw[Int.natCast_emod];rfl⟩
 .have:m=0:=by lia
  subst this;rw[Nat.gcd_zero_left]at hg;rw[<- hg]at q;exact q
def wY:ST:=λts q=>∃a b:Int,ts=[.int a,.int b]/\0<b/\Bd b/\q (.fz (frR (Rat.divInt a b)))
theorem VP(F:Fun K oX oX G4 f fd)(J2:OkT P w K mg base 1 FZ Hy R6):b_ P w K mg base CX0 2 f fd oW (spT K wY):=by
 refine F.okT JF (λts R hP=>by obtain⟨_,_,e,_⟩:=hP;exact e ▸ rfl) λah A outer s H E hr=>?_;refine⟨_,(bC (bO 2 JF.nd (Or.inl rfl) (bH J2 hr.md (by rfl) (bw (qv 0) (bw (qv 1) bA))))
  (bG (bL (cT (bw (bJ lK (qv 0) (qv 2)) (bw (bJ lK (qv 1) (qv 2)) bA)))))),?_⟩
 rintro _ R ⟨a,b,rfl,hb,hd,q⟩;have nb:b≠0:=by exact WS hb
 have g0:=mj (a:=a) nb;have g1:=RL (a:=a) nb hd;refine⟨_,_,rfl,⟨by exact WS g0,g1⟩,⟨by exact WS g0,g1⟩,?_⟩;have l:=uX (t:=a) nb (c:=(Int.gcd a b:Nat)) (WS g0) (by lia) (XZ g0 hb);rw[<- jo l nb]at q;exact q
def Az:ST:=λts q=>∃r:Rat,ts=[frR r]/\q (.fz (.bl true))
theorem Lr(F:Fun K nu nu wj f fd)(T:Txt K mg D)(J2:OkT P w K mg base 1 FZ Hy R6):b_ P w K mg base CX0 2 f fd oO (spT K Az):=by
 refine F.okT A_ (λts R hP=>by obtain⟨_,e,_⟩:=hP;exact e ▸ rfl) λah A outer s H E hr=>?_;refine⟨_,(bC (cB (QW.qt (lg (dG (dg (pR .tuple (qv 0) (by rfl) T.c7 (by rfl) T.Kv boot_tuple))) (iV (cu (pF hr.units) (bM cJ (by rfl) T.cZ WG (bw (qv 0) bA)) bx))))
  (bG (bL mV))
  bQ)
  (bC (dO VY rfl (adW (qv 0)) (bZ (n:=99) 1 A_.nd (Or.inl rfl))
  (bG (cB (QW.qt (lg (dG (dg (pR .int (qv 1) (by rfl) T.c7 (by rfl) T.Y4 boot_int))) (iV (dg (pR .bool (qv 1) (by rfl) T.c7 (by rfl) T.Tr boot_bool)))))
  (bG (bL mV))
  bQ)))
  (bG (bL (vf (m6 JT (bI (qv 0) bx) bx) (yE (m6 (go_eq hr.units) (bH J2 hr.md (by rfl) (bw (bI (qv 0) bx) (bw (bI (qv 0) bx) bA))) bx))))))),?_⟩
 rintro _ R ⟨r,rfl,q⟩;have:=r.den_pos;refine⟨λo=>∃x,o=[.fz (frR r),x],?_,⟨_,rfl⟩⟩;rintro _ ⟨x,rfl⟩;refine⟨λo=>∃x,o=[.fz (frR r),x],?_,⟨_,rfl⟩⟩;rintro _ ⟨x,rfl⟩;refine swT (Zs (by lia)) ⟨_,_,rfl,?_⟩;rw[show Int.gcd r.num r.den=1 from r.reduced];exact q
def xU:ST:=λts q=>∃(rs:List Rat)(m:Nat),ts=[.lst (rs.map frR),.int (m:Nat)]/\rs.length=m/\m<=1000/\q (.fz (.bl true))
theorem Ig(F:Fun K lR lR ou f fd)(T:Txt K mg D)(vZ:OkT P w K mg base 2 nu oO Az):b_ P w K mg base CX0 3 f fd lO (spT K xU):=by
 refine F.okT Jo (λts R hP=>by obtain⟨_,_,e,_⟩:=hP;exact e ▸ rfl) λah A outer s H E hr=>?_;refine⟨_,(bC (cB (QW.qt (lg (dG (dg (pR .list (qv 0) (by rfl) T.c7 (by rfl) T.yD boot_list))) (iV (cu (pF hr.units) (bM cJ (by rfl) T.cZ WG (bw (qv 0) bA)) (qv 1)))))
  (bG (bL mV))
  bQ)
  (bG (bL (bM (YS rfl) (by rfl) T.ac9 boot_all (bw (d_ (bF ou) sU sU ["_law_one"] (cF (qv 0)) (gj (i:=0)) cG (bH vZ hr.md (by rfl) (bw (qv 0) bA))) bA))))),?_⟩
 rintro _ R ⟨rs,m,rfl,hl,hm,q⟩;refine swF (by rw[ak,hl,Zs rfl];rfl) ⟨by rw[ak,hl];exact aL hm (by decide),comp_map frR (λ_=>.bl true) rs (λr _ N M hN=>⟨r,rfl,hN⟩) ⟨rs.map λ_=>true,by rw[WP];rfl,?_⟩⟩;have e:((rs.map λ_=>true).all λb=>b)=true:=by simp
 rw[<- e]at q;exact q
noncomputable def WD(c:Nat):Bool:=decide (97<=c)&&decide (c<=122)
noncomputable def ltL:List Nat:=(Str.ofString "abcdefghijklmnopqrstuvwxyz").cps.toList
theorem ad6:∀i:Fin 26,nth ltL i.val=some (97+i.val):=by decide +kernel
theorem Zi{i:Int}(h0:0<=i)(h1:i<26):ixT ltL i=some (97+i.toNat):=by
 obtain⟨k,rfl⟩:=Zzt h0;exact ad6 ⟨k,by lia⟩
theorem RN{n:Nat}(h:n<26):WD (97+n)=true:=by
 unfold WD;rw[Zs (show 97<=97+n by exact X2 _ _),Zs (show 97+n<=122 by lia)];rfl
theorem nF(x:Str):x.cps.toList.length=x.length:=Array.length_toList
theorem Ug(x y:Str):(x++y).cps.toList=x.cps.toList++y.cps.toList:=by
 show(x.cps++y.cps).toList=_;rw[Array.toList_append]
theorem ab1(x y:Str):(x++y).length=x.length+y.length:=by
 show(x.cps++y.cps).size=_;rw[Array.size_append];rfl
theorem Yb{x:Str}{n:Nat} : (Dp x none (some (n:Int))).cps.toList=x.cps.toList.take n:=by
 unfold Dp;have hl:x.cps.toList.length=x.length:=Array.length_toList;show((x.cps.toList.drop 0).take (HT.sIx x.length x.length (some (n:Int))-0))=_;rw[HT.w6,List.drop_zero,Nat.sub_zero,<- hl];rw[List.take_eq_take_iff];lia
theorem QZ{x:Str}{n:Nat} : (Dp x (some (n:Int)) none).cps.toList=x.cps.toList.drop n:=by
 unfold Dp;have hl:x.cps.toList.length=x.length:=Array.length_toList;show((x.cps.toList.drop (HT.sIx x.length 0 (some (n:Int)))).take (x.length-HT.sIx x.length 0 (some (n:Int))))=_;rw[HT.w6,<- hl];by_cases h:n<=x.cps.toList.length
 .rw[Nat.min_eq_left h];exact Zzz (by rw[UP];exact aG _)
 .rw[Th (by lia:x.cps.toList.length<=n),Th (by lia),List.take_nil]
theorem Vr{α:Type}{ys:List α}{a b:Nat}(ab:a<=b)(h:b<=ys.length):fH ys (some (a:Int)) (some (b:Int))=(ys.drop a).take (b-a):=by
 unfold fH;rw[HT.w6,HT.w6,Nat.min_eq_left h,Nat.min_eq_left (aL ab h)]
theorem acW{x:Str}(h:x.cps.toList.all WD=true)(lo:1<=x.length)(hi:x.length<=8):Wd x:=by
 unfold Wd Ur;rw[nF,Zs lo,Zs hi];exact h
structure Nms(ns:Θ)(n:Nat):Prop where
 len:ns.length=n
 nd:ns.Nodup
 wd:∀x∈ns,Wd x
theorem Vo{R:Nat->Str->Prop}{n:Nat}{ns:Θ}(h:∀(i:Nat)x,ns[i]?=some x->R i x)(l:ns.length=n)(u:∀i j x,i<j->j<n->R i x->R j x->False):ns.Nodup:=by
 unfold List.Nodup;rw[List.pairwise_iff_getElem];intro i j hi hj ij e;exact u i j ns[i] ij (l ▸ hj) (h i _ (aj hi)) (by rw[e];exact h j _ (aj hj))
theorem JW{g:HG}{c:RT}{e:RE}{o:List OT}{q:List T->Prop}(R:Nat->Str->Prop)(n:Nat)(st:∀k,k<n->∀(N:T->Prop)(M:Prop),(∀x,R k x->N (.str x))->g (.int (k:Nat)) o λo'=>c o' λb=>sw b (e o' λy=>N (frz y)) M)(k:∀ns:Θ,ns.length=n->(∀(i:Nat)x,ns[i]?=some x->R i x)->q (ns.map T.str)):iZ g c e o (rng 0 n) q:=by
 have go:∀(m j:Nat),j+m=n->∀(us:Θ),us.length=j->(∀(i:Nat)x,us[i]?=some x->R i x)->∀{q:List T->Prop},(∀ns:Θ,ns.length=n->(∀(i:Nat)x,ns[i]?=some x->R i x)->(∃vs,ns=us++vs/\q (vs.map T.str))\/¬∃vs,ns=us++vs)->iZ g c e o ((List.range' j m).map λk:Nat=>.int ((0:Int)+k)) q:=by
  intro m
  induction m with
  |zero =>
   intro j ej us lu hu q hq;rcases hq us (by lia) hu with⟨vs,e,z⟩|z
   .have:vs=[]:=by simpa using e
    rw[this]at z;exact z
   .exact absurd ⟨[],(List.append_nil us).symm⟩ z
  |succ m ih =>
   intro j ej us lu hu q hq;rw[List.range'_succ,List.map_cons];refine WQ ?_;rw[Int.zero_add];refine st j (by lia) (λt=>iZ g c e o ((List.range' (j+1) m).map λk:Nat=>.int ((0:Int)+k)) λus=>q (t::us)) (iZ g c e o ((List.range' (j+1) m).map λk:Nat=>.int ((0:Int)+k)) q) λx hx=>?_;refine ih (j+1) (by lia) (us++[x]) (by simp[lu]) (λi y ey=>?_) λns ln hn=>?_
   .by_cases hi:i<us.length
    .rw[aF hi]at ey;exact hu i y ey
    .have hl:=(ao.mp ey).1;rw[aA,List.length_singleton]at hl;have:i=us.length:=by lia
     subst this;rw[aD (aG _),Nat.sub_self]at ey;cases ey;exact lu ▸ hx
   .by_cases z:∃vs,ns=us++[x]++vs
    .obtain⟨vs,e⟩:=z;refine .inl ⟨vs,e,?_⟩;rcases hq ns ln hn with⟨ws,e',q'⟩|z
     .rw[e,WZ]at e';have:=List.append_cancel_left e';rw[<- this]at q';exact q'
     .exact absurd ⟨x::vs,by rw[e,WZ];rfl⟩ z
    .exact .inr z
 have:=go n 0 (Nat.zero_add _) [] rfl (λi x z=>by cases z) (q:=q) λns ln hn=>.inl ⟨ns,rfl,k ns ln hn⟩;rw[<- List.range_eq_range']at this;exact this
def nm1(c:Nat)(i:Nat)(x:Str):Prop:=x.cps.toList=List.replicate (i+1) c
def nm2(b:List Nat)(at_:Nat)(x0 st:Int)(i:Nat)(x:Str):Prop:=x.cps.toList=b.take at_++(97+((x0+st*i)%26).toNat)::b.drop at_
theorem acH{b:List Nat}{at_:Nat}{x0 st:Int}{i j:Nat}{x:Str}(hs:st=1\/st=3\/st=5\/st=7\/st=9\/st=11)(ij:i<j)(hj:j<26)(h1:nm2 b at_ x0 st i x)(h2:nm2 b at_ x0 st j x):False:=by
 have e:=h1.symm.trans h2;have e:=List.append_cancel_left e;injection e with e _;rcases hs with rfl|rfl|rfl|rfl|rfl|rfl<;>omega
theorem ad8{c i:Nat}{x:Str}(hc:WD c=true)(hi:i<8)(h:nm1 c i x):Wd x:=by
 have l:=nF x;rw[h,aN]at l;refine acW ?_ (by lia) (by lia);rw[h,List.all_eq_true];intro d hd;rw[(List.mem_replicate.mp hd).2];exact hc
theorem adE{b:List Nat}{at_:Nat}{x0 st:Int}{i:Nat}{x:Str}(hb:b.all WD=true)(hl:b.length<=7)(h:nm2 b at_ x0 st i x):Wd x:=by
 have l:=nF x;rw[h,aA,List.length_cons,aY,UP]at l;refine acW ?_ (by lia) (by omega);rw[h,List.all_eq_true];rw[List.all_eq_true]at hb;intro d hd;rcases Y1.mp hd with hd|hd
 .exact hb d (List.mem_of_mem_take hd)
 .rcases YU.mp hd with rfl|hd
  .exact RN (by lia)
  .exact hb d (List.mem_of_mem_drop hd)
theorem JM:∀(ys:Θ)(acc:Array Nat),(ys.foldl (λacc p=>acc++(Str.ofString "").cps++p.cps) acc).toList=acc.toList++(ys.map λy=>y.cps.toList).flatten
 |[],acc=>by simp
 |y::ys,acc=>by
  have e0:(Str.ofString "").cps = #[]:=by decide +kernel
  rw[List.foldl_cons,JM ys,e0,Array.append_empty,Array.toList_append,List.map_cons,List.flatten_cons,WZ]
theorem glue(ys:Θ):(Txt.join (Str.ofString "") ys).cps.toList=(ys.map λy=>y.cps.toList).flatten:=by
 show((ys.drop 1).foldl (λacc p=>acc++(Str.ofString "").cps++p.cps) (ys.headD Str.empty).cps).toList=_;rw[JM];cases ys with
 |nil=>rfl
 |cons y ys=>rfl
theorem afy{c d:RT}{x y z:RS}{E:DT}{o:List OT}(b:Bool)(h:∀q:Bool->Prop,q b->afw c d o q)(hq:sw b (x { E with nx:=z E } o) (y { E with nx:=z E } o)):jw (ajw (afw c d) x y) z E o:=h (λk=>sw k (x { E with nx:=z E } o) (y { E with nx:=z E } o)) hq
def Qg:ST:=λts q=>∃(c:Int)(n:Nat),ts=[.int c,.int (n:Nat)]/\n<=26/\∀ns:Θ,Nms ns n->q (.l1 (ns.map T.str))
theorem cX{c:Int}{n k:Nat}(h:k<n):ixT ((jh c n).map T.int) (k:Nat)=some (.int (strm c k)):=by
 show nth ((jh c n).map T.int) k=_;rw[qR,aq,aq,UZ h];rfl
theorem aar(F:Fun K Ar Ar w5 f fd)(T:Txt K mg D)(cU:OkT P w K mg base 1 gH gG jC):b_ P w K mg base CX0 2 f fd Bw (spT K Qg):=by
 refine F.okT qZ (λts R hP=>by obtain⟨_,_,e,_⟩:=hP;exact e ▸ rfl) λah A outer s H E hr=>?_;refine⟨_,(bC (bO 2 qZ.nd (Or.inr rfl) lF)
  (bC (bO 3 qZ.nd (Or.inr rfl) (bH cU hr.md (by rfl) (bw (qv 0) (bw bx bA))))
  (bC (cB (QW.qt (Ye (cu (go_eq hr.units) (bJ cA (bI (qv 3) bx) bx) bx) (Um (cu Jy (qv 1) bx))))
  (bG (bL (d_ (bF w5) tY tY ["_law_k"] (dX (by rfl) T.fU (bw (qv 1) bA)) (gj (i:=0)) cG (bJ cC (bI (qv 3) (bJ cA (bI (qv 4) bx) bx)) (bJ cD (qv 0) bx)))))
  bQ)
  (bC (bO 4 qZ.nd (Or.inr rfl) (abU lF (bw (d_ (bF w5) tY tY ["_law_x"] (cF (i_ (qv 3) (gq bx) (gq (bJ cD bx (bJ cA (bI (qv 3) bx) bx))))) (gj (i:=0)) cG (bI (qv 3) (bJ cA (qv 0) bx))) bA)))
  (bC (bO 5 qZ.nd (Or.inr rfl) (bJ cA (bI (qv 3) bx) bx))
  (bC (bO 6 qZ.nd (Or.inr rfl) (bI (cY (bw bx (bw bx (bw bx (bw bx (bw bx (bw bx bA))))))) (bJ cA (bI (qv 3) bx) bx)))
  (bG (bL (d_ (bF w5) tY tY ["_law_k"] (dX (by rfl) T.fU (bw (qv 1) bA)) (gj (i:=0)) cG (bJ cD (bJ cD (i_ (qv 5) yU (gq (qv 6))) (bI (qv 3) (bJ cA (bJ cD (bI (qv 4) bx) (bJ cC (qv 7) (qv 0))) bx))) (i_ (qv 5) (gq (qv 6)) yU))))))))))),?_⟩
 rintro _ R ⟨c,n,rfl,hn,q⟩;refine⟨c,11,rfl,by decide,?_⟩;have s0:=jY c 0;have s1:=jY c 1;have lL:(Str.ofString "abcdefghijklmnopqrstuvwxyz").length<=sizeLine:=aL (show _<=1000 by decide +kernel) (by decide);have rl:(rng 0 n).length<=sizeLine:=by rw[rng,ak,WJ];exact aL hn (by decide)
 dsimp only;refine afy (decide (strm c 0%3=1)&&decide ((n:Int)<=8)) (λq hq=>?_) ?_
 .refine⟨_,cX (k:=0) (by decide),by decide,?_⟩;refine swD (λh=>?_) λh=>?_
  .rw[Zs h,Bool.true_and]at hq;exact hq
  .rw[Zp h,Bool.false_and]at hq;exact hq
 .refine sw2 (λhb=>?_) λhb=>?_
  .simp only[JS,decide_eq_true_eq]at hb;refine⟨⟨by lia,by lia⟩,rl,JW (nm1 (97+(strm c 1%26).toNat)) n (λk hk N M hN=>?_) λns ln eh=>q ns ⟨ln,Vo eh ln λi j x ij hj h1 h2=>?_,λx hx=>?_⟩⟩
   .refine⟨_,cX (k:=1) (by decide),by decide,lL,_,Zi (Z3 _ (by decide)) (YY _ (by decide)),_,rfl,by lia,by lia,λz hz=>hN z ?_⟩;rw[show((k:Int)+1).toNat=k+1 by lia]at hz;exact hz
   .have:=ZH List.length (h1.symm.trans h2);rw[aN,aN]at this;lia
   .obtain⟨i,hi⟩:=aV hx;have li:=(ao.mp hi).1;exact ad8 (RN (by lia)) (by lia) (eh i x hi)
  .obtain⟨m,em,hm⟩ : ∃m:Nat,strm c 1%8=m/\m<=7:=⟨(strm c 1%8).toNat,by lia,by lia⟩;have ec:fH ((jh c 11).map L2.T.int) (some 2) (some (2+strm c 1%8))=(((jh c 11).drop 2).take m).map L2.T.int:=by
    rw[em,Al];have:=Vr (ys:=jh c 11) (a:=2) (b:=2+m) (X2 _ _) (by rw[ak,WJ];lia);rw[show 2+m-2=m by exact Tk _ _]at this;exact ZH (List.map L2.T.int) this
   have ml:(((jh c 11).drop 2).take m).length=m:=by rw[aY,UP,ak,WJ];lia
   refine⟨_,cX (k:=1) (by decide),by decide,?_⟩;dsimp only[frz];show(fH ((jh c 11).map L2.T.int) (some 2) (some (2+strm c 1%8))).length<=sizeLine/\_;rw[ec];have c26:∀x∈((jh c 11).drop 2).take m,0<=x:=λx hx=>by
    obtain⟨k,_,rfl⟩:=YV.mp (List.mem_of_mem_drop (List.mem_of_mem_take hx));exact(jY c k).1
   generalize((jh c 11).drop 2).take m=us at ml c26 ⊢;have e0:(Str.ofString "").length=0:=by decide +kernel
   refine⟨by rw[ak,ml];exact aL hm (by decide),comp_map L2.T.int (λx=>.str ⟨#[97+(x%26).toNat]⟩) us (λx hx N M hN=>⟨by decide,lL,_,Zi (Z3 _ (by decide)) (YY _ (by decide)),hN⟩) ⟨us.map λx=>⟨#[97+(x%26).toNat]⟩,by rw[WP];rfl,?_,?_⟩⟩
   .rw[e0,Nat.mul_zero,Nat.add_zero,WP,show((λx:Str=>x.length) ∘ λx:Int=>(⟨#[97+(x%26).toNat]⟩ : Str))=λ_=>1 from rfl,List.map_const',List.sum_replicate_nat];lia
   have bc:(Txt.join (Str.ofString "") (us.map λx=>(⟨#[97+(x%26).toNat]⟩ : Str))).cps.toList=us.map λx=>97+(x%26).toNat:=by
    rw[glue,WP]
    clear ml c26 ec
    induction us with
    |nil=>rfl
    |cons x us ih=>rw[List.map_cons,List.flatten_cons,ih];rfl
   have bl:(Txt.join (Str.ofString "") (us.map λx=>(⟨#[97+(x%26).toNat]⟩ : Str))).length<=7:=by rw[<- nF,bc,ak];exact aL (WH ml) hm
   have ba:(us.map λx=>97+(x%26).toNat).all WD=true:=by
    rw[List.all_eq_true];intro d hd;obtain⟨x,hx,rfl⟩:=YV.mp hd;exact RN (by lia)
   rw[<- bc]at ba;generalize Txt.join (Str.ofString "") (us.map λx=>(⟨#[97+(x%26).toNat]⟩ : Str))=st at bl ba ⊢
   clear bc
   have s9:=jY c 9;have ie:=jY c 10;obtain⟨ap,eap,nE⟩ : ∃ap:Nat,strm c 9%8=ap/\ap<=7:=⟨(strm c 9%8).toNat,by lia,by lia⟩;obtain⟨sv,es,hs⟩ : ∃sv:Int,ixT [L2.T.int 1,L2.T.int 3,L2.T.int 5,L2.T.int 7,L2.T.int 9,L2.T.int 11] (strm c 10%6)=some (.int sv)/\(sv=1\/sv=3\/sv=5\/sv=7\/sv=9\/sv=11):=by
    obtain e|e|e|e|e|e:strm c 10%6=0\/strm c 10%6=1\/strm c 10%6=2\/strm c 10%6=3\/strm c 10%6=4\/strm c 10%6=5:=by lia
    .exact⟨1,by rw[e];rfl,by decide⟩
    .exact⟨3,by rw[e];rfl,by decide⟩
    .exact⟨5,by rw[e];rfl,by decide⟩
    .exact⟨7,by rw[e];rfl,by decide⟩
    .exact⟨9,by rw[e];rfl,by decide⟩
    .exact⟨11,by rw[e];rfl,by decide⟩
   have z7:(16:Nat)<=sizeLine:=by decide
   refine⟨_,cX (k:=9) (by decide),by decide,?_⟩;dsimp only[frz];rw[eap];refine⟨_,cX (k:=10) (by decide),by decide,_,es,⟨by lia,by lia⟩,rl,JW (nm2 st.cps.toList ap (strm c 0) sv) n (λk hk N M hN=>?_) λns ln eh=>q ns ⟨ln,Vo eh ln λi j x ij hj h1 h2=>acH hs ij (aR hj hn) h1 h2,λx hx=>?_⟩⟩
   .have t1:(Dp st none (some (ap:Int))).length<=7:=by rw[<- nF,Yb,aY,nF];lia
    have t2:(Dp st (some (ap:Int)) none).length<=7:=by rw[<- nF,QZ,UP,nF];exact aL (Nat.sub_le _ _) bl
    have t3:∀d:Nat,({ cps:=#[d] } : Str).length=1:=λ_=>rfl;refine⟨by exact aL bl (by decide),_,cX (k:=0) (by decide),⟨fK (by lia),fK (by lia)⟩,by decide,lL,_,Zi (Z3 _ (by decide)) (YY _ (by decide)),by rw[t3];lia,by exact aL bl (by decide),by rw[ab1,t3];lia,hN _ ?_⟩;unfold nm2;rw[Ug,Ug,Yb,QZ,WZ];rfl
   .obtain⟨i,hi⟩:=aV hx;exact adE ba (by rw[nF];exact bl) (eh i x hi)
theorem Xz{α:Type}(l:List α)(h:α->T){i:Int}(h0:0<=i)(h1:i<l.length):∃a∈l,ixT (l.map h) i=some (h a):=by
 obtain⟨k,rfl⟩:=Zzt h0;have hk:k<l.length:=by lia
 refine⟨l[k],aU hk,?_⟩;show nth (l.map h) k=_;rw[qR,aq,aj hk];rfl
theorem div_pos{a b:Int}(hb:0<b):(Rat.divInt a b).den<=b.toNat/\(Rat.divInt a b).num.natAbs<=a.natAbs:=by
 have l:=uX (t:=a) (b:=b) (c:=(Int.gcd a b:Nat)) (WS hb) (by have:=mj (a:=a) (b:=b) (WS hb);exact WS this) (by lia) (XZ (mj (WS hb)) hb);have e:=jo l (WS hb);injection e with e;injection e with e1 e2;injection e2 with e2 _;injection e1 with e1;injection e2 with e2;have h1:=l.lx;have h2:=l.ly;have h3:=l.pos;have e1:a.fdiv ((Int.gcd a b:Nat):Int)=(Rat.divInt a b).num:=e1;have e2:b.fdiv ((Int.gcd a b:Nat):Int)=((Rat.divInt a b).den:Nat):=e2;rw[e1]at h1;rw[e2]at h2 h3;omega
theorem Tg{a b:Int}(ha:0<=a)(h:a<b):0<=Rat.divInt a b/\Rat.divInt a b<1:=by
 have hb:0<b:=by exact Int.lt_of_le_of_lt ha h
 refine⟨Q4 ha (XY hb),?_⟩;have e:Rat.divInt a b=(a:Rat)/(b:Rat):=TR a b;rw[e];have cS:(0:Rat)<(b:Rat):=by exact_mod_cast hb
 rw[Rat.div_lt_iff cS,Rat.one_mul]
 exact_mod_cast h
structure Shr(s:Rat):Prop where
 lo:0<=s
 hi:s<1
 den:s.den<=100
def QJ:ST:=λts q=>∃c:Int,ts=[.int c]/\∀s:Rat,Shr s->q (.fz (frR s))
theorem Z4(F:Fun K zU zU NT f fd)(T:Txt K mg D)(cU:OkT P w K mg base 1 gH gG jC)(iw:OkT P w K mg base 2 oX oW wY):b_ P w K mg base CX0 3 f fd Ad (spT K QJ):=by
 refine F.okT Gj (λts R hP=>by obtain⟨_,e,_⟩:=hP;exact e ▸ rfl) λah A outer s H E hr=>?_;refine⟨_,(bC (bO 1 Gj.nd (Or.inl rfl) (bH cU hr.md (by rfl) (bw (qv 0) (bw bx bA))))
  (bC (bO 2 Gj.nd (Or.inl rfl) (bJ cD bx (bJ cA (bI (qv 1) bx) (bI (cY (bw bx (bw bx (bw bx (bw bx bA))))) (bJ cA (bI (qv 1) bx) bx)))))
  (bG (bL (bH iw hr.md (by rfl) (bw (bJ cA (bI (qv 1) bx) (qv 2)) (bw (qv 2) bA))))))),?_⟩
 rintro _ R ⟨c,rfl,q⟩;have s0:=jY c 0;have s1:=jY c 1;have s2:=jY c 2;refine⟨c,3,rfl,by decide,_,cX (k:=0) (by decide),_,cX (k:=1) (by decide),by decide,?_⟩;obtain⟨d,hd,ed⟩:=Xz [4,6,10,100] L2.T.int (i:=strm c 1%4) (Z3 _ (by decide)) (by show strm c 1%4<4;exact YY _ (by decide));have d0:0<d/\d<=100:=by simp at hd;lia
 refine⟨_,ed,d0.1,?_⟩;have b0:0<1+strm c 0%d/\1+strm c 0%d<=100:=by
  have:=Z3 (strm c 0) (show d≠0 by lia);have:=YY (strm c 0) d0.1;lia
 refine⟨_,cX (k:=2) (by decide),b0.1,_,_,rfl,b0.1,fK (by omega),q _ ?_⟩;generalize 1+strm c 0%d=b at b0 ⊢;have a0:=Z3 (strm c 2) (show b≠0 by lia);have a1:=YY (strm c 2) b0.1;obtain⟨x,y⟩:=Tg a0 a1;exact⟨x,y,by have:=(div_pos (a:=strm c 2%b) b0.1).1;lia⟩
structure Pay(p:Rat):Prop where
 num:p.num.natAbs<=10^30
 den:p.den<=1000
def Z2:ST:=λts q=>∃c x y:Int,ts=[.int c,.int x,.int y]/\(0<=x/\x<2000000000)/\(0<=y/\y<2000000000)/\∀p:Rat,Pay p->q (.fz (frR p))
theorem adL(F:Fun K Mq Mq Zv f fd)(T:Txt K mg D)(iw:OkT P w K mg base 2 oX oW wY):b_ P w K mg base CX0 3 f fd Nm (spT K Z2):=by
 refine F.okT afJ (λts R hP=>by obtain⟨_,_,_,e,_⟩:=hP;exact e ▸ rfl) λah A outer s H E hr=>?_;refine⟨_,(bC (cB (cu vJ (bJ cA (qv 1) bx) bx)
  (bG (bL (cT (bw (bJ Cg (bJ cA (qv 2) bx) bx) (bw bx bA)))))
  bQ)
  (bC (cB (cu vJ (bJ cA (qv 1) bx) bx)
  (bG (bL (bH iw hr.md (by rfl) (bw (bJ Cg (bJ cA (qv 2) bx) bx) (bw (bJ cD bx (bJ cA (bJ lK (qv 1) bx) bx)) bA)))))
  bQ)
  (bC (cB (cu (go_eq hr.units) (bJ cA (qv 1) bx) bx)
  (bG (bL (cT (bw (bJ Cg (bJ cA (qv 0) bx) bx) (bw bx bA)))))
  bQ)
  (bG (bL (bH iw hr.md (by rfl) (bw (bJ Cg (bJ cA (bJ cD (bJ M9 (qv 0) bx) (qv 2)) (bJ cD (bJ cC bx (bJ KD bx bx)) bx)) (bJ KD bx bx)) (bw (bJ cD bx (bJ cA (bJ lK (qv 1) bx) bx)) bA)))))))),?_⟩
 rintro _ R ⟨c,x,y,rfl,hx,hy,q⟩;have b30:Bd (10^30):=Y3 (aG _) (by decide +kernel);have lo:∀a b:Int,0<b->a.natAbs<=10^30->b<=1000->R (.fz (frR (Rat.divInt a b))):=λa b h0 h1 h2=>by
  obtain⟨x,y⟩:=div_pos (a:=a) h0;exact q _ ⟨aL y h1,by lia⟩
 have one:∀a:Int,a.natAbs<=10^30->R (.fz (.tup [.int a,.int 1])):=λa h=>q (a:Rat) ⟨h,show(1:Nat)<=1000 by decide⟩;have d8:x.fdiv 8=x/8:=Zzy _ (by decide);refine⟨by decide,swD (λh=>⟨by decide,one _ (by lia)⟩) λh=>⟨by decide,swD (λh=>⟨by decide,⟨by decide,fK (by decide)⟩,by decide,?_⟩) λh=>⟨by decide,swD (λh=>⟨by decide,one _ (by lia)⟩) λh=>?_⟩⟩⟩
 .exact⟨_,_,rfl,by lia,fK (by lia),lo _ _ (by lia) (by lia) (by lia)⟩
 .refine⟨.inr (by constructor<;>decide),⟨by decide,by decide,by decide⟩,⟨fK (by decide),b30⟩,by decide,⟨by decide,by decide,by decide⟩,⟨by decide,fK (by decide)⟩,by decide,?_⟩;exact⟨_,_,rfl,by lia,fK (by lia),lo _ _ (by lia) (by
   have e:(10:Int)^Int.toNat 30=10^30:=rfl;rw[e];lia) (by lia)⟩
structure LD where
 sort:Nat
 pay:Rat
 prs:List (Nat×Rat)
abbrev ldT(d:LD):T:=.tup [.int (d.sort:Nat),frR d.pay,.lst (d.prs.map nwT)]
structure LDk(m:Nat)(d:LD):Prop where
 sort:d.sort<4
 pay:Pay d.pay
 few:d.prs.length<=4
 lt:∀p∈d.prs,p.1<m
 nn:∀p∈d.prs,0<=p.2
 one:zA (d.prs.map (·.2))=1
 dn:∃q:Nat,0<q/\q<=4000/\∀p∈d.prs,p.2.den ∣ q
 s0:d.sort=0->∃a,d.prs=[(a,1)]
 s1:d.sort=1->∃a b x,d.prs=[(a,x),(b,1-x)]
 s2:d.sort=2->∃rs:List Nat,d.prs=rs.map λr=>(r,mkRat 1 rs.length)
theorem abE{α:Type}(l:List α){n:Nat} : fH l none (some (n:Int))=l.take n:=by
 unfold fH;show(l.drop 0).take (HT.sIx l.length l.length (some (n:Int))-0)=_;rw[HT.w6,List.drop_zero,Nat.sub_zero];rw[List.take_eq_take_iff];lia
theorem Mi{a b:Int}(hb:0<b):(Rat.divInt a b).den ∣ b.toNat:=by
 have l:=uX (t:=a) (b:=b) (c:=(Int.gcd a b:Nat)) (WS hb) (by have:=mj (a:=a) (b:=b) (WS hb);exact WS this) (by lia) (XZ (mj (WS hb)) hb);have e:=jo l (WS hb);injection e with e;injection e with _ e2;injection e2 with e2 _;injection e2 with e2;have e2:b.fdiv ((Int.gcd a b:Nat):Int)=((Rat.divInt a b).den:Nat):=e2;have d:((Int.gcd a b:Nat):Int) ∣ b:=JP a b;rw[Int.fdiv_eq_ediv_of_dvd d]at e2;obtain⟨x,hx⟩:=d;have g0:=mj (a:=a) (b:=b) (WS hb);rw[Int.ediv_eq_of_eq_mul_right (WS g0) hx]at e2;exact Int.natCast_dvd_natCast.mp ⟨(Int.gcd a b:Nat),by rw[<- e2,Int.toNat_of_nonneg (XY hb),Int.mul_comm];exact hx⟩
theorem Ui{S:Int}(hS:S≠0):∀ws:List Int,zA (ws.map λw=>Rat.divInt w S)=Rat.divInt ws.sum S
 |[]=>by show(0:Rat)=Rat.divInt 0 S;rw[Rat.zero_divInt]
 |w::ws=>by
  show Rat.divInt w S+zA (ws.map λw=>Rat.divInt w S)=Rat.divInt (w+ws.sum) S;rw[Ui hS ws,Qr _ _ hS hS];refine(JJ (lH hS hS) hS).mpr ?_
  grind
theorem Oa{n:Nat}(h:0<n):∀k:Nat,zA (List.replicate k (mkRat 1 n))=mkRat k n
 |0=>by show(0:Rat)=mkRat 0 n;rw[Rat.zero_mkRat]
 |k+1=>by
  rw[List.replicate_succ];show mkRat 1 n+zA (List.replicate k (mkRat 1 n))=_;rw[Oa h k,Rat.mkRat_add_mkRat _ _ (VQ h) (VQ h),Rat.mkRat_eq_iff (Nat.mul_ne_zero (VQ h) (VQ h)) (VQ h)]
  push_cast
  grind
theorem aco{n:Nat}(h:0<n):mkRat n n=1:=by
 rw[show(1:Rat)=mkRat 1 1 from rfl,Rat.mkRat_eq_iff (VQ h) (Nat.succ_ne_zero _)];lia
theorem one_sub{a b:Int}(hb:b≠0):1-Rat.divInt a b=Rat.divInt (b-a) b:=by
 rw[show(1:Rat)=Rat.divInt 1 1 from rfl,Rat.divInt_sub_divInt _ _ (by decide) hb,TU,Int.mul_one]
theorem PL(x:Rat):1-x=⟨(x.den:Int)-x.num,x.den,x.den_nz,by
  have:=x.reduced;show Nat.Coprime ((x.den:Int)-x.num).natAbs x.den;have h:Int.gcd ((x.den:Int)-x.num) (x.den:Int)=1:=by
   rw[Int.gcd_self_sub_left];exact this
  exact h⟩:=by
 rw[Rat.mk_eq_divInt,<- one_sub (j8 x),rd]
theorem Xb(x:Rat):frR (1-x)=.tup [.int ((x.den:Int)-x.num),.int x.den]:=by rw[PL]
theorem VD(x:Rat):(1-x).den=x.den:=by rw[PL]
theorem LDk.sure{m a:Nat}{p:Rat}(ha:a<m)(hp:Pay p):LDk m ⟨0,p,[(a,1)]⟩ :=
 ⟨Nat.zero_lt_succ _,hp,Tu rfl,by simp[ha],by simp;decide,by simp[zA];exact Rat.add_zero 1,⟨1,by decide,by decide,by simp⟩,λ_=>⟨_,rfl⟩,(λz=>by cases z),(λz=>by cases z)⟩
theorem LDk.toss{m a b q:Nat}{p x:Rat}(ha:a<m)(hb:b<m)(hp:Pay p)(x0:0<=x)(x1:0<=1-x)(q0:0<q)(q1:q<=4000)(hd:x.den ∣ q):LDk m ⟨1,p,[(a,x),(b,1-x)]⟩ :=
 ⟨Tu rfl,hp,Tu rfl,by simp[ha,hb],by simp[x0,x1],by simp[zA];grind,⟨q,q0,q1,by simp[hd,VD]⟩,(λz=>by cases z),λ_=>⟨_,_,_,rfl⟩,(λz=>by cases z)⟩
theorem afS{n:Nat}(h:0<n):(mkRat 1 n).den=n:=by
 have e:=RP h;injection e with e;injection e with _ e;injection e with e _;injection e with e;lia
theorem LDk.even{m:Nat}{p:Rat}{rs:List Nat}(h0:0<rs.length)(h4:rs.length<=4)(hr:∀r∈rs,r<m)(hp:Pay p):LDk m ⟨2,p,rs.map λr=>(r,mkRat 1 rs.length)⟩:=by
 have nn:(0:Rat)<=mkRat 1 rs.length:=by rw[<- Rat.divInt_ofNat];exact Q4 (by decide) (Wp _)
 refine⟨Tu rfl,hp,by rw[ak];exact h4,λx hx=>?_,λx hx=>?_,?_,⟨rs.length,h0,by exact aL h4 (by decide),λx hx=>?_⟩,(λz=>by cases z),(λz=>by cases z),λ_=>⟨rs,rfl⟩⟩
 .obtain⟨r,h,rfl⟩:=YV.mp hx;exact hr r h
 .obtain⟨r,h,rfl⟩:=YV.mp hx;exact nn
 .rw[WP,show((λx:Nat×Rat=>x.2) ∘ λr=>(r,mkRat 1 rs.length))=λ_=>mkRat 1 rs.length from rfl,List.map_const',Oa h0,aco h0]
 .obtain⟨r,h,rfl⟩:=YV.mp hx;rw[afS h0];exact Nat.dvd_refl _
theorem LDk.mix{m:Nat}{p:Rat}{rs:List Nat}{ws:List Int}(hl:ws.length<=4)(hr:∀r∈rs,r<m)(hw:∀w∈ws,0<=w)(le:ws.length<=rs.length)(s0:0<ws.sum)(s1:ws.sum<=4000)(hp:Pay p):LDk m ⟨3,p,(rs.zip ws).map λx=>(x.1,Rat.divInt x.2 ws.sum)⟩:=by
 have m2:(rs.zip ws).map (λx=>x.2)=ws:=List.map_snd_zip le;refine⟨Tu rfl,hp,by rw[ak,VT];lia,λx hx=>?_,λx hx=>?_,?_,⟨ws.sum.toNat,by lia,by lia,λx hx=>?_⟩,(λz=>by cases z),(λz=>by cases z),(λz=>by cases z)⟩
 .obtain⟨r,h,rfl⟩:=YV.mp hx;exact hr _ (US h).1
 .obtain⟨r,h,rfl⟩:=YV.mp hx;exact Q4 (hw _ (US h).2) (XY s0)
 .rw[WP,show((λx:Nat×Rat=>x.2) ∘ λx:Nat×Int=>(x.1,Rat.divInt x.2 ws.sum))=(λw=>Rat.divInt w ws.sum) ∘ λx:Nat×Int=>x.2 from rfl,<- WP,m2,Ui (WS s0)];have e:=one_sub (a:=ws.sum) (b:=ws.sum) (WS s0);rw[Int.sub_self,Rat.zero_divInt]at e
  grind
 .obtain⟨r,h,rfl⟩:=YV.mp hx;exact Mi s0
theorem Zx:∀{ws:List Int},(∀w∈ws,0<=w)->0<=ws.sum
 |[],_=>by decide
 |w::ws,h=>by
  have:=h w (aO ..);have:=Zx (ws:=ws) λx hx=>h x (aJ _ hx);rw[List.sum_cons];lia
theorem X7{b:Int} : ∀{ws:List Int},(∀w∈ws,w<=b)->ws.sum<=b*ws.length
 |[],_=>by simp
 |w::ws,h=>by
  have:=h w (aO ..);have:=X7 (ws:=ws) λx hx=>h x (aJ _ hx);rw[List.sum_cons,List.length_cons];have:b*((ws.length+1:Nat):Int)=b*ws.length+b:=by grind
  lia
def Vt:ST:=λts q=>∃(c:Int)(m:Nat),ts=[.int c,.int (m:Nat)]/\0<m/\m<=1000/\∀(r:Nat)(d:LD),r<m->LDk m d->q (.fz (.tup [.int (r:Nat),ldT d]))
theorem acp(F:Fun K En En yP f fd)(T:Txt K mg D)(cU:OkT P w K mg base 1 gH gG jC)(iw:OkT P w K mg base 2 oX oW wY)(oB:OkT P w K mg base 3 Mq Nm Z2):b_ P w K mg base CX0 4 f fd Fi (spT K Vt):=by
 refine F.okT jj (λts R hP=>by obtain⟨_,_,e,_⟩:=hP;exact e ▸ rfl) λah A outer s H E hr=>?_;refine⟨_,(bC (bO 2 jj.nd (Or.inr rfl) (bH cU hr.md (by rfl) (bw (qv 0) (bw bx bA))))
  (bC (bO 3 jj.nd (Or.inr rfl) (d_ (bF yP) sI sI ["_law_x"] (cF (i_ (qv 2) (gq bx) (gq bx))) (gj (i:=0)) cG (bJ cA (qv 0) (qv 2))))
  (bC (bO 4 jj.nd (Or.inl rfl) (bJ cA (bI (qv 2) bx) bx))
  (bC (bO 5 jj.nd (Or.inl rfl) (QEB.out (UG (fG (Bb (fG (Ca (bI (qv 3) bx)) (fG (Bb (fG Uo (fG Uo tW))) tW))) tW))))
  (bC (cB (cu (go_eq hr.units) (qv 4) bx)
  (bC (bO 6 jj.nd (Or.inl rfl) (bJ cD bx (bJ cA (bI (qv 2) bx) bx)))
  (bC (bO 7 jj.nd (Or.inl rfl) (bH iw hr.md (by rfl) (bw (bJ cA (bI (qv 2) bx) (bJ cD (qv 6) bx)) (bw (qv 6) bA))))
  (bG (bO 5 jj.nd (Or.inl rfl) (QEB.out (UG (fG (Bb (fG (Ca (bI (qv 3) bx)) (fG (ahy 7) tW))) (fG (Bb (fG (Ca (bI (qv 3) bx)) (fG (Bb (fG (aeM Cg (Ca (bI (qv 7) bx)) (Ca (bI (qv 7) bx))) (fG (Ca (bI (qv 7) bx)) tW))) tW))) tW))))))))
  bQ)
  (bC (cB (cu (go_eq hr.units) (qv 4) bx)
  (bC (bO 3 jj.nd (Or.inr rfl) (i_ (qv 3) yU (gq (bJ cD bx (bJ cA (bI (qv 2) bx) bx)))))
  (bG (p8 (bF yP) sI sI ["_law_room"] (cF (qv 3)) (gj (i:=0)) cG (cT (bw (qv 0) (bw (cT (bw bx (bw (bM cJ (by rfl) T.cZ WG (bw (qv 4) bA)) bA))) bA))) (iJ (i:=5) jj.nd rfl (Or.inl rfl)))))
  bQ)
  (bC (cB (cu (go_eq hr.units) (qv 4) bx)
  (bC (jz 8 jj.nd (Or.inr rfl) (d_ (bF yP) sI sI ["_law_x"] (cF (i_ (qv 2) (gq bx) (gq (bJ cD bx (bJ cA (bI (qv 2) bx) bx))))) (gj (i:=0)) cG (bJ cA (qv 0) (bI (cY (bw bx (bw bx (bw bx (bw bx bA))))) (bJ cA (bI (qv 3) bx) bx)))))
  (bC (uq 8 (bJ cD (yt 8 (Cv bx)) bx) (Cv bx))
  (bG (GD 8 (p8 (bF yP) sI sI ["_law_k"] (dX (by rfl) T.fU (bw (bM cJ (by rfl) T.cZ WG (bw (qv 8) bA)) bA)) (gj (i:=0)) cG (cT (bw (bI (qv 4) (qv 0)) (bw (bH iw hr.md (by rfl) (bw (bI (qv 9) (qv 0)) (bw (bM (YZ rfl) (by rfl) T.adb boot_sum (bw (qv 9) bA)) bA))) bA))) (iJ (i:=5) jj.nd rfl (Or.inl rfl)))))))
  bQ)
  (bG (bL (cT (bw (bJ cA (bI (qv 2) bx) (qv 1)) (bw (cT (bw (qv 4) (bw (bH oB hr.md (by rfl) (bw (qv 0) (bw (bI (qv 2) bx) (bw (bI (qv 2) bx) bA)))) (bw (qv 5) bA)))) bA)))))))))))),?_⟩
 rintro _ R ⟨c,m,rfl,m0,m1,q⟩;have mz:(0:Int)<(m:Nat):=by lia
 have sl:∀k,0<=strm c k/\strm c k<2000000000:=jY c;obtain⟨rm,ii,rme⟩ : ∃rm:Nat->Nat,(∀k,rm k<m)/\∀k,strm c k%(m:Nat)=(rm k:Nat):=⟨λk=>(strm c k%(m:Nat)).toNat,λk=>by
  have:=YY (strm c k) mz;have:=Z3 (strm c k) (show((m:Nat):Int)≠0 by exact WS mz);show(strm c k%(m:Nat)).toNat<m;lia,λk=>by
  have:=Z3 (strm c k) (show((m:Nat):Int)≠0 by exact WS mz);show _=((strm c k%(m:Nat)).toNat:Int);lia⟩
 obtain⟨so,eso,hso⟩ : ∃so:Nat,strm c 6%4=(so:Nat)/\so<4:=⟨(strm c 6%4).toNat,by have:=sl 6;lia,by have:=sl 6;lia⟩;refine sq7 (λo=>∃(x3 x6 x7 x8:OT)(prs:List (Nat×Rat)),o=[.fz (.int c),.fz (.int (m:Nat)),.fz (.lst ((jh c 14).map L2.T.int)),x3,.fz (.int (so:Nat)),.fz (.lst (prs.map nwT)),x6,x7,x8]/\∀p,Pay p->LDk m ⟨so,p,prs⟩) ?_ λY go=>?_
 .rintro _ ⟨x3,x6,x7,x8,prs,rfl,hk⟩;refine⟨_,cX (k:=13) (by decide),mz,_,cX (k:=0) (by decide),_,cX (k:=1) (by decide),c,_,_,rfl,sl 0,sl 1,λp hp=>?_⟩;have:=q (rm 13) ⟨so,p,prs⟩ (ii 13) (hk p hp);rw[<- rme]at this;exact this
 .refine⟨c,14,rfl,by decide,?_⟩;have ec:fH ((jh c 14).map L2.T.int) (some 2) (some 6)=[2,3,4,5].map (λk=>L2.T.int (strm c k)):=rfl;show(fH ((jh c 14).map L2.T.int) (some 2) (some 6)).length<=sizeLine/\iZ _ _ _ _ (fH ((jh c 14).map L2.T.int) (some 2) (some 6)) _;rw[ec];refine⟨show 4<=sizeLine by decide,comp_map (λk=>L2.T.int (strm c k)) (λk=>.int (rm k:Nat)) [2,3,4,5] (λk _ N M hN=>⟨mz,by rw[rme];exact hN⟩) ⟨_,cX (k:=6) (by decide),by decide,?_⟩⟩;dsimp only[frz];rw[eso];refine⟨_,rfl,?_⟩;obtain rfl|rfl|rfl|rfl:so=0\/so=1\/so=2\/so=3:=by lia
  .exact go _ ⟨_,_,_,_,[(rm 2,1)],rfl,λp hp=>.sure (ii 2) hp⟩
  .have x8:=sl 8;have x9:=sl 9;refine⟨_,cX (k:=8) (by decide),by decide,_,cX (k:=9) (by decide),by lia,_,_,rfl,by lia,fK (by lia),_,rfl,_,rfl,?_⟩;obtain⟨b,eb,b0,b1⟩ : ∃b:Int,1+strm c 8%6=b/\0<b/\b<=6:=⟨_,rfl,by lia,by lia⟩;rw[eb];have a0:=Z3 (strm c 9) (show b+1≠0 by lia);have a1:=YY (strm c 9) (show 0<b+1 by exact Int.lt_trans b0 (Int.lt_succ _));generalize strm c 9%(b+1)=a at a0 a1 ⊢;have nn:0<=Rat.divInt a b:=Q4 a0 (XY b0);have l1:0<=1-Rat.divInt a b:=by rw[one_sub (WS b0)];exact Q4 (by omega) (XY b0)
   have dd:=Mi (a:=a) b0;generalize Rat.divInt a b=x at nn l1 dd ⊢;refine go _ ⟨.fz (.lst ([2,3,4,5].map λk=>L2.T.int (rm k:Nat))),.fz (.int b),.fz (frR x),.und,[(rm 2,x),(rm 3,1-x)],?_,λp hp=>.toss (ii 2) (ii 3) hp nn l1 (show 0<b.toNat by lia) (by lia) dd⟩;rw[show[(rm 2,x),(rm 3,1-x)].map nwT=[.tup [.int (rm 2:Nat),frR x],.tup [.int (rm 3:Nat),frR (1-x)]]from rfl,Xb]
   rfl
  .have x7:=sl 7;obtain⟨n,en,n0,n4⟩ : ∃n:Nat,1+strm c 7%4=(n:Nat)/\0<n/\n<=4:=⟨(1+strm c 7%4).toNat,by lia,by lia,by lia⟩;refine⟨_,cX (k:=7) (by decide),by decide,?_⟩;show(fH ([2,3,4,5].map λk=>L2.T.int (rm k:Nat)) none (some (1+strm c 7%4))).length<=sizeLine/\iZ _ _ _ _ (fH ([2,3,4,5].map λk=>L2.T.int (rm k:Nat)) none (some (1+strm c 7%4))) _;have ec2:fH ([2,3,4,5].map λk=>L2.T.int (rm k:Nat)) none (some (1+strm c 7%4))=(([2,3,4,5].map rm).take n).map λr:Nat=>L2.T.int (r:Nat):=by
    rw[en,abE,List.map_take,WP]
    rfl
   have rl:(([2,3,4,5].map rm).take n).length=n:=by rw[aY];show min n 4=n;lia
   have rlt:∀r∈([2,3,4,5].map rm).take n,r<m:=λr hr=>by
    obtain⟨k,_,rfl⟩:=YV.mp (List.mem_of_mem_take hr);exact ii k
   rw[ec2];generalize([2,3,4,5].map rm).take n=rs at rl rlt ⊢;have r0:0<rs.length:=by lia
   have e2:(rs.map λr=>(r,mkRat 1 rs.length)).map nwT=rs.map λr=>nwT (r,mkRat 1 rs.length):=by rw[WP];rfl
   refine⟨by rw[ak];exact aL (show _<=4 by exact aL (WH rl) n4) (by decide),comp_map (λr:Nat=>L2.T.int (r:Nat)) (λr=>nwT (r,mkRat 1 rs.length)) rs (λr hr N M hN=>?_) (go _ ⟨.fz (.lst (rs.map λr:Nat=>L2.T.int (r:Nat))),.und,.und,.und,rs.map λr=>(r,mkRat 1 rs.length),by rw[e2];rfl,λp hp=>.even r0 (aL (WH rl) n4) rlt hp⟩)⟩;rw[show nwT (r,mkRat 1 rs.length)=.tup [.int (r:Nat),frR (mkRat 1 rs.length)]from rfl,RP r0,<- ak (f:=λr:Nat=>L2.T.int (r:Nat))]at hN;exact hN
  .have x7:=sl 7;have x12:=sl 12;obtain⟨n,en,n0,n4⟩ : ∃n:Nat,9+strm c 7%4=((8+n:Nat):Int)/\0<n/\n<=4:=⟨(1+strm c 7%4).toNat,by lia,by lia,by lia⟩;refine⟨_,cX (k:=7) (by decide),by decide,?_⟩;show(fH ((jh c 14).map L2.T.int) (some 8) (some (9+strm c 7%4))).length<=sizeLine/\iZ _ _ _ _ (fH ((jh c 14).map L2.T.int) (some 8) (some (9+strm c 7%4))) _;have ec3:fH ((jh c 14).map L2.T.int) (some 8) (some (9+strm c 7%4))=(((jh c 14).drop 8).take n).map L2.T.int:=by
    rw[en,Al];have:=Vr (ys:=jh c 14) (a:=8) (b:=8+n) (X2 _ _) (by rw[ak,WJ];lia);rw[show 8+n-8=n by exact Tk _ _]at this;exact ZH (List.map L2.T.int) this
   have ul:(((jh c 14).drop 8).take n).length=n:=by rw[aY,UP,ak,WJ];lia
   rw[ec3];generalize((jh c 14).drop 8).take n=us at ul ⊢;obtain⟨d,hd,ed⟩:=Xz [3,3,3,1000] L2.T.int (i:=strm c 12%4) (Z3 _ (by decide)) (by show strm c 12%4<4;exact YY _ (by decide));have d0:0<d/\d<=1000:=by simp at hd;lia
   refine⟨by rw[ak];exact aL (show _<=4 by exact aL (WH ul) n4) (by decide),comp_map L2.T.int (λx=>L2.T.int (x%d)) us (λx hx N M hN=>⟨_,cX (k:=12) (by decide),by decide,_,ed,d0.1,hN⟩) ?_⟩;have em:us.map (λx=>L2.T.int (x%d))=(us.map (· % d)).map L2.T.int:=by rw[WP];rfl
   rw[em];have wl:(us.map (· % d)).length=n:=by rw[ak];exact ul
   have ww:∀w∈us.map (· % d),0<=w/\w<1000:=λw hw=>by
    obtain⟨x,_,rfl⟩:=YV.mp hw;have:=Z3 x (show d≠0 by lia);have:=YY x d0.1;lia
   generalize us.map (· % d)=ws at wl ww ⊢;obtain⟨vs,v,rfl⟩ : ∃vs v,ws=vs++[v]:=by
    rcases List.eq_nil_or_concat ws with rfl|⟨vs,v,e⟩
    .cases wl;cases n0
    .exact⟨vs,v,by rw[e,List.concat_eq_append]⟩
   rw[aA,List.length_singleton]at wl;have ixl:ixT ((vs++[v]).map L2.T.int) (-1)=some (.int v):=by
    show nth ((vs++[v]).map L2.T.int).reverse 0=_;rw[bf,List.reverse_append]
    rfl
   have ixn:ixN ((vs++[v]).map L2.T.int).length (-1)=some vs.length:=by
    unfold ixN;rw[ak,aA,List.length_singleton];rw[ZZ (by decide),ZY (by lia)]
    congr 1
    lia
   refine⟨_,ixl,_,ixn,?_⟩;have es:((vs++[v]).map L2.T.int).set vs.length (.int (v+1))=(vs++[v+1]).map L2.T.int:=by
    rw[bf,bf,List.set_append_right _ _ (by rw[ak];exact aG _),ak,Nat.sub_self]
    rfl
   dsimp only[frz];rw[es];have kF:(vs++[v+1]).length=n:=by rw[aA,List.length_singleton];exact wl
   have kD:∀w∈vs++[v+1],0<=w/\w<=1000:=λw hw=>by
    rcases Y1.mp hw with z|z
    .have:=ww w (U1 _ z);lia
    .have:=ww v (aP _ (YR.mpr rfl));rw[YR.mp z];lia
   have s0:0<(vs++[v+1]).sum:=by
    have:0<=vs.sum:=Zx λw hw=>(ww w (U1 _ hw)).1;have:=(ww v (aP _ (YR.mpr rfl))).1;rw[List.sum_append];show 0<vs.sum+(v+1+0);lia
   have s1:(vs++[v+1]).sum<=1000*(vs++[v+1]).length:=X7 λw hw=>(kD w hw).2;generalize vs++[v+1]=us at kF kD s0 s1 ⊢;have ul':(us.map L2.T.int).length=us.length:=ak ..;have r4:∀k,k<4->([2,3,4,5].map rm)[k]?=some (rm (k+2)):=λk hk=>by
    obtain rfl|rfl|rfl|rfl:k=0\/k=1\/k=2\/k=3:=by lia
    all_goals rfl
   have z:∀k(hk:k<us.length),((([2,3,4,5].map rm).zip us).map λx=>(x.1,Rat.divInt x.2 us.sum))[k]?=some (rm (k+2),Rat.divInt (us.getD k 0) us.sum):=λk hk=>by
    rw[aq,List.getElem?_zip_eq_some (z:=(rm (k+2),us.getD k 0)) |>.mpr ⟨r4 k (by lia),by rw[au,aj hk];rfl⟩]
    rfl
   have ep:(List.range (us.map L2.T.int).length).map (λk=>nwT (rm (k+2),Rat.divInt (us.getD k 0) us.sum))=((([2,3,4,5].map rm).zip us).map λx=>(x.1,Rat.divInt x.2 us.sum)).map nwT:=by
    refine List.ext_getElem? λk=>?_;rw[ul'];by_cases hk:k<us.length
    .rw[aq,UZ hk,aq,z k hk]
     rfl
    .rw[aM (by rw[ak,WJ];exact Up hk),aM (by rw[ak,ak,VT];omega)]
   refine⟨⟨by lia,by lia⟩,by rw[rng,ak,WJ];exact aL (show _<=4 by lia) (by decide),T9 (λk=>nwT (rm (k+2),Rat.divInt (us.getD k 0) us.sum)) (us.map L2.T.int).length (λk hk N M hN=>?_) (go _ ⟨.fz (.lst ([2,3,4,5].map λk=>L2.T.int (rm k:Nat))),.und,.und,.fz (.lst (us.map L2.T.int)),(([2,3,4,5].map rm).zip us).map λx=>(x.1,Rat.divInt x.2 us.sum),by rw[ep];rfl,λp hp=>LDk.mix (rs:=[2,3,4,5].map rm) (aL (WH kF) n4) (λr hr=>?_) (λw hw=>(kD w hw).1) (show us.length<=4 by exact aL (WH kF) n4) s0 (by lia) hp⟩)⟩
   .rw[ul']at hk;have ek:us[k]?=some (us.getD k 0):=by rw[au,aj hk];rfl
    have e4:=r4 k (by lia);rw[aq]at e4;refine⟨.int (rm (k+2):Nat),?_,_,dJ ek,us,rfl,_,_,rfl,s0,fK (by lia),hN⟩;show nth _ k=_;rw[qR,aq];cases z2:([2,3,4,5] : List Nat)[k]? with
    |none=>rw[z2]at e4;cases e4
    |some j=>rw[z2]at e4;injection e4 with e4;show some (L2.T.int (rm j:Nat))=_;rw[show rm j=rm (k+2)from e4]
   .obtain⟨k,_,rfl⟩:=YV.mp hr;exact ii k
structure DSk(m mo:Nat)(ae:List (List LD)):Prop where
 len:ae.length=m
 few:∀ds∈ae,ds.length<=mo
 ok:∀ds∈ae,∀d∈ds,LDk m d
abbrev dsT(ae:List (List LD)):List (List T):=ae.map λds=>ds.map ldT
abbrev Hh(ae:List (List LD)):T:=.lst (ae.map λds=>.lst (ds.map ldT))
theorem abN(ae:List (List LD)):frz (.l2 (dsT ae))=Hh ae:=by
 show L2.T.lst ((ae.map λds=>ds.map ldT).map L2.T.lst)=_;rw[WP]
 rfl
theorem DSk.add{m mo:Nat}{ae:List (List LD)}(h:DSk m mo ae){k:Nat}{ds:List LD}{d:LD}(e:ae[k]?=some ds)(lt:ds.length<mo)(hd:LDk m d):DSk m mo (ae.set k (ds++[d])):=by
 refine⟨by rw[VZ,h.len],λx hx=>?_,λx hx y hy=>?_⟩
 .rcases List.mem_or_eq_of_mem_set hx with z|rfl
  .exact h.few x z
  .rw[aA,List.length_singleton];exact lt
 .rcases List.mem_or_eq_of_mem_set hx with z|rfl
  .exact h.ok x z y hy
  .rcases Y1.mp hy with z|z
   .exact h.ok ds (aC e) y z
   .rw[YR.mp z];exact hd
theorem aeH{ae:List (List LD)}{r:Nat}{ds:List LD}(e:ae[r]?=some ds):ixT ((dsT ae).map L2.T.lst) (r:Nat)=some (.lst (ds.map ldT)):=by
 show nth ((dsT ae).map L2.T.lst) r=_;rw[qR,aq,aq,e];rfl
def N_:ST:=λts q=>∃(ns:List Int)(a m mo:Nat),ts=[scT ns,.int (a:Nat),.int (m:Nat),.int (mo:Nat)]/\ns.length<=100/\m<=300/\mo<=1000/\∀ae:List (List LD),DSk m mo ae->q (.l2 (dsT ae))
theorem ZC(F:Fun K zf zf D_ f fd)(T:Txt K mg D)(m9:OkT P w K mg base 1 Ab Bx Mh)(cU:OkT P w K mg base 1 gH gG jC)(Rp:OkT P w K mg base 4 En Fi Vt):b_ P w K mg base CX0 5 f fd zP (spT K N_):=by
 refine F.okT pC (λts R hP=>by obtain⟨_,_,_,_,e,_⟩:=hP;exact e ▸ rfl) λah A outer s H E hr=>?_;refine⟨_,(bC (acB (bF D_) Lw Lw ["_law_k"] (dX (by rfl) T.fU (bw (qv 2) bA)) (gj (i:=0)) cG (cY bA) (iJ (i:=4) pC.nd rfl (Or.inl rfl)))
  (bC (cB (cu JT (qv 2) bx)
  (bC (bO 5 pC.nd (Or.inl rfl) (bH m9 hr.md (by rfl) (bw (qv 0) (bw (qv 1) bA))))
  (bC (bO 6 pC.nd (Or.inl rfl) (bH cU hr.md (by rfl) (bw (qv 5) (bw (bJ cA (bJ cA (bJ M9 (qv 5) bx) bx) (bJ cD (bJ cC bx (qv 2)) bx)) bA))))
  (bG (dO VY rfl (cF (bJ cD (qv 6) (i_ (qv 0) (gq (bJ cD (qv 1) bx)) (gq (bJ cD (qv 1) bx))))) (bZ (n:=99) 7 pC.nd (Or.inl rfl))
  (bC (Ga (bH Rp hr.md (by rfl) (bw (qv 7) (bw (qv 2) bA))) (eZ (n:=2) rfl (bT (bZ (n:=99) 8 pC.nd (Or.inl rfl)) (bT (bZ (n:=99) 9 pC.nd (Or.inl rfl)) dz))))
  (bG (cB (R8 4 (cu vJ (bM cJ (by rfl) T.cZ WG (bw (bI (qv 4) (qv 8)) bA)) (qv 3)))
  (bG (abe 4 (qv 8) (qv 9)))
  bQ)))))))
  bQ)
  (bG (oK 4)))),?_⟩
 rintro _ R ⟨ns,a,m,mo,rfl,nl,m1,ik,q⟩;have e0:(List.range m).map (λ_=>([] : List L2.T))=dsT (List.replicate m []):=by
  unfold dsT;rw[List.map_replicate,List.map_const',WJ]
  rfl
 have h0:DSk m mo (List.replicate m []):=⟨aN,λx hx=>by rw[(List.mem_replicate.mp hx).2];exact aZ _,λx hx y hy=>by rw[(List.mem_replicate.mp hx).2]at hy;cases hy⟩;refine⟨⟨by lia,by lia⟩,by rw[rng,ak,WJ];exact aL m1 (by decide),OD (λ_=>[]) m (λk hk N M hN=>hN) ?_⟩;rw[e0];refine swD (λhm=>?_) λhm=>q _ h0;refine⟨ns,a,rfl,nl,?_⟩;dsimp only[frz];generalize ns.getD a 0=fi;have mz:(0:Int)<3*(m:Nat)+1:=by lia
 obtain⟨n,en,n1⟩ : ∃n:Nat,fi*48271%104729%(3*(m:Nat)+1)=(n:Nat)/\n<=3*m:=⟨(fi*48271%104729%(3*(m:Nat)+1)).toNat,by
  have:=Z3 (fi*48271%104729) (show(3*(m:Nat)+1:Int)≠0 by exact WS mz);lia,by
  have:=YY (fi*48271%104729) mz;have:=Z3 (fi*48271%104729) (show(3*(m:Nat)+1:Int)≠0 by exact WS mz);lia⟩
 refine⟨.inr (by constructor<;>decide),by decide,⟨fK (by decide),fK (by lia)⟩,mz,fi,n,by rw[en];rfl,by lia,?_⟩;have ec:(jh fi n).map L2.T.int++fH (ns.map L2.T.int) (some ((a:Nat)+1)) (some ((a:Nat)+25))=(jh fi n++fH ns (some ((a:Nat)+1)) (some ((a:Nat)+25))).map L2.T.int:=by rw[Al,bf]
 have cl:(fH ns (some ((a:Nat)+1)) (some ((a:Nat)+25))).length<=100:=by
  unfold fH;rw[aY,UP];lia
 show((jh fi n).map L2.T.int).length+(fH (ns.map L2.T.int) (some ((a:Nat)+1)) (some ((a:Nat)+25))).length<=sizeLine/\_;refine⟨?_,?_⟩
 .rw[Al,ak,ak,ak,WJ];exact aL (show _<=1100 by lia) (by decide)
 dsimp only[frz];rw[ec];have sl:(jh fi n++fH ns (some ((a:Nat)+1)) (some ((a:Nat)+25))).length<=1100:=by rw[aA,ak,WJ];lia
 generalize jh fi n++fH ns (some ((a:Nat)+1)) (some ((a:Nat)+25))=cs at sl ⊢;generalize jh fi n=ss at ec ⊢;refine gZ L2.T.int cs (λ_ o=>∃(ae:List (List LD))(x7 x8 x9:OT),o=[.fz (scT ns),.fz (.int (a:Nat)),.fz (.int (m:Nat)),.fz (.int (mo:Nat)),.l2 (dsT ae),.fz (.int fi),.fz (.lst (ss.map L2.T.int)),x7,x8,x9]/\DSk m mo ae) ⟨_,_,_,_,rfl,h0⟩ ?_ ?_
 .rintro done c rest _ _ ⟨ae,x7,x8,x9,rfl,h⟩;dsimp only[hName];refine⟨c,m,rfl,by lia,by exact aL m1 (by decide),λr d hr hd=>⟨rfl,?_⟩⟩;have lr:r<ae.length:=by rw[h.len];exact hr
  have er:=aj lr;refine⟨_,aeH er,swD (λlt=>?_) λ_=>⟨ae,.fz (.int c),.fz (.int (r:Nat)),.fz (ldT d),rfl,h⟩⟩;have lt:((ae[r].map ldT).length:Int)<(mo:Nat):=lt;rw[ak]at lt;refine⟨r,ae[r].map ldT,?_,by rw[aq,er];rfl,by rw[ak];exact aR (show _<1001 by lia) (by decide),ae.set r (ae[r]++[d]),.fz (.int c),.fz (.int (r:Nat)),.fz (ldT d),?_,h.add er (by lia) hd⟩
  .unfold ixN;rw[ak,ZY (Wp _),ZY (by lia)]
   rfl
  .rw[show dsT (ae.set r (ae[r]++[d]))=(dsT ae).set r (ae[r].map ldT++[ldT d])by
    unfold dsT;rw[List.map_set,bf]
    rfl]
   rfl
 .rintro _ ⟨ae,x7,x8,x9,rfl,h⟩;exact q ae h
def st_size:ST:=λts q=>∃c:Int,ts=[.int c]/\∀n:Nat,n<=8->q (.fz (.int (n:Nat)))
theorem abb(F:Fun K Et Et Sh f fd)(T:Txt K mg D)(cU:OkT P w K mg base 1 gH gG jC):b_ P w K mg base CX0 2 f fd Ef (spT K st_size):=by
 refine F.okT Ve (λts R hP=>by obtain⟨_,e,_⟩:=hP;exact e ▸ rfl) λah A outer s H E hr=>?_;refine⟨_,(bC (bO 1 Ve.nd (Or.inl rfl) (bH cU hr.md (by rfl) (bw (qv 0) (bw bx bA))))
  (bC (cB (cu (go_eq hr.units) (bJ cA (bI (qv 1) bx) bx) bx)
  (bG (bL bx))
  bQ)
  (bC (cB (cu (go_eq hr.units) (bJ cA (bI (qv 1) bx) bx) bx)
  (bG (bL (bJ cD bx (bJ cA (bI (qv 1) bx) bx))))
  bQ)
  (bG (bL (bJ cD bx (bJ cA (bI (qv 1) bx) bx))))))),?_⟩
 rintro _ R ⟨c,rfl,q⟩;have s1:=jY c 1;have s1':0<=strm c 1:=s1.1;refine⟨c,2,rfl,by decide,_,cX (k:=0) (by decide),by decide,swD (λh=>q 0 (by decide)) λh=>⟨_,cX (k:=0) (by decide),by decide,swD (λh=>⟨_,cX (k:=1) (by decide),by decide,?_⟩) λh=>⟨_,cX (k:=1) (by decide),by decide,?_⟩⟩⟩
 .have:=q (5+strm c 1%4).toNat (by lia);rw[show(((5+strm c 1%4).toNat:Nat):Int)=5+strm c 1%4 by lia]at this;exact this
 .have:=q (1+strm c 1%4).toNat (by lia);rw[show(((1+strm c 1%4).toNat:Nat):Int)=1+strm c 1%4 by lia]at this;exact this
def yG(ws:List (Nat×Rat))(p:Nat×Rat):List (Nat×Rat):=if(ws.any λx=>decide (x.1=p.1))=true then ws.map (λx=>if x.1=p.1 then(x.1,x.2+p.2)else x)else ws++[p]
def yZ(ps:List (Nat×Rat)):List (Nat×Rat):=ps.foldl yG []
def vD(ps:List (Nat×Rat)):List (Nat×Rat):=(yZ ps).filter λp=>!decide (p.2=0)
noncomputable abbrev nmP(ns:Θ)(p:Nat×Rat):Str×Rat:=(ns.getD p.1 ⟨#[]⟩,p.2)
theorem Kl{ns:Θ}(nd:ns.Nodup){i j:Nat}(hi:i<ns.length)(hj:j<ns.length):(ns.getD i ⟨#[]⟩=ns.getD j ⟨#[]⟩)↔i=j:=by
 constructor
 .intro h;rw[au,au,aj hi,aj hj]at h;rcases Nat.lt_trichotomy i j with l|l|l
  .exact absurd h ((List.pairwise_iff_getElem.mp nd) i j hi hj l)
  .exact l
  .exact absurd h.symm ((List.pairwise_iff_getElem.mp nd) j i hj hi l)
 .intro h;rw[h]
theorem aeK{ns:Θ}(nd:ns.Nodup){ws:List (Nat×Rat)}{p:Nat×Rat}(hw:∀w∈ws,w.1<ns.length)(hp:p.1<ns.length):addW (ws.map (nmP ns)) (nmP ns p)=(yG ws p).map (nmP ns):=by
 have an:((ws.map (nmP ns)).any λx=>decide (x.1=(nmP ns p).1))=ws.any λx=>decide (x.1=p.1):=by
  rw[List.any_map];refine Bool.eq_iff_iff.mpr ⟨λh=>?_,λh=>?_⟩
  .obtain⟨x,hx,e⟩:=List.any_eq_true.mp h;exact List.any_eq_true.mpr ⟨x,hx,Zs ((Kl nd (hw x hx) hp).mp (of_decide_eq_true e))⟩
  .obtain⟨x,hx,e⟩:=List.any_eq_true.mp h;exact List.any_eq_true.mpr ⟨x,hx,Zs ((Kl nd (hw x hx) hp).mpr (of_decide_eq_true e))⟩
 unfold addW yG;rw[an];split
 .rw[WP,WP];refine UQ λx hx=>?_;show(if(nmP ns x).1=(nmP ns p).1 then _ else _)=nmP ns (if x.1=p.1 then _ else _);by_cases e:x.1=p.1
  .rw[ZY e,ZY ((Kl nd (hw x hx) hp).mpr e)]
  .rw[ZZ e,ZZ λz=>e ((Kl nd (hw x hx) hp).mp z)]
 .rw[bf];rfl
theorem Eh{ws:List (Nat×Rat)}{p w:Nat×Rat}(h:w∈yG ws p):(w∈ws/\w.1≠p.1)\/w=p\/∃x∈ws,x.1=p.1/\w=(x.1,x.2+p.2):=by
 unfold yG at h;split at h
 .obtain⟨x,hx,rfl⟩:=YV.mp h;by_cases e:x.1=p.1
  .rw[ZY e];exact .inr (.inr ⟨x,hx,e,rfl⟩)
  .rw[ZZ e];exact .inl ⟨hx,e⟩
 .rename_i n
  rcases Y1.mp h with z|z
  .exact .inl ⟨z,λe=>n (List.any_eq_true.mpr ⟨w,z,Zs e⟩)⟩
  .exact .inr (.inl (YR.mp z))
theorem T4{ns:Θ}(nd:ns.Nodup){ps:List (Nat×Rat)}(h:∀p∈ps,p.1<ns.length):je (ps.map (nmP ns))=(yZ ps).map (nmP ns):=by
 suffices H:∀(ps ws:List (Nat×Rat)),(∀p∈ps,p.1<ns.length)->(∀w∈ws,w.1<ns.length)->(ps.map (nmP ns)).foldl addW (ws.map (nmP ns))=(ps.foldl yG ws).map (nmP ns)from H ps [] h λ_ z=>(nomatch z)
 intro ps
 induction ps with
 |nil=>exact λ_ _ _=>rfl
 |cons p ps ih =>
  intro ws hp hw;rw[List.map_cons,List.foldl_cons,List.foldl_cons,aeK nd hw (hp p (aO ..))];refine ih _ (λq hq=>hp q (aJ _ hq)) λw hm=>?_;rcases Eh hm with⟨z,_⟩|rfl|⟨x,hx,_,rfl⟩
  .exact hw w z
  .exact hp w (aO ..)
  .exact hw x hx
theorem aaJ{ns:Θ}(nd:ns.Nodup){ps:List (Nat×Rat)}(h:∀p∈ps,p.1<ns.length):zJ (ps.map (nmP ns))=(vD ps).map (nmP ns):=by
 unfold zJ vD;rw[T4 nd h,List.filter_map]
 rfl
theorem wZ{r:Rat}{q:Nat}(hq:0<q):r.den ∣ q↔∃x:Int,r=Rat.divInt x q:=by
 constructor
 .rintro⟨k,rfl⟩;refine⟨r.num*k,?_⟩;have hk:((k:Nat):Int)≠0:=λz=>by rw[show k=0 by lia]at hq;lia
  conv=>lhs;rw[<- rd r]
  refine(JJ (j8 r) (by push_cast;exact lH (j8 r) hk)).mpr ?_
  push_cast
  grind
 .rintro⟨x,rfl⟩;have:=Mi (a:=x) (b:=(q:Nat)) (by lia);exact this
theorem Gw{a b:Rat}{q:Nat}(hq:0<q)(ha:a.den ∣ q)(hb:b.den ∣ q):(a+b).den ∣ q:=by
 obtain⟨x,rfl⟩:=(wZ hq).mp ha;obtain⟨y,rfl⟩:=(wZ hq).mp hb;have h0:((q:Nat):Int)≠0:=by lia
 refine(wZ hq).mpr ⟨x+y,?_⟩;rw[Qr _ _ h0 h0];refine(JJ (lH h0 h0) h0).mpr ?_
 grind
theorem den_mul{a b:Rat}{q r:Nat}(hq:0<q)(hr:0<r)(ha:a.den ∣ q)(hb:b.den ∣ r):(a*b).den ∣ q*r:=by
 obtain⟨x,rfl⟩:=(wZ hq).mp ha;obtain⟨y,rfl⟩:=(wZ hr).mp hb;refine(wZ (JY hq hr)).mpr ⟨x*y,?_⟩;rw[QY]
 push_cast
 rfl
theorem abg{a:Rat} : (-a).den=a.den:=rfl
structure JnI(m q:Nat)(as ws:List (Nat×Rat)):Prop where
 nd:(ws.map (·.1)).Nodup
 lt:∀w∈ws,w.1<m
 nn:∀w∈ws,0<=w.2
 dn:∀w∈ws,w.2.den ∣ q
 sum:∀y:Nat->Rat,dw ws y=dw as y
 few:ws.length<=as.length
theorem Fo(as bs:List (Nat×Rat))(y:Nat->Rat):dw (as++bs) y=dw as y+dw bs y:=by
 induction as with
 |nil=>show dw bs y=0+_;rw[Rat.zero_add]
 |cons a as ih=>rw[List.cons_append,cW,cW,ih,Rat.add_assoc]
theorem SN(p:Nat×Rat)(y:Nat->Rat):dw [p] y=p.2*y p.1:=by rw[cW];show _+0=_;rw[Rat.add_zero]
theorem aew{ws:List (Nat×Rat)}{p:Nat×Rat}(nd:(ws.map (·.1)).Nodup)(y:Nat->Rat):dw (yG ws p) y=dw ws y+p.2*y p.1:=by
 unfold yG;split
 .rename_i h
  induction ws with
  |nil=>cases h
  |cons x ws ih =>
   obtain⟨n1,n2⟩:=List.nodup_cons.mp nd;rw[List.map_cons,cW,cW];by_cases e:x.1=p.1
   .rw[ZY e];have rest:ws.map (λx=>if x.1=p.1 then(x.1,x.2+p.2)else x)=ws:=by
     conv=>rhs;rw[<- List.map_id ws]
     refine UQ λz hz=>?_;rw[ZZ λw=>n1 (YV.mpr ⟨z,hz,w.trans e.symm⟩)]
     rfl
    rw[rest,<- e];show(x.2+p.2)*y x.1+dw ws y=_
    grind
   .rw[ZZ e,ih n2 (by
     rw[List.any_cons,Zp e,Bool.false_or]at h;exact h)]
    grind
 .rw[Fo,SN]
theorem adK{ws:List (Nat×Rat)}{p:Nat×Rat}(nd:(ws.map (·.1)).Nodup):((yG ws p).map (·.1)).Nodup:=by
 unfold yG;by_cases h:(ws.any λx=>decide (x.1=p.1))=true
 .rw[ZY h,WP];rw[show ws.map ((λx=>x.1) ∘ λx=>if x.1=p.1 then(x.1,x.2+p.2)else x)=ws.map (·.1)from UQ λx _=>by show(if x.1=p.1 then(x.1,x.2+p.2)else x).1=x.1;split<;>rfl];exact nd
 .rw[ZZ h,bf];refine List.nodup_append.mpr ⟨nd,by simp,λa ha b hb z=>h ?_⟩;obtain⟨x,hx,rfl⟩:=YV.mp ha;rw[List.map_singleton,YR]at hb;exact List.any_eq_true.mpr ⟨x,hx,Zs (z.trans hb)⟩
theorem abP{m q:Nat}(hq:0<q){as ws:List (Nat×Rat)}{p:Nat×Rat}(hp:p.1<m/\0<=p.2/\p.2.den ∣ q)(h:JnI m q as ws):JnI m q (as++[p]) (yG ws p):=by
 refine⟨adK h.nd,λw hw=>?_,λw hw=>?_,λw hw=>?_,λy=>by rw[aew h.nd,h.sum,Fo,SN],?_⟩
 .rcases Eh hw with⟨z,_⟩|rfl|⟨x,hx,_,rfl⟩
  .exact h.lt w z
  .exact hp.1
  .exact h.lt x hx
 .rcases Eh hw with⟨z,_⟩|rfl|⟨x,hx,_,rfl⟩
  .exact h.nn w z
  .exact hp.2.1
  .have:=h.nn x hx;have:=hp.2.1;show 0<=x.2+p.2
   grind
 .rcases Eh hw with⟨z,_⟩|rfl|⟨x,hx,_,rfl⟩
  .exact h.dn w z
  .exact hp.2.2
  .exact Gw hq (h.dn x hx) hp.2.2
 .have:=h.few;unfold yG;split
  .rw[ak,aA];exact aL this (X2 _ _)
  .rw[aA,aA];simp;omega
theorem JN{m q:Nat}(hq:0<q):∀{ps:List (Nat×Rat)},(∀p∈ps,p.1<m/\0<=p.2/\p.2.den ∣ q)->JnI m q ps (yZ ps):=by
 intro ps h
 suffices H:∀(ps as ws:List (Nat×Rat)),(∀p∈ps,p.1<m/\0<=p.2/\p.2.den ∣ q)->JnI m q as ws->JnI m q (as++ps) (ps.foldl yG ws)from H ps [] [] h ⟨.nil,λ_ z=>(nomatch z),λ_ z=>(nomatch z),λ_ z=>(nomatch z),λ_=>rfl,aG _⟩
 intro ps
 induction ps with
 |nil=>intro as ws _ h;rw[List.append_nil];exact h
 |cons p ps ih =>
  intro as ws hp h;have:=ih (as++[p]) (yG ws p) (λx hx=>hp x (aJ _ hx)) (abP hq (hp p (aO ..)) h);rw[WZ]at this;exact this
theorem CP(y:Nat->Rat):∀ws:List (Nat×Rat),dw (ws.filter λp=>!decide (p.2=0)) y=dw ws y
 |[]=>rfl
 |w::ws=>by
  by_cases e:w.2=0
  .rw[List.filter_cons_of_neg (by rw[Zs e];decide),CP y ws,cW,e,Rat.zero_mul,Rat.zero_add]
  .rw[List.filter_cons_of_pos (by rw[Zp e];rfl),cW,cW,CP y ws]
theorem KN{m q:Nat}(hq:0<q){ps:List (Nat×Rat)}(h:∀p∈ps,p.1<m/\0<=p.2/\p.2.den ∣ q):JnI m q ps (vD ps):=by
 have j:=JN hq h;have sub:∀w∈vD ps,w∈yZ ps:=λw hw=>(List.mem_filter.mp hw).1;refine⟨(List.filter_sublist.map _).nodup j.nd,λw hw=>j.lt w (sub w hw),λw hw=>j.nn w (sub w hw),λw hw=>j.dn w (sub w hw),λy=>?_,aL (List.length_filter_le ..) j.few⟩;unfold vD;rw[CP,j.sum]
theorem rA{w:Nat×Rat} : ∀{ws:List (Nat×Rat)},(∀w∈ws,0<=w.2)->w∈ws->w.2<=dw ws λ_=>1
 |[],_,h=>by cases h
 |x::ws,nn,h=>by
  rw[cW];have n0:∀ws:List (Nat×Rat),(∀w∈ws,0<=w.2)->0<=dw ws λ_=>1:=λws=>by
   induction ws with
   |nil=>intro _;exact UR
   |cons y ws ih =>
    intro h;rw[cW];have:=h y (aO ..);have:=ih λw hw=>h w (aJ _ hw)
    grind
  rcases YU.mp h with rfl|z
  .have:=n0 ws λw hw=>nn w (aJ _ hw)
   grind
  .have:=rA (ws:=ws) (λw hw=>nn w (aJ _ hw)) z;have:=nn x (aO ..)
   grind
theorem Br:∀ps:List (Nat×Rat),(dw ps λ_=>1)=zA (ps.map (·.2))
 |[]=>rfl
 |p::ps=>by
  rw[cW,Br ps,Rat.mul_one]
  rfl
theorem LDk.all{m:Nat}{d:LD}(h:LDk m d):∃q:Nat,0<q/\q<=4000/\∀p∈d.prs,p.1<m/\0<=p.2/\p.2.den ∣ q:=by
 obtain⟨q,q0,q1,hq⟩:=h.dn;exact⟨q,q0,q1,λp hp=>⟨h.lt p hp,h.nn p hp,hq p hp⟩⟩
theorem Zy{q:Nat}{r:Rat}(q0:0<q)(q1:q<=4000)(h0:0<=r)(h1:r<=1)(hd:r.den ∣ q):Ch r:=⟨h0,h1,fK (by have:=UU q0 hd;lia)⟩
theorem LDk.prsOk{m:Nat}{d:LD}{ns:Θ}(h:LDk m d)(hn:Nms ns m):Prs (d.prs.map (nmP ns)):=by
 obtain⟨q,q0,q1,hq⟩:=h.all;have le1:∀p∈d.prs,p.2<=1:=λp hp=>by
  rw[<- h.one,<- Br];exact rA h.nn hp
 have few:=h.few;have m2:(d.prs.map (nmP ns)).map (·.2)=d.prs.map (·.2):=by rw[WP];rfl
 refine⟨by rw[ak];exact aL few (by decide),λp hp=>?_,?_,by rw[m2];exact h.one,λas a bs e=>?_⟩
 .obtain⟨x,hx,rfl⟩:=YV.mp hp;obtain⟨x1,x2,x3⟩:=hq x hx;have lx:x.1<ns.length:=by rw[hn.len];exact x1
  refine⟨hn.wd _ ?_,Zy q0 q1 x2 (le1 x hx) x3⟩;show ns.getD x.1 ⟨#[]⟩∈ns;rw[au,aj lx];exact aU lx
 .rw[m2];have:=tV (d.prs.map (·.2)) (n:=1) (m:=q) (Nat.one_dvd _) λr hr=>by
   obtain⟨x,hx,rfl⟩:=YV.mp hr;exact(hq x hx).2.2
  have:=UU q0 this;exact fK (by lia)
 .obtain⟨ir,bs',e0,rfl,e2⟩:=List.map_eq_append_iff.mp e;obtain⟨a',cs',rfl,rfl,rfl⟩:=List.map_eq_cons_iff.mp e2;have sub:∀p∈ir,p∈d.prs:=λp hp=>e0 ▸ U1 _ hp;have ha:=hq a' (e0 ▸ aP _ (aO ..));have ca:Ch a'.2:=Zy q0 q1 ha.2.1 (le1 a' (e0 ▸ aP _ (aO ..))) ha.2.2;have j:=JN q0 (ps:=ir) (m:=m) λp hp=>hq p (sub p hp);rw[T4 hn.nd λp hp=>by rw[hn.len];exact(hq p (sub p hp)).1];have cn:Ch (yO ((yZ ir).map (nmP ns)) (nmP ns a').1):=by
   unfold yO;cases ef:((yZ ir).map (nmP ns)).find? λx=>decide (x.1=(nmP ns a').1)with
   |none=>exact⟨UR,by show(0:Rat)<=1;decide,fK (by decide)⟩
   |some x =>
    obtain⟨y,hy,rfl⟩:=YV.mp (List.mem_of_find?_eq_some ef);refine Zy q0 q1 (j.nn y hy) ?_ (j.dn y hy);have l1:=rA j.nn hy;rw[j.sum]at l1;have l2:=h.one;rw[<- Br,e0,Fo]at l2;have l3:0<=dw (a'::cs') λ_=>1:=by
     have:∀ws:List (Nat×Rat),(∀w∈ws,0<=w.2)->0<=dw ws λ_=>1:=λws=>by
      induction ws with
      |nil=>intro _;exact UR
      |cons y ws ih =>
       intro h;rw[cW];have:=h y (aO ..);have:=ih λw hw=>h w (aJ _ hw)
       grind
     exact this _ λw hw=>h.nn w (e0 ▸ aP _ hw)
    show y.2<=1
    grind
  refine⟨cn.bq,ca.bq,?_⟩;have:=cn.2.2;have:=UU q0 ha.2.2;have oq:(yO ((yZ ir).map (nmP ns)) (nmP ns a').1).den<=4000:=by
   unfold yO;cases ef:((yZ ir).map (nmP ns)).find? λx=>decide (x.1=(nmP ns a').1)with
   |none=>exact Tu rfl
   |some x =>
    obtain⟨y,hy,rfl⟩:=YV.mp (List.mem_of_find?_eq_some ef);have:=UU q0 (j.dn y hy);exact aL this q1
  refine fK ?_;rw[VS,XG,XG];exact Y3 (VX oq (show a'.2.den<=4000 by exact aL this q1)) (by decide)
noncomputable def clsOf(D:Adr):Nat->Addr
 |0=>D.Sure
 |1=>D.Toss
 |2=>D.Even
 |_=>D.Mixed
abbrev Xk(t:Str)(d:LD):bV:=⟨t,d.pay,vD d.prs⟩
abbrev vB(D:Adr)(t:Str)(d:LD):Made:=⟨clsOf D d.sort,Xk t d⟩
theorem Zw(D:Adr):∀k,cV D (clsOf D k)
 |0=>by unfold cV clsOf;simp
 |1=>by unfold cV clsOf;simp
 |2=>by unfold cV clsOf;simp
 |_+3=>by unfold cV clsOf;simp
def Qc(D:Adr):ST:=λts q=>∃(t:Str)(d:LD)(ns:Θ)(m:Nat),ts=[.str t,ldT d,.lst (ns.map T.str)]/\Wd t/\Nms ns m/\LDk m d/\q (.fz (mdT ns (vB D t d)))
theorem Yg(F:Fun K zF zF Bg f fd)(T:Txt K mg D)(uG:OkI P w K mg base CX0 5 D.Sure_init oV (spI K (Uj D)))(dN:OkI P w K mg base CX0 5 D.Mixed_init gJ (spI K (z6 D)))(vH:OkI P w K mg base CX0 6 D.Toss_init nH (spI K (Ub D)))(vd:OkI P w K mg base CX0 6 D.Even_init n8 (spI K (T3 D))):b_ P w K mg base CX0 8 f fd yX (spT K (Qc D)):=by
 refine F.okT vI (λts R hP=>by obtain⟨_,_,_,_,e,_⟩:=hP;exact e ▸ rfl) λah A outer s H E hr=>?_;refine⟨_,(bC (Ga (qv 1) (eZ (n:=3) rfl (bT (bZ (n:=99) 4 vI.nd (Or.inl rfl)) (bT (bZ (n:=99) 5 vI.nd (Or.inl rfl)) (bT (bZ (n:=99) 6 vI.nd (Or.inl rfl)) dz)))))
  (bC (p8 (bF Bg) Bk Bk ["_law_room","_law_chance"] (cF (qv 6)) (eZ (n:=2) rfl (bT (gj (i:=0)) (bT (gj (i:=1)) dz))) cG (cT (bw (bI (qv 4) (qv 0)) (bw (qv 1) bA))) (iJ (i:=3) vI.nd rfl (Or.inl rfl)))
  (bC (cB (cu (go_eq hr.units) (qv 4) bx)
  (bG (bL (Ba T.acd uG hr.md (by rfl) T.aey (bw (qv 0) (bw (qv 5) (bw (bI (bI (qv 3) bx) bx) bA))))))
  bQ)
  (bC (cB (cu (go_eq hr.units) (qv 4) bx)
  (bG (bL (Ba T.ab3 vH hr.md (by rfl) T.aeR (bw (qv 0) (bw (qv 5) (bw (bI (bI (qv 3) bx) bx) (bw (bI (bI (qv 3) bx) bx) (bw (bI (bI (qv 3) bx) bx) bA))))))))
  bQ)
  (bC (cB (cu (go_eq hr.units) (qv 4) bx)
  (bG (bL (Ba T.aaT vd hr.md (by rfl) T.afF (bw (qv 0) (bw (qv 5) (bw (d_ (bF Bg) Bk Bk ["_law_room","_law_chance"] (cF (qv 3)) (eZ (n:=2) rfl (bT (gj (i:=0)) (bT (gj (i:=1)) dz))) cG (qv 0)) bA))))))
  bQ)
  (bG (bL (Ba T.Yl dN hr.md (by rfl) T.NK (bw (qv 0) (bw (qv 5) (bw (qv 3) bA))))))))))),?_⟩
 rintro _ R ⟨t,d,ns,m,rfl,wt,hn,hd,q⟩;have few:=hd.few;have en:∀p∈d.prs,ixT (ns.map L2.T.str) (p.1:Nat)=some (.str (nmP ns p).1):=λp hp=>by
  have lp:p.1<ns.length:=by rw[hn.len];exact hd.lt p hp
  exact dJ (by rw[aj lp];show _=some (ns.getD p.1 ⟨#[]⟩);rw[au,aj lp];rfl)
 have em:(d.prs.map (nmP ns)).map wyT=d.prs.map λp=>wyT (nmP ns p):=by rw[WP];rfl
 have pk:=hd.prsOk hn;have wk:=aaJ hn.nd (ps:=d.prs) λp hp=>by rw[hn.len];exact hd.lt p hp
 refine⟨rfl,by rw[ak];exact aL few (by decide),comp_map nwT (λp=>wyT (nmP ns p)) d.prs (λp hp N M hN=>⟨rfl,_,en p hp,hN⟩) ?_⟩;rw[<- em];obtain⟨so,pay,prs⟩:=d;have s4:so<4:=hd.sort;have s0:=hd.s0;have s1:=hd.s1;have s2:=hd.s2;dsimp only at *;obtain rfl|rfl|rfl|rfl:so=0\/so=1\/so=2\/so=3:=by lia
 .obtain⟨a,rfl⟩:=s0 rfl;have e1:vD [(a,1)]=[(a,1)]:=by simp[vD,yZ,yG]
  have q':R (.fz (drT D.Sure t pay ([(a,1)].map (nmP ns)))):=by rw[<- e1];exact q
  exact⟨_,rfl,t,_,pay,rfl,rfl,Xr D,rfl,wt,(pk.ok (nmP ns (a,1)) (YR.mpr rfl)).1,q'⟩
 .obtain⟨a,b,x,rfl⟩:=s1 rfl;have q':R (.fz (drT D.Toss t pay (zJ ([(a,x),(b,1-x)].map (nmP ns))))):=by rw[wk];exact q
  exact⟨_,rfl,_,rfl,_,rfl,t,_,_,pay,x,rfl,rfl,Xw D,rfl,wt,(pk.ok (nmP ns (a,x)) (aO ..)).2,pk,q'⟩
 .obtain⟨rs,rfl⟩:=s2 rfl;have q':R (.fz (drT D.Even t pay (zJ ((rs.map λr=>(r,mkRat 1 rs.length)).map (nmP ns))))):=by rw[wk];exact q
  have ev:even (((rs.map λr=>(r,mkRat 1 rs.length)).map (nmP ns)).map (·.1))=(rs.map λr=>(r,mkRat 1 rs.length)).map (nmP ns):=by
   have el:(((rs.map λr=>(r,mkRat 1 rs.length)).map (nmP ns)).map (·.1)).length=rs.length:=by simp
   unfold even;rw[el];simp[Function.comp_def]
  refine⟨by rw[ak,ak];exact aL few (by decide),comp_map wyT (λp=>.str p.1) ((rs.map λr=>(r,mkRat 1 rs.length)).map (nmP ns)) (λp hp N M hN=>⟨rfl,hN⟩) ⟨t,pay,((rs.map λr=>(r,mkRat 1 rs.length)).map (nmP ns)).map (·.1),rfl,rfl,aax D,?_,wt,by rw[ev];exact pk,?_⟩⟩
  .rw[show(((rs.map λr=>(r,mkRat 1 rs.length)).map (nmP ns)).map (·.1)).map L2.T.str=((rs.map λr=>(r,mkRat 1 rs.length)).map (nmP ns)).map λp=>L2.T.str p.1 from WP]
   rfl
  .rw[ev];exact q'
 .have q':R (.fz (drT D.Mixed t pay (zJ (prs.map (nmP ns))))):=by rw[wk];exact q
  exact⟨t,pay,prs.map (nmP ns),rfl,rfl,Wu D,rfl,wt,pk,q'⟩
structure Fj(ae:List (List LD))(off:List (List bV)):Prop where
 len:off.length=ae.length
 at_:∀(k:Nat)ds os,ae[k]?=some ds->off[k]?=some os->∃tl:Θ,tl.length=ds.length/\os=(tl.zip ds).map λp=>Xk p.1 p.2
theorem O4{α β:Type} : ∀{xs:List α}{ys:List β}{x:α}(y:β),xs[ys.length]?=some x->xs.zip (ys++[y])=xs.zip ys++[(x,y)]
 |[],ys,_,_,e=>by cases e
 |a::xs,[],x,y,e=>by cases e;simp
 |a::xs,b::ys,x,y,e=>by
  rw[List.cons_append,List.zip_cons_cons,List.zip_cons_cons,O4 (xs:=xs) (ys:=ys) y (by simpa using e)]
  rfl
theorem Q5{α β:Type}(f:α->T)(g:β->T):∀(xs:List α)(ys:List β),Iu (xs.map f) (ys.map g)=(xs.zip ys).map λp=>.tup [f p.1,g p.2]
 |[],ys=>by cases ys<;>rfl
 |_::_,[]=>rfl
 |x::xs,y::ys=>by
  rw[List.zip_cons_cons,List.map_cons,List.map_cons,List.map_cons,<- Q5 f g xs ys]
  rfl
def U4(D:Adr):ST:=λts q=>∃(c:Int)(s:Rat)(m mo:Nat)(ae:List (List LD)),ts=[.int c,frR s,Hh ae]/\Shr s/\DSk m mo ae/\m<=26/\mo<=26/\∀ns off,Nms ns m->MF ns off->Fj ae off->q (.fz (hlT D s ns off))
theorem ab6(F:Fun K Eo Eo Lh f fd)(T:Txt K mg D)(DR:OkT P w K mg base 2 Ar Bw Qg)(MK:OkT P w K mg base 8 zF yX (Qc D))(uI:OkI P w K mg base CX0 4 D.Hall_init oh (spI K (Vl D))):b_ P w K mg base CX0 9 f fd Er (spT K (U4 D)):=by
 refine F.okT zT (λts R hP=>by obtain⟨_,_,_,_,_,e,_⟩:=hP;exact e ▸ rfl) λah A outer s H E hr=>?_;refine⟨_,(bC (bO 3 zT.nd (Or.inr rfl) (bH DR hr.md (by rfl) (bw (qv 0) (bw (bM cJ (by rfl) T.cZ WG (bw (qv 2) bA)) bA))))
  (bC (jz 4 zT.nd (Or.inl rfl) (cY bA))
  (bC (dO VY rfl (dX (by rfl) T.fU (bw (bM cJ (by rfl) T.cZ WG (bw (qv 2) bA)) bA)) (bZ (n:=99) 5 zT.nd (Or.inl rfl))
  (bC (bO 6 zT.nd (Or.inl rfl) (bH DR hr.md (by rfl) (bw (bJ cD (qv 0) (qv 5)) (bw (bM cJ (by rfl) T.cZ WG (bw (bI (qv 2) (qv 5)) bA)) bA))))
  (bG (wg 4 (cT (bw (bI (qv 3) (qv 5)) (bw (d_ (bF Lh) Tv Tv ["_law_title","_law_door_here"] (Rm (by rfl) T.Vh (bw (qv 6) (bw (bI (qv 2) (qv 5)) bA))) (eZ (n:=2) rfl (bT (gj (i:=0)) (bT (gj (i:=1)) dz))) cG (bH MK hr.md (by rfl) (bw (qv 0) (bw (qv 1) (bw (qv 5) bA))))) bA)))))))
  (bG (GD 4 (bL (Ba T.abQ uI hr.md (by rfl) T.aeG (bw (qv 1) (bw (qv 4) bA))))))))),?_⟩
 rintro _ R ⟨c,s,m,mo,ae,rfl,hs,hd,m1,ik,q⟩;have dl:(ae.map λds=>L2.T.lst (ds.map ldT)).length=m:=by rw[ak,hd.len]
 refine⟨c,m,by rw[<- dl];rfl,m1,λns hn=>?_⟩;have nl:=hn.len;have e0:yr ns []=[]:=by simp[yr]
 refine⟨⟨by rw[dl];lia,by rw[dl];lia⟩,rM (λk o=>∃(ms:List (List Made))(x5 x6:OT),o=[.fz (.int c),.fz (frR s),.fz (Hh ae),.fz (.lst (ns.map L2.T.str)),.l1 (yr ns ms),x5,x6]/\ms.length=k/\∀(i:Nat)ds x,ae[i]?=some ds->ms[i]?=some x->∃tl,Nms tl ds.length/\x=(tl.zip ds).map λp=>vB D p.1 p.2) ⟨[],.und,.und,by rw[e0];rfl,rfl,λi ds x _ z=>by cases z⟩ ?_ ?_⟩
 .rintro k _ hk ⟨ms,x5,x6,rfl,lm,hm⟩;have hk:k<m:=by rw[dl]at hk;lia
  have lk:k<ae.length:=by rw[hd.len];exact hk
  have ek:=aj lk;have mem:=aU lk;have fk:=hd.few _ mem;have ka:ixT (ae.map λds=>L2.T.lst (ds.map ldT)) (k:Nat)=some (.lst (ae[k].map ldT)):=dJ ek;have nk:ns[k]?=some (ns.getD k ⟨#[]⟩):=by rw[au,aj (by lia)];rfl
  refine⟨_,ka,c+k,ae[k].length,by rw[<- ak (as:=ae[k]) (f:=ldT)];rfl,by exact aL fk ik,λtl ht=>?_⟩;refine⟨_,dJ nk,_,ka,?_⟩;have zl:(tl.zip ae[k]).length<=26:=by rw[VT];lia
  show(Iu (tl.map L2.T.str) (ae[k].map ldT)).length<=sizeLine/\iZ _ _ _ _ (Iu (tl.map L2.T.str) (ae[k].map ldT)) _;rw[Q5];refine⟨by rw[ak];exact aL zl (by decide),comp_map (λp=>.tup [.str p.1,ldT p.2]) (λp=>mdT ns (vB D p.1 p.2)) (tl.zip ae[k]) (λp hp N M hN=>⟨rfl,p.1,p.2,ns,m,rfl,ht.wd _ (US hp).1,hn,hd.ok _ mem _ (US hp).2,hN⟩) ⟨?_,ms++[(tl.zip ae[k]).map λp=>vB D p.1 p.2],.fz (.int (k:Nat)),.fz (.lst (tl.map L2.T.str)),?_,by rw[aA,lm];rfl,λi ds x e1 e2=>?_⟩⟩
  .rw[ak,VT];exact aR (show _<1000 by lia) (by decide)
  .rw[show yr ns (ms++[(tl.zip ae[k]).map λp=>vB D p.1 p.2])=yr ns ms++[.tup [.str (ns.getD k ⟨#[]⟩),.lst ((tl.zip ae[k]).map λp=>mdT ns (vB D p.1 p.2))]]by
    unfold yr;rw[O4 (x:=ns.getD k ⟨#[]⟩) _ (by rw[lm];exact nk),bf,List.map_singleton]
    congr 2
    show rmT (_,((tl.zip ae[k]).map λp=>vB D p.1 p.2).map (mdT ns))=_;rw[WP]
    rfl]
   rfl
  .by_cases hi:i<ms.length
   .rw[aF hi]at e2;exact hm i ds x e1 e2
   .have li:=(ao.mp e2).1;rw[aA,List.length_singleton]at li;have:i=k:=by lia
    subst this;rw[aD (WH lm),show i-ms.length=0 by lia]at e2;cases e2;rw[ek]at e1;cases e1;exact⟨tl,ht,rfl⟩
 .rintro _ ⟨ms,x5,x6,rfl,lm,hm⟩;have lm:ms.length=m:=by rw[lm];exact dl
  have all:∀x∈ms,∃ds∈ae,∃tl,Nms tl ds.length/\x=(tl.zip ds).map λp=>vB D p.1 p.2:=λx hx=>by
   obtain⟨i,hi⟩:=aV hx;have li:=(ao.mp hi).1;have ld:i<ae.length:=by rw[hd.len];exact aR li (WH lm)
   exact⟨_,aU ld,hm i _ x (aj ld) hi⟩
  have rk:adi D ns ms:=by
   refine⟨by rw[lm,nl],by lia,hn.wd,hn.nd,λx hx=>?_⟩;obtain⟨ds,kz,tl,ht,rfl⟩:=all x hx;have fd:=hd.few ds kz;have iE:=ht.len;refine⟨by rw[ak,VT];lia,λy hy=>?_,λy hy=>?_,?_⟩
   .obtain⟨p,_,rfl⟩:=YV.mp hy;exact Zw D _
   .obtain⟨p,hp,rfl⟩:=YV.mp hy;have lk:=hd.ok ds kz p.2 (US hp).2;obtain⟨qq,q0,q1,hq⟩:=lk.all;have j:=KN q0 hq;have:=j.few;have:=lk.few;exact⟨by show(vD p.2.prs).length<=1000;lia,λw hw=>by rw[nl];exact j.lt w hw⟩
   .rw[WP];show((tl.zip ds).map λp=>p.1).Nodup;rw[List.map_fst_zip (WH iE)];exact ht.nd
  have bs:Bq s:=⟨fK (by
   have h0:=Rat.num_nonneg.mpr hs.lo;have h1:=(Rat.lt_iff s 1).mp hs.hi;have h1:s.num*((1:Rat).den:Int)<(1:Rat).num*(s.den:Int):=h1;have:=hs.den;simp at h1;lia),fK (by have:=hs.den;lia)⟩
  refine⟨s,ns,ms,rfl,rfl,rfl,rfl,hs.lo,hs.hi,bs,rk,q ns (offs ms) hn ⟨?_,by lia,λos l9=>?_⟩ ⟨?_,λk ds os e1 e2=>?_⟩⟩
  .rw[ak,lm,nl]
  .obtain⟨x,hx,rfl⟩:=YV.mp l9;rw[ak];exact(rk.mds x hx).few
  .rw[ak,lm,hd.len]
  .rw[aq]at e2;cases e3:ms[k]? with
   |none=>rw[e3]at e2;cases e2
   |some x =>
    rw[e3]at e2;cases e2;obtain⟨tl,ht,rfl⟩:=hm k ds x e1 e3;exact⟨tl,ht.len,WP⟩
structure PlD(ae:List (List LD))(pl:List (Option Nat)):Prop where
 len:pl.length=ae.length
 ok:∀(k:Nat)(d:Option Nat)(ds:List LD),pl[k]?=some d->ae[k]?=some ds->z_ d ds.length=true
theorem PlD.snoc{ae:List (List LD)}{k:Nat}{pl:List (Option Nat)}(h:∀(i:Nat)(d:Option Nat)(ds:List LD),i<k->pl[i]?=some d->ae[i]?=some ds->z_ d ds.length=true)(l:pl.length=k){ds:List LD}(ek:ae[k]?=some ds){d:Option Nat}(hd:z_ d ds.length=true):∀(i:Nat)(c:Option Nat)(es:List LD),i<k+1->(pl++[d])[i]?=some c->ae[i]?=some es->z_ c es.length=true:=λi c es hi e1 e2=>by
 by_cases z:i<k
 .rw[aF (by lia)]at e1;exact h i c es z e1 e2
 .have:i=k:=by lia
  subst this;rw[aD (WH l),show i-pl.length=0 by lia]at e1;cases e1;rw[ek]at e2;cases e2;exact hd
def JH:ST:=λts q=>∃(c:Int)(ae:List (List LD)),ts=[.int c,Hh ae]/\ae.length<=100/\∀pl:List (Option Nat),PlD ae pl->q (.l1 (pl.map dT))
theorem VJ(F:Fun K wM wM Hq f fd)(T:Txt K mg D)(cU:OkT P w K mg base 1 gH gG jC):b_ P w K mg base CX0 2 f fd wJ (spT K JH):=by
 refine F.okT wI (λts R hP=>by obtain⟨_,_,e,_⟩:=hP;exact e ▸ rfl) λah A outer s H E hr=>?_;refine⟨_,(bC (bO 2 wI.nd (Or.inl rfl) (bH cU hr.md (by rfl) (bw (qv 0) (bw (bM cJ (by rfl) T.cZ WG (bw (qv 1) bA)) bA))))
  (bC (jz 3 wI.nd (Or.inl rfl) (cY bA))
  (bC (dO VY rfl (dX (by rfl) T.fU (bw (bM cJ (by rfl) T.cZ WG (bw (qv 1) bA)) bA)) (bZ (n:=99) 4 wI.nd (Or.inl rfl))
  (bG (cB (cu (go_eq hr.units) (bM cJ (by rfl) T.cZ WG (bw (bI (qv 1) (qv 4)) bA)) bx)
  (bG (wg 3 fX))
  (bG (wg 3 (bJ cA (bI (qv 2) (qv 4)) (bM cJ (by rfl) T.cZ WG (bw (bI (qv 1) (qv 4)) bA))))))))
  (bG (oK 3))))),?_⟩
 rintro _ R ⟨c,ae,rfl,few,q⟩;have dl:(ae.map λds=>L2.T.lst (ds.map ldT)).length=ae.length:=ak ..;refine⟨c,ae.length,by rw[<- dl];rfl,by exact aL few (by decide),⟨by rw[dl];lia,by rw[dl];lia⟩,?_⟩;refine rM (λk o=>∃(pl:List (Option Nat))(x:OT),o=[.fz (.int c),.fz (Hh ae),.fz (.lst ((jh c ae.length).map L2.T.int)),.l1 (pl.map dT),x]/\pl.length=k/\∀(i:Nat)(d:Option Nat)(ds:List LD),i<k->pl[i]?=some d->ae[i]?=some ds->z_ d ds.length=true) ⟨[],.und,rfl,rfl,λi d ds z=>absurd z (WV _)⟩ ?_ ?_
 .rintro k _ hk ⟨pl,x,rfl,l,h⟩;have hk:k<ae.length:=by rw[dl]at hk;lia
  have ek:=aj hk;have ka:ixT (ae.map λds=>L2.T.lst (ds.map ldT)) (k:Nat)=some (.lst (ae[k].map ldT)):=dJ ek;have lm:(pl.map dT).length<sizeLine:=by rw[ak];exact aR (show _<1000 by lia) (by decide)
  have s0:=jY c k;refine⟨_,ka,?_⟩;by_cases e:ae[k].length=0
  .refine swT (Zs (by rw[ak];lia)) ⟨lm,pl++[none],.fz (.int (k:Nat)),by rw[bf];rfl,by simp[l],PlD.snoc h l ek (Zs e)⟩
  .have p0:(0:Int)<(ae[k].map ldT).length:=by rw[ak];lia
   refine swF (Zp (by rw[ak];lia)) ⟨_,cX (k:=k) hk,_,ka,p0,lm,?_⟩;have a0:=Z3 (strm c k) (show((ae[k].map ldT).length:Int)≠0 by exact WS p0);have a1:=YY (strm c k) p0;obtain⟨n,en⟩:=Zzt a0;refine⟨pl++[some n],.fz (.int (k:Nat)),?_,by simp[l],PlD.snoc h l ek (Zs ?_)⟩
   .rw[bf];show _=[_,_,_,OT.l1 (pl.map dT++[L2.T.int (n:Nat)]),_];rw[<- en]
    rfl
   .rw[ak]at a1 en;lia
 .rintro _ ⟨pl,x,rfl,l,h⟩;have l:pl.length=ae.length:=by rw[l];exact dl
  exact q pl ⟨l,λk d ds e1 e2=>h k d ds (by rw[dl];have:=(ao.mp e1).1;lia) e1 e2⟩
open Rw (sg fZ fJ cj gk gO Big)
def Rz(n d:Nat)(r:Rat):Prop:=r.num.natAbs<=10^n/\r.den<=10^d
theorem aef{n d:Nat}{a b:Int}(hb:0<b)(h1:a.natAbs<=10^n)(h2:b.toNat<=10^d):Rz n d (Rat.divInt a b):=by
 obtain⟨x,y⟩:=div_pos (a:=a) hb;exact⟨aL y h1,aL x h2⟩
theorem Rz.mul{n d n' d':Nat}{a b:Rat}(ha:Rz n d a)(hb:Rz n' d' b):Rz (n+n') (d+d') (a*b):=by
 have e:a*b=Rat.divInt (a.num*b.num) (a.den*b.den):=by rw[<- QY,rd,rd]
 have p:(0:Int)<(a.den:Int)*b.den:=XZ (by have:=a.den_pos;lia) (by have:=b.den_pos;lia);rw[e];refine aef p ?_ ?_
 .rw[VS,UT];exact VX ha.1 hb.1
 .rw[<- TW,Int.toNat_natCast,UT];exact VX ha.2 hb.2
theorem BJ{n:Nat}{i:Int}(h:i.natAbs<=10^n)(hn:n<=2400):Bd i:=Y3 (aL h (XT (by decide) hn)) (by decide +kernel)
theorem Rz.bq{n d:Nat}{r:Rat}(h:Rz n d r)(hn:n<=2400)(hd:d<=2400):Bq r:=⟨BJ h.1 hn,BJ (by rw[XG];exact h.2) hd⟩
theorem Rz.dd{n d n' d':Nat}{a b:Rat}(ha:Rz n d a)(hb:Rz n' d' b)(h:d+d'<=2400):Bd ((a.den:Int)*b.den):=BJ (n:=d+d') (by
 rw[VS,XG,XG,UT];exact VX ha.2 hb.2) h
theorem G7{r:Rat}{A:Nat}(h1:r<=(A:Rat))(h2 : -(A:Rat)<=r):r.num.natAbs<=A*r.den:=by
 have a:=(Rat.le_iff r (A:Rat)).mp h1;have b:=(Rat.le_iff (-(A:Rat)) r).mp h2;have a:r.num*((1:Nat):Int)<=(A:Int)*(r.den:Int):=a;have b : -(A:Int)*(r.den:Int)<=r.num*((1:Nat):Int):=b;have c:((A*r.den:Nat):Int)=(A:Int)*r.den:=TW ..;rw[Int.neg_mul]at b;omega
structure OfB(m PN PD CQ:Nat)(o:bV):Prop where
 pn:o.pay.num.natAbs<=PN
 pd:o.pay.den<=PD
 cq:∃q:Nat,0<q/\q<=CQ/\∀w∈o.ways,w.2.den ∣ q
 nd:(o.ways.map (·.1)).Nodup
 few:o.ways.length<=1000
 lt:∀w∈o.ways,w.1<m
 nn:∀w∈o.ways,0<=w.2
 one:BP o.ways<=1
theorem Ej:∀ws:List (Nat×Rat),BP ws=dw ws λ_=>1
 |[]=>rfl
 |w::ws=>by rw[wH,cW,Ej ws,Rat.mul_one]
theorem OfB.le1{m PN PD CQ:Nat}{o:bV}(h:OfB m PN PD CQ o){w:Nat×Rat}(hw:w∈o.ways):w.2<=1:=by
 have:=rA h.nn hw;rw[<- Ej]at this;exact TH this h.one
theorem adn{m mo:Nat}{ae:List (List LD)}{off:List (List bV)}(hd:DSk m mo ae)(ho:Fj ae off):∀ds∈off,∀o∈ds,OfB m (10^30) 1000 4000 o:=λos l9 o hmo=>by
 obtain⟨k,ek⟩:=aV l9;have lk:k<ae.length:=by rw[<- ho.len];exact(ao.mp ek).1
 obtain⟨tl,_,rfl⟩:=ho.at_ k _ os (aj lk) ek;obtain⟨p,hp,rfl⟩:=YV.mp hmo;have lk:=hd.ok _ (aU lk) p.2 (US hp).2;obtain⟨q,q0,q1,hq⟩:=lk.all;have j:=KN q0 hq;have f1:=j.few;have f2:=lk.few;exact⟨lk.pay.num,lk.pay.den,⟨q,q0,q1,j.dn⟩,j.nd,by show(vD p.2.prs).length<=1000;lia,j.lt,j.nn,by
  show BP (vD p.2.prs)<=1;rw[Ej,j.sum,Br,lk.one];exact UR⟩
open Rw (sg fZ fJ cj gk gO Big)
theorem afc{ws:List (Nat×Rat)}(nn:∀w∈ws,0<=w.2)(j:Nat):0<=qK ws j/\qK ws j<=BP ws:=by
 induction ws with
 |nil=>exact⟨UR,UR⟩
 |cons w ws ih =>
  have:=nn w (aO ..);obtain⟨a,b⟩:=ih λx hx=>nn x (aJ _ hx);rw[wH];show 0<=(if w.1=j then w.2 else 0)+qK ws j/\(if w.1=j then w.2 else 0)+qK ws j<=_;split<;>grind
theorem aaf{q:Nat}(hq:0<q){ws:List (Nat×Rat)}(h:∀w∈ws,w.2.den ∣ q)(j:Nat):(qK ws j).den ∣ q:=by
 induction ws with
 |nil=>exact Nat.one_dvd _
 |cons w ws ih =>
  refine Gw hq ?_ (ih λx hx=>h x (aJ _ hx));split
  .exact h w (aO ..)
  .exact Nat.one_dvd _
abbrev qO(c:Option bV):Nat:=gP 1 ((mH c).map (·.2))
def CoB(m PN PD CQ:Nat)(c:Option bV):Prop:=∀o,c=some o->OfB m PN PD CQ o
theorem CoB.sh{s:Rat}{m PN PD CQ:Nat}{c:Option bV}(h:CoB m PN PD CQ c):ShB s m (mH c):=by
 cases c with
 |none=>exact⟨λ_ z=>(nomatch z),λ_ z=>(nomatch z),by show(0:Rat)<=1;decide⟩
 |some o=>have b:=h o rfl;exact⟨b.lt,b.nn,b.one⟩
theorem aaq(c:Option bV):0<qO c:=mU _ Tx
theorem aek{c:Option bV}{w:Nat×Rat}(hw:w∈mH c):w.2.den ∣ qO c:=(mL _).2 _ (YV.mpr ⟨w,hw,rfl⟩)
theorem CoB.q{m PN PD CQ:Nat}{c:Option bV}(h:CoB m PN PD CQ c)(h1:1<=CQ):qO c<=CQ:=by
 cases c with
 |none=>exact h1
 |some o =>
  obtain⟨q,q0,q1,hq⟩:=(h o rfl).cq;refine aL (UU q0 (tV _ (Nat.one_dvd _) λr hr=>?_)) q1;obtain⟨w,hw,rfl⟩:=YV.mp hr;exact hq w hw
theorem CoB.pd{m PN PD CQ:Nat}{c:Option bV}(h:CoB m PN PD CQ c)(h1:1<=PD):(lD c).den<=PD:=by
 cases c with
 |none=>exact h1
 |some o=>exact(h o rfl).pd
theorem CoB.pn{m PN PD CQ:Nat}{c:Option bV}(h:CoB m PN PD CQ c):(lD c).num.natAbs<=PN:=by
 cases c with
 |none=>exact aZ _
 |some o=>exact(h o rfl).pn
theorem vm:((1:Nat):Rat)=1:=rfl
theorem aec{s:Rat}{m PN PD CQ:Nat}{cs:List (Option bV)}{i j:Nat}(s0:0<=s)(s1:s<1)(h:CoB m PN PD CQ (cs.getD i none)):(eE s cs i j).den ∣ s.den*qO (cs.getD i none)/\(eE s cs i j).num.natAbs<=1*(eE s cs i j).den:=by
 have sh:=CoB.sh (s:=s) h;obtain⟨a,b⟩:=afc sh.nn j;have b1:=TH b sh.one;have c1:s*qK (mH (cs.getD i none)) j<=1:=by
  have:=QR b1 s0
  grind
 have c0:0<=s*qK (mH (cs.getD i none)) j:=Rat.mul_nonneg s0 a;have sd:=s.den_pos;have qp:=aaq (cs.getD i none);refine⟨?_,G7 ?_ ?_⟩
 .unfold eE;rw[Rat.sub_eq_add_neg];refine Gw (JY sd qp) ?_ ?_
  .split<;>exact Nat.one_dvd _
  .rw[abg];exact den_mul sd qp (Nat.dvd_refl _) (aaf qp (λw hw=>aek hw) j)
 .unfold eE;rw[vm];split<;>grind
 .unfold eE;rw[vm];split<;>grind
theorem abV{s:Rat}{cs:List (Option bV)}{PN PD CQ:Nat}(hs:Shr s)(few:cs.length<=100)(h:∀c∈cs,CoB cs.length PN PD CQ c)(h1:1<=PD)(h2:1<=CQ){N:Nat}(hN:N=(PN+1)*(100*CQ*PD))(mb:(2*cs.length*N)^cs.length<=NN)(nn:N<=NN):Sys (Cy (Ai s cs) (cs.map lD)) N:=by
 have gc:∀i,i<cs.length->CoB cs.length PN PD CQ (cs.getD i none):=λi hi=>h _ (by rw[au,aj hi];exact aU hi);have sd:=s.den_pos;have all:∀i,i<cs.length->∀c∈((List.range cs.length).map λj=>eE s cs i j)++[lD (cs.getD i none)],c.den ∣ s.den*qO (cs.getD i none)*(lD (cs.getD i none)).den/\c.num.natAbs<=(PN+1)*c.den:=λi hi c hc=>by
  rcases Y1.mp hc with z|z
  .obtain⟨j,_,rfl⟩:=YV.mp z;obtain⟨a,b⟩:=aec (j:=j) hs.lo hs.hi (gc i hi);exact⟨Nat.dvd_trans a (Nat.dvd_mul_right _ _),aL b (Nat.mul_le_mul_right _ (Nat.le_add_left _ _))⟩
  .rw[YR.mp z];refine⟨Nat.dvd_mul_left _ _,?_⟩;have:=(gc i hi).pn;have:=(lD (cs.getD i none)).den_pos;exact aL (show _<=(PN+1)*1 by lia) (QQ _ this)
 have qp:∀i,i<cs.length->0<s.den*qO (cs.getD i none)*(lD (cs.getD i none)).den/\s.den*qO (cs.getD i none)*(lD (cs.getD i none)).den<=100*CQ*PD:=λi hi =>
  ⟨JY (JY sd (aaq _)) (Rat.den_pos _),VX (VX hs.den ((gc i hi).q h2)) ((gc i hi).pd h1)⟩
 refine⟨λr hr=>?_,by rw[Aa];exact few,λr hr=>?_,λr hr c hm=>?_,?_,by rw[Aa];exact mb,nn,?_⟩
 .obtain⟨i,hi,rfl⟩:=N7 hr;rw[Aa,aA,ak,WJ];rfl
 .obtain⟨i,hi,rfl⟩:=N7 hr;obtain⟨a,b⟩:=qp i hi;exact(acM (Nat.le_add_left _ _) a (all i hi)).le (by rw[hN];exact QQ _ b)
 .obtain⟨i,hi,rfl⟩:=N7 hr;obtain⟨a,b⟩:=all i hi c hm;obtain⟨p,q⟩:=qp i hi;exact bdN (aL b (aL (QQ _ (aL (UU p a) q)) (by rw[<- hN];exact nn)))
 .rw[hN];exact JY (U2 _) (JY (JY (by decide) (aR (X1 _) h2)) (aR (X1 _) h1))
 .rw[Aa];exact λx h0 hx=>acu hs.lo hs.hi (λi hi=>(gc i hi).sh) x h0 hx
theorem Vj{s:Rat}(hs:Shr s):Rz 2 2 s:=by
 have a:=G7 (r:=s) (A:=1) (Rat.le_of_lt hs.hi) (by have:=hs.lo;rw[vm];grind);have:=hs.den;exact⟨aL a (by lia),this⟩
theorem ahm{m PN PD CQ:Nat}{o:bV}(h:OfB m PN PD CQ o)(hc:CQ<=10^4){w:Nat×Rat}(hw:w∈o.ways):Rz 4 4 w.2:=by
 obtain⟨q,q0,q1,hq⟩:=h.cq;have d:=UU q0 (hq w hw);have a:=G7 (r:=w.2) (A:=1) (h.le1 hw) (by have:=h.nn w hw;rw[vm];grind);exact⟨aL a (by lia),by lia⟩
theorem adz{m PN PD CQ:Nat}{off:List (List bV)}{pl:List (Option Nat)}(ob:∀ds∈off,∀o∈ds,OfB m PN PD CQ o):∀c∈chO off pl,CoB m PN PD CQ c:=λc hc o eo=>by
 obtain⟨p,hp,rfl⟩:=YV.mp hc;cases e:p.1 with
 |none=>rw[e]at eo;cases eo
 |some d =>
  rw[e]at eo;have eo:(off.getD p.2 [])[d]?=some o:=eo;by_cases l:p.2<off.length
  .rw[au,aj l]at eo;exact ob _ (aU l) o (aC eo)
  .have:off[p.2]?=none:=aM (Up l);rw[au,this]at eo;cases eo
theorem afl{s:Rat}{off:List (List bV)}{PN PD CQ N:Nat}(hs:Shr s)(few:off.length<=100)(ob:∀ds∈off,∀o∈ds,OfB off.length PN PD CQ o)(h1:1<=PD)(h2:1<=CQ)(hc:CQ<=10^4)(hN:N=(PN+1)*(100*CQ*PD))(mb:(2*off.length*N)^off.length<=NN)(nn:N<=NN){pl:List (Option Nat)}(hp:PlT off pl):WoB s (chO off pl) N:=by
 have cl:=Tq hp;have co:=adz (pl:=pl) ob;have sz:=Vj hs;refine⟨sz.bq (by decide) (by decide),λc hm=>?_,abV hs (aL (WH cl) few) (by rw[cl];exact co) h1 h2 hN (by rw[cl];exact mb) nn⟩;rw[cl];cases c with
 |none=>exact⟨.nil,aZ _,λ_ z=>(nomatch z),λ_ z=>(nomatch z)⟩
 |some o =>
  have b:=co _ hm o rfl;refine⟨b.nd,b.few,b.lt,λw hw=>?_⟩;have wz:=ahm b hc hw;exact⟨wz.bq (by decide) (by decide),sz.dd wz (by decide),(sz.mul wz).bq (by decide) (by decide)⟩
noncomputable abbrev pT(a b:Int):T:=.tup [.int a,.int b]
theorem div_mul{a b:Int}(hb:0<b):Rat.divInt a b*(b:Rat)=(a:Rat):=by
 have:(b:Rat)≠0:=λz=>by have:=Rat.intCast_eq_zero_iff.mp z;lia
 rw[TR]
 grind
theorem cast_pos{b:Int}(hb:0<b):(0:Rat)<(b:Rat):=Rat.intCast_lt_intCast.mpr hb
theorem div_eq{a b c d:Int}(hb:0<b)(hd:0<d):Rat.divInt a b=Rat.divInt c d↔a*d=c*b:=JJ (WS hb) (WS hd)
noncomputable abbrev VV:Nat:=10^32
structure YsB(ys:List Rat):Prop where
 dn:∀y∈ys,y.den<=10^580
 hi:∀y∈ys,y<=(VV:Rat)
 lo:∀y∈ys,-(VV:Rat)<=y
theorem YsB.num{ys:List Rat}(h:YsB ys){y:Rat}(hy:y∈ys):y.num.natAbs<=10^612:=by
 refine aL (G7 (h.hi y hy) (h.lo y hy)) ?_;rw[show 10^612=VV*10^580 by unfold VV;rw[<- UT]];exact QQ _ (h.dn y hy)
theorem YsB.z{ys:List Rat}(h:YsB ys){y:Rat}(hy:y∈ys):Rz 612 580 y:=⟨h.num hy,h.dn y hy⟩
theorem YsB.get{ys:List Rat}(h:YsB ys)(k:Nat):Rz 612 580 (ys.getD k 0)/\ys.getD k 0<=(VV:Rat)/\-(VV:Rat)<=ys.getD k 0:=by
 rw[au];cases e:ys[k]? with
 |none=>exact⟨⟨aZ _,Nat.pow_pos (by decide)⟩,by show(0:Rat)<=_;decide +kernel,by show _<=(0:Rat);decide +kernel⟩
 |some y=>have m:=aC e;exact⟨h.z m,h.hi y m,h.lo y m⟩
theorem aaZ{a b:Int}{A:Nat}(hb:0<b)(h1:Rat.divInt a b<=(A:Rat))(h2 : -(A:Rat)<=Rat.divInt a b):a.natAbs<=A*b.toNat:=by
 have e:=div_mul (a:=a) hb;have pb:=cast_pos hb;have x:(a:Rat)<=(((A:Int)*b:Int):Rat):=by
  rw[<- e,XV];exact Q3 h1 (Rat.le_of_lt pb)
 have y:((-((A:Int)*b):Int):Rat)<=(a:Rat):=by
  rw[<- e,Rat.intCast_neg,XV];have:=Q3 h2 (Rat.le_of_lt pb);rw[Rat.neg_mul]at this;exact this
 have x:=Rat.intCast_le_intCast.mp x;have y:=Rat.intCast_le_intCast.mp y;have c:((A*b.toNat:Nat):Int)=(A:Int)*b:=by rw[TW,Int.toNat_of_nonneg (XY hb)]
 omega
def Ku(s:Rat)(y:Nat->Rat)(d:LD):Rat:=d.pay+s*dw d.prs y
theorem Ys{y:Nat->Rat}{C:Rat}(hC:0<=C){ws:List (Nat×Rat)}(nn:∀w∈ws,0<=w.2)(one:(dw ws λ_=>1)<=1)(hi:∀k,y k<=C)(lo:∀k,-C<=y k):dw ws y<=C/\-C<=dw ws y:=by
 have a:=T_ (M:=C) (x:=y) (ws:=ws) λw hw=>⟨nn w hw,hi w.1⟩;have b:=T_ (M:=C) (x:=λk=>-(y k)) (ws:=ws) λw hw=>⟨nn w hw,by have:=lo w.1;grind⟩;rw[Mx]at b;rw[<- Ej]at one;have c:BP ws*C<=1*C:=Q3 one hC;constructor<;>grind
theorem ad4{as bs:List (Nat×Rat)}(nn:∀w∈as++bs,0<=w.2)(one:(dw (as++bs) λ_=>1)<=1):(dw as λ_=>1)<=1:=by
 rw[Fo]at one;have:0<=dw bs λ_=>1:=by
  clear one
  induction bs with
  |nil=>exact UR
  |cons w ws ih =>
   rw[cW];have:=ih λx hx=>nn x (by rcases Y1.mp hx with z|z;exact U1 _ z;exact aP _ (aJ _ z));have:=nn w (aP _ (aO ..))
   grind
 grind
def O_:ST:=λts q=>∃a b c d:Int,ts=[pT a b,pT c d]/\0<b/\0<d/\(Bd a/\Bd b/\Bd c/\Bd d)/\q (.fz (.bl (decide (Rat.divInt a b=Rat.divInt c d))))
theorem Y8(F:Fun K El El s_same f fd):b_ P w K mg base CX0 1 f fd E_ (spT K O_):=by
 refine F.okT aby (λts R hP=>by obtain⟨_,_,_,_,e,_⟩:=hP;exact e ▸ rfl) λah A outer s H E hr=>?_;refine⟨_,(bG (bL (m6 (go_eq hr.units) (bJ cC (bI (qv 0) bx) (bI (qv 1) bx)) (bJ cC (bI (qv 1) bx) (bI (qv 0) bx))))),?_⟩;rintro _ R ⟨a,b,c,d,rfl,hb,hd,⟨ba,bb,bc,bd⟩,q⟩;refine⟨⟨ba,bd⟩,⟨bc,bb⟩,?_⟩;rw[decide_eq_decide.mpr (div_eq hb hd)]at q;exact q
def Vn:ST:=λts q=>∃(s:Rat)(m:Nat)(d:LD)(ys:List Rat),ts=[frR s,ldT d,.lst (ys.map frR)]/\Shr s/\LDk m d/\ys.length=m/\YsB ys/\∀a b:Int,0<b->Bd a->Bd b->Rat.divInt a b=Ku s (λk=>ys.getD k 0) d->q (.fz (pT a b))
theorem aa8(F:Fun K Fe Fe RW f fd)(T:Txt K mg D):b_ P w K mg base CX0 1 f fd Eb (spT K Vn):=by
 refine F.okT mD (λts R hP=>by obtain⟨_,_,_,_,e,_⟩:=hP;exact e ▸ rfl) λah A outer s H E hr=>?_;refine⟨_,(bC (bO 3 mD.nd (Or.inl rfl) bx)
  (bC (bO 4 mD.nd (Or.inl rfl) bx)
  (bC (dO VY rfl (cF (bI (qv 1) bx)) (eZ (n:=2) rfl (bT (bZ (n:=99) 5 mD.nd (Or.inl rfl)) (bT (bZ (n:=99) 6 mD.nd (Or.inl rfl)) dz)))
  (bC (bO 7 mD.nd (Or.inl rfl) (bJ cC (bI (qv 6) bx) (bI (bI (qv 2) (qv 5)) bx)))
  (bC (bO 3 mD.nd (Or.inl rfl) (bJ cD (bJ cC (qv 3) (qv 7)) (bJ cC (bJ cC (bI (qv 6) bx) (bI (bI (qv 2) (qv 5)) bx)) (qv 4))))
  (bG (bO 4 mD.nd (Or.inl rfl) (bJ cC (qv 4) (qv 7)))))))
  (bC (bO 3 mD.nd (Or.inl rfl) (bJ cC (qv 3) (bI (qv 0) bx)))
  (bC (bO 4 mD.nd (Or.inl rfl) (bJ cC (qv 4) (bI (qv 0) bx)))
  (bG (bL (cT (bw (bJ cD (bJ cC (bI (bI (qv 1) bx) bx) (qv 4)) (bJ cC (qv 3) (bI (bI (qv 1) bx) bx))) (bw (bJ cC (qv 4) (bI (bI (qv 1) bx) bx)) bA)))))))))),?_⟩
 rintro _ R ⟨s,m,d,ys,rfl,hs,hd,yl,hy,q⟩;obtain⟨qq,q0,q1,hq⟩:=hd.all;have one:(dw d.prs λ_=>1)<=1:=by rw[Br,hd.one];exact UR
 have few:=hd.few;have cz:∀p∈d.prs,Rz 4 4 p.2:=λp hp=>by
  have a:=G7 (r:=p.2) (A:=1) (by
   have:=rA hd.nn hp;exact TH this one) (by have:=hd.nn p hp;rw[vm];grind)
  have:=UU q0 (hq p hp).2.2;exact⟨aL a (by lia),by lia⟩
 have pb:∀{a b:Int}{k:Nat},k<=4->0<b->b.toNat<=10^(584*k)->Rat.divInt a b<=(VV:Rat)->-(VV:Rat)<=Rat.divInt a b->Bd a/\Bd b/\a.natAbs<=10^(32+584*k):=λ{a b k}hk h0 h1 h2 h3=>by
  have x:=aaZ h0 h2 h3;have y:a.natAbs<=10^(32+584*k):=aL x (by rw[UT];exact QQ _ h1);exact⟨BJ y (by lia),BJ (n:=584*k) (by lia) (by lia),y⟩
 refine gZ nwT d.prs (λas o=>∃(t b:Int)(x5 x6 x7:OT),o=[.fz (frR s),.fz (ldT d),.fz (.lst (ys.map frR)),.fz (.int t),.fz (.int b),x5,x6,x7]/\0<b/\b.toNat<=10^(584*as.length)/\Rat.divInt t b=dw as λk=>ys.getD k 0) ⟨0,1,.und,.und,.und,rfl,by decide,by simp,rfl⟩ ?_ ?_
 .rintro as p bs _ e ⟨t,b,x5,x6,x7,rfl,b0,b1,ev⟩;have pm:p∈d.prs:=by rw[e];simp
  obtain⟨p1,p2,_⟩:=hq p pm;have al:as.length+1<=d.prs.length:=by rw[e];simp
  have ey:ys[p.1]?=some (ys.getD p.1 0):=by rw[au,aj (by lia)];rfl
  obtain⟨yz,yh,yo⟩:=hy.get p.1;have c:=cz p pm;have va:=Ys (y:=λk=>ys.getD k 0) (C:=(VV:Rat)) (by decide +kernel) (ws:=as) (λw hw=>hd.nn w (by rw[e];exact U1 _ hw)) (ad4 (bs:=p::bs) (by rw[<- e];exact hd.nn) (by rw[<- e];exact one)) (λk=>(hy.get k).2.1) λk=>(hy.get k).2.2;rw[<- ev]at va;obtain⟨bt,bb,_⟩:=pb (k:=as.length) (by lia) b0 b1 va.1 va.2;have dp:=p.2.den_pos;have dy:=(ys.getD p.1 0).den_pos;have part:((p.2.den:Int)*((ys.getD p.1 0).den:Int)).natAbs<=10^584:=by
   rw[VS,XG,XG,show 10^584=10^4*10^580 by rw[<- UT]];exact VX c.2 yz.2
  have pp:0<(p.2.den:Int)*((ys.getD p.1 0).den:Int):=XZ (by lia) (by lia);have ct:(p.2.num*(ys.getD p.1 0).num).natAbs<=10^616:=by
   rw[VS,show 10^616=10^4*10^612 by rw[<- UT]];exact VX c.1 yz.1
  have cb:=c.bq (by decide) (by decide);have yb:=yz.bq (by decide) (by decide);refine⟨rfl,_,dJ ey,⟨cb.2,yb.2⟩,⟨bt,BJ part (by decide)⟩,_,dJ ey,⟨cb.1,yb.1⟩,⟨BJ ct (by decide),bb⟩,⟨bb,BJ part (by decide)⟩,t*((p.2.den:Int)*((ys.getD p.1 0).den:Int))+p.2.num*(ys.getD p.1 0).num*b,b*((p.2.den:Int)*((ys.getD p.1 0).den:Int)),.fz (.int (p.1:Nat)),.fz (frR p.2),.fz (.int ((p.2.den:Int)*((ys.getD p.1 0).den:Int))),rfl,XZ b0 pp,?_,?_⟩
  .rw[aA,List.length_singleton,Nat.mul_add,UT,Int.toNat_mul (XY b0) (XY pp)];exact VX b1 (by rw[Nat.mul_one];lia)
  .rw[Fo,SN,<- ev,<- Qr _ _ (WS b0) (WS pp),<- QY,rd,rd]
 .rintro _ ⟨t,b,x5,x6,x7,rfl,b0,b1,ev⟩;have va:=Ys (y:=λk=>ys.getD k 0) (C:=(VV:Rat)) (by decide +kernel) (ws:=d.prs) hd.nn one (λk=>(hy.get k).2.1) λk=>(hy.get k).2.2;rw[<- ev]at va;obtain⟨bt,bb,tn⟩:=pb (k:=d.prs.length) few b0 b1 va.1 va.2;have sz:=Vj hs;have sb:=sz.bq (by decide) (by decide);have pz:Rz 30 3 d.pay:=⟨hd.pay.num,hd.pay.den⟩;have pq:=pz.bq (by decide) (by decide);have sd:=s.den_pos;have pd:=d.pay.den_pos;have b4:b.natAbs<=10^2336:=aL (show b.natAbs<=10^(584*d.prs.length)by lia) (XT (by decide) (by lia));have t4:t.natAbs<=10^2368:=aL tn (XT (by decide) (by lia));have bs:(b*(s.den:Int)).natAbs<=10^2338:=by
   rw[VS,XG,show 2338=2336+2 from rfl,UT];exact VX b4 sz.2
  have ts:(t*s.num).natAbs<=10^2370:=by
   rw[VS,show 2370=2368+2 from rfl,UT];exact VX t4 sz.1
  refine⟨⟨bt,sb.1⟩,⟨bb,sb.2⟩,⟨pq.1,BJ bs (by decide)⟩,⟨BJ ts (by decide),pq.2⟩,⟨BJ bs (by decide),pq.2⟩,q _ _ (XZ (XZ b0 (by lia)) (by lia)) ?_ ?_ ?_⟩
  .refine BJ (n:=2374) ?_ (by decide);have x:(d.pay.num*(b*(s.den:Int))).natAbs<=10^2373:=by
    rw[VS];exact aL (VX pz.1 bs) (by rw[<- UT];exact XT (by decide) (by decide))
   have y:(t*s.num*(d.pay.den:Int)).natAbs<=10^2373:=by
    rw[VS,XG,show 2373=2370+3 from rfl,UT];exact VX ts pz.2
   have z:=Int.natAbs_add_le (d.pay.num*(b*(s.den:Int))) (t*s.num*(d.pay.den:Int));rw[show 2374=2373+1 from rfl,Nat.pow_succ];refine aL z ?_;lia
  .refine BJ (n:=2341) ?_ (by decide);rw[VS,XG,show 2341=2338+3 from rfl,UT];exact VX bs pz.2
  .unfold Ku;rw[Int.mul_comm (b*(s.den:Int)),<- Qr _ _ (j8 d.pay) (lH (WS b0) (j8 s)),rd,<- QY,rd,ev,XU]
def PK:ST:=λts q=>∃(s:Rat)(m mo:Nat)(ae:List (List LD))(pl:List (Option Nat))(ys:List Rat),ts=[.lst (ys.map frR),frR s,Hh ae,.lst (pl.map dT)]/\Shr s/\DSk m mo ae/\m<=100/\ys.length=m/\YsB ys/\pl.length=m /\
 (∀(k d:Nat),pl[k]?=some (some d)->∃ld,(ae.getD k [])[d]?=some ld/\ys.getD k 0=Ku s (λj=>ys.getD j 0) ld)/\(∀k:Nat,pl[k]?=some none->ys.getD k 0=0)/\q (.fz (.bl true))
theorem Y5(F:Fun K zH zH K_ f fd)(T:Txt K mg D)(tO:OkT P w K mg base 3 lR lO xU)(R_:OkT P w K mg base 1 Fe Eb Vn)(R9:OkT P w K mg base 1 El E_ O_):b_ P w K mg base CX0 4 f fd Bf (spT K PK):=by
 refine F.okT Ae (λts R hP=>by obtain⟨_,_,_,_,_,_,e,_⟩:=hP;exact e ▸ rfl) λah A outer s H E hr=>?_;refine⟨_,(bC (cB (dG (dg (bH tO hr.md (by rfl) (bw (qv 0) (bw (bM cJ (by rfl) T.cZ WG (bw (qv 2) bA)) bA)))))
  (bG (bL mV))
  bQ)
  (bC (dO VY rfl (dX (by rfl) T.fU (bw (bM cJ (by rfl) T.cZ WG (bw (qv 2) bA)) bA)) (bZ (n:=99) 4 Ae.nd (Or.inl rfl))
  (bC (bO 5 Ae.nd (Or.inl rfl) (cT (bw bx (bw bx bA))))
  (bC (cB (cu Fd (bI (qv 3) (qv 4)) fX)
  (bG (bO 5 Ae.nd (Or.inl rfl) (bH R_ hr.md (by rfl) (bw (qv 1) (bw (bI (bI (qv 2) (qv 4)) (bI (qv 3) (qv 4))) (bw (qv 0) bA))))))
  bQ)
  (bG (cB (dG (dg (bH R9 hr.md (by rfl) (bw (bI (qv 0) (qv 4)) (bw (qv 5) bA)))))
  (bG (bL mV))
  bQ)))))
  (bG (bL mV)))),?_⟩
 rintro _ R ⟨s,m,mo,ae,pl,ys,rfl,hs,hd,m1,yl,hy,pl1,hv,hn,q⟩;have dl:(ae.map λds=>L2.T.lst (ds.map ldT)).length=m:=by rw[ak,hd.len]
 refine⟨ys,m,by show[L2.T.lst (ys.map frR),L2.T.int (((ae.map λds=>L2.T.lst (ds.map ldT)).length:Nat):Int)]=_;rw[dl],yl,by exact aL m1 (by decide),?_⟩;refine⟨⟨by rw[dl];lia,by rw[dl];lia⟩,rM (λk o=>∃x4 x5:OT,o=[.fz (.lst (ys.map frR)),.fz (frR s),.fz (Hh ae),.fz (.lst (pl.map dT)),x4,x5]) ⟨_,_,rfl⟩ ?_ ?_⟩
 .rintro k _ hk ⟨x4,x5,rfl⟩;rw[dl]at hk;dsimp only[hName];have ey:ys[k]?=some (ys.getD k 0):=by rw[au,aj (by lia)];rfl
  obtain⟨yz,yh,yo⟩:=hy.get k;have yb:=yz.bq (by decide) (by decide);refine sq2 (λo=>∃a b:Int,o=[.fz (.lst (ys.map frR)),.fz (frR s),.fz (Hh ae),.fz (.lst (pl.map dT)),.fz (.int (k:Nat)),.fz (pT a b)]/\0<b/\Bd a/\Bd b/\Rat.divInt a b=ys.getD k 0) ?_ λY go=>?_
  .rintro _ ⟨a,b,rfl,b0,ba,bb,e⟩;have dp:=(ys.getD k 0).den_pos;refine⟨_,dJ ey,(ys.getD k 0).num,(ys.getD k 0).den,a,b,rfl,by lia,b0,⟨yb.1,yb.2,ba,bb⟩,?_⟩;rw[Zs (by rw[e,Rat.num_divInt_den])];exact⟨_,_,rfl⟩
  .have lp:k<pl.length:=by lia
   have ep:=aj lp;have bd1:Bd 1:=fK (by decide);have bd0:Bd 0:=fK (by decide);cases hp:pl[k]with
   |none =>
    rw[hp]at ep;refine⟨_,dJ ep,?_⟩;exact go _ ⟨0,1,rfl,by decide,bd0,bd1,by rw[hn k ep];rfl⟩
   |some d =>
    rw[hp]at ep;obtain⟨ld,el,ev⟩:=hv k d ep;have ed:ae[k]?=some (ae.getD k []):=by rw[au,aj (by rw[hd.len];exact aR lp (WH pl1))];rfl
    refine⟨_,dJ ep,?_⟩;refine⟨.lst ((ae.getD k []).map ldT),dJ (h:=λds=>L2.T.lst (ds.map ldT)) ed,_,dJ ep,ldT ld,dJ el,s,m,ld,ys,rfl,hs,hd.ok _ (aC ed) _ (aC el),yl,hy,λa b b0 ba bb e=>go _ ⟨a,b,rfl,b0,ba,bb,by rw[e,ev]⟩⟩
 .rintro _ ⟨x4,x5,rfl⟩;exact q
theorem ahv{α:Type}(xs:List α):(fH xs (some 1) none).length=xs.length-1:=by
 show(fH xs (some ((1:Nat):Int)) none).length=_;unfold fH;rw[HT.w6,HT.Qz,aY,UP];lia
theorem afh{α:Type}(xs:List α):(fH xs none (some (-1))).length=xs.length-1:=by
 unfold fH;rw[HT.Qz,aY,UP];show min ((if(-1:Int)<0 then(-1+(xs.length:Int)).toNat else min (-1:Int).toNat xs.length)-0) (xs.length-0)=_;rw[ZY (by decide)];lia
theorem ahP{off:List (List bV)}{pl:List (Option Nat)}(hp:PlT off pl){j:Nat}{u:L2.T}{es:List bV}(e1:(pl.map dT)[j]?=some u)(e2:off[j]?=some es):Gh u es.length=some true:=by
 rw[aq]at e1;cases e:pl[j]? with
 |none=>rw[e]at e1;cases e1
 |some d =>
  rw[e]at e1;cases e1;cases d with
  |none =>
   have:=of_decide_eq_true (hp.ok j none es e e2);show Gh .non es.length=_;rw[this];rfl
  |some k =>
   have:=of_decide_eq_true (hp.ok j (some k) es e e2);show Gh (.int (k:Nat)) es.length=_;unfold Gh;rw[ZZ (by lia)];refine ZH some ?_;rw[Zs (Wp _),Zs (by lia)];rfl
theorem Z5(c:Int){m:Nat}(h:0<m):∃k:Nat,k<m/\c%(m:Nat)=(k:Nat):=by
 have a:=Z3 c (show((m:Nat):Int)≠0 by lia);have b:=YY c (show(0:Int)<(m:Nat)by lia);exact⟨(c%(m:Nat)).toNat,by lia,by lia⟩
def Jz:ST:=λts q=>∃(c:Int)(pl:List (Option Nat))(ae:List (List LD))(m mo:Nat)(off:List (List bV)),ts=[.int c,.lst (pl.map dT),Hh ae]/\DSk m mo ae/\m<=100/\mo<=100/\off.map List.length=ae.map List.length/\PlT off pl/\∀v w,PlX off v w->q (.fz (.tup [w,v]))
theorem Wj(F:Fun K wL wL G5 f fd)(T:Txt K mg D)(cU:OkT P w K mg base 1 gH gG jC)(U_:OkT P w K mg base 1 Kw Nk Z1):b_ P w K mg base CX0 2 f fd wU (spT K Jz):=by
 refine F.okT lB (λts R hP=>by obtain⟨_,_,_,_,_,_,e,_⟩:=hP;exact e ▸ rfl) λah A outer s H E hr=>?_;refine⟨_,(bC (bO 3 lB.nd (Or.inl rfl) (bH cU hr.md (by rfl) (bw (qv 0) (bw bx bA))))
  (bC (cB (QW.qt (lg (cu (go_eq hr.units) (bJ cA (bI (qv 3) bx) bx) bx) (iV (cu (go_eq hr.units) (bM cJ (by rfl) T.cZ WG (bw (qv 2) bA)) bx))))
  (bC (bO 7 lB.nd (Or.inl rfl) (cY (bw fX (bw (oZ aaw (by rfl) T.Kv boot_tuple (bw (qv 1) bA)) (bw (bJ cD (qv 1) (cY (bw fX bA))) (bw (bJ cD (qv 1) (cY (bw bx bA))) (bw lF (bw bx (bw mV bA)))))))))
  (bC (cB (cu JT (bM cJ (by rfl) T.cZ WG (bw (qv 1) bA)) bx)
  (bG (bO 7 lB.nd (Or.inl rfl) (bJ cD (qv 7) (cY (bw (i_ (qv 1) (gq bx) yU) (bw (i_ (qv 1) yU (gq (Cv bx))) (bw (cY bA) bA)))))))
  bQ)
  (bG (bL (cT (bw fX (bw (bI (qv 7) (bJ cA (bI (qv 3) bx) (bM cJ (by rfl) T.cZ WG (bw (qv 7) bA)))) bA)))))))
  bQ)
  (bC (bO 4 lB.nd (Or.inl rfl) (bJ cA (bI (qv 3) bx) (bM cJ (by rfl) T.cZ WG (bw (qv 2) bA))))
  (bC (bO 5 lB.nd (Or.inl rfl) (bJ cD (bJ cD (qv 4) bx) (bJ cA (bI (qv 3) bx) (bM cJ (by rfl) T.cZ WG (bw (qv 2) bA)))))
  (bC (jz 6 lB.nd (Or.inl rfl) (oZ Es (by rfl) T.yD boot_list (bw (qv 1) bA)))
  (bC (uq 6 (bH U_ hr.md (by rfl) (bw (bI (qv 3) bx) (bw (bM cJ (by rfl) T.cZ WG (bw (bI (qv 2) (qv 4)) bA)) bA))) (qv 4))
  (bC (cB (cu vJ (qv 5) (bM cJ (by rfl) T.cZ WG (bw (qv 2) bA)))
  (bG (uq 6 (bH U_ hr.md (by rfl) (bw (bI (qv 3) bx) (bw (bM cJ (by rfl) T.cZ WG (bw (bI (qv 2) (qv 5)) bA)) bA))) (qv 5)))
  bQ)
  (bG (GD 6 (bL (cT (bw (qv 4) (bw (qv 6) bA))))))))))))),?_⟩
 rintro _ R ⟨c,pl,ae,m,mo,off,rfl,hd,m1,ik,eo,hp,q⟩;have ol:off.length=m:=by rw[<- hd.len,<- ak (f:=List.length),eo,ak]
 have pm:(pl.map dT).length=off.length:=by rw[ak,hp.len]
 have dl:(ae.map λds=>L2.T.lst (ds.map ldT)).length=m:=by rw[ak,hd.len]
 have fd:=λ(j:Nat)(u:L2.T)(es:List bV)=>ahP hp (j:=j) (u:=u) (es:=es);generalize pl.map dT=us at pm fd ⊢;have sz1:us.length+1<=sizeLine:=aL (show us.length+1<=101 by lia) (by decide);refine⟨c,5,rfl,by decide,_,cX (k:=0) (by decide),by decide,swD (λ_=>?a) λh3=>swD (λ_=>?b) λh0=>?c⟩
 case c =>
  have m0:0<m:=by rw[dl]at h0;lia
  obtain⟨k,k1,k2⟩:=Z5 (strm c 1) m0;obtain⟨l,l1,l2⟩:=Z5 (strm c 2) m0;have k3:strm c 1%(((ae.map λds=>L2.T.lst (ds.map ldT)).length:Nat):Int)=(k:Nat):=by rw[dl];exact k2
  have l3:strm c 2%(((ae.map λds=>L2.T.lst (ds.map ldT)).length:Nat):Int)=(l:Nat):=by rw[dl];exact l2
  refine⟨_,cX (k:=1) (by decide),by rw[dl];lia,?_⟩;rw[k3];refine⟨_,cX (k:=2) (by decide),by rw[dl];lia,?_⟩;rw[l3];have ed:∀k,k<m->ae[k]?=some (ae.getD k []):=λk hk=>by rw[au,aj (by rw[hd.len];exact hk)];rfl
  have few:∀k,k<m->(ae.getD k []).length<=100:=λk hk=>aL (hd.few _ (aC (ed k hk))) ik;have two:∀{a:Int}{k:Nat},[L2.T.int a,L2.T.int ((((ae.getD k []).map ldT).length:Nat):Int)]=[L2.T.int a,L2.T.int (((ae.getD k []).length:Nat):Int)]:=by intro a k;rw[ak]
  have eok:off[k]?=some off[k]:=aj (by lia);have lk:(off[k]).length=(ae.getD k []).length:=by
   have:=ZH (·[k]?) eo;simp only[aq,eok,ed k k1]at this;exact Option.some.inj this
  have aE:∀vs:List L2.T,vs.length=off.length->(∀j,j<k->vs[j]?=us[j]?)->(∀t,Gh t (ae.getD k []).length=some false->vs[k]?=some t->R (.fz (.tup [.int (k:Nat),.lst vs]))):=λvs vl vj t ht vk =>
   q _ _ (.at vl (λj u es hj e1 e2=>fd j u es (by rw[<- vj j hj];exact e1) e2) vk eok (by rw[lk];exact ht))
  refine⟨_,cX (k:=3) (by decide),.lst ((ae.getD k []).map ldT),dJ (h:=λds=>L2.T.lst (ds.map ldT)) (ed k k1),strm c 3,(ae.getD k []).length,two,few k k1,λt ht=>⟨k,rW (by lia),?_⟩⟩;have kl:(k:Int)+1+(l:Int)=((k+1+l:Nat):Int):=by lia
  rw[kl];refine swD (λh=>?_) λh=>?_
  .have h':k+1+l<m:=by rw[dl]at h;lia
   refine⟨_,cX (k:=4) (by decide),.lst ((ae.getD (k+1+l) []).map ldT),dJ (h:=λds=>L2.T.lst (ds.map ldT)) (ed _ h'),strm c 4,(ae.getD (k+1+l) []).length,two,few _ h',λt' ht'=>⟨k+1+l,rW (by rw[VZ];lia),?_⟩⟩;refine aE _ (by rw[VZ,VZ,pm]) (λj hj=>?_) t ht ?_
   .rw[VW (by lia),VW (VQ hj)]
   .rw[VW (by lia),UY (by lia)];rfl
  .refine aE _ (by rw[VZ,pm]) (λj hj=>?_) t ht ?_
   .rw[VW (VQ hj)]
   .rw[UY (by lia)];rfl
 all_goals
  refine⟨sz1,sz1,swD (λhl=>⟨(show 10<=sizeLine by decide),?_⟩) λhl=>?_⟩
  .obtain⟨t,ht,e⟩:=Ea [L2.T.non,.tup us,.lst (us++[.non]),.lst (us++[.int 0]),.str "plan",.int 0,.bl true,.lst (fH us (some 1) none),.lst (fH us none (some (-1))),.lst []] (strm c 1) (m:=10) rfl (by decide);refine⟨_,cX (k:=1) (by decide),(show(0:Int)<((10:Nat):Int)by decide),t,e,q t .non ?_⟩
   revert t
   simp only[YU,VU,or_false];rintro t (rfl|rfl|rfl|rfl|rfl|rfl|rfl|rfl|rfl|rfl) _<;>first|exact .kind rfl|(refine .len ?_;first|rw[aA,pm];simp|rw[ahv];lia|rw[afh];lia|exact λ(z:0=off.length)=>by lia)
  .obtain⟨t,ht,e⟩:=Ea [L2.T.non,.tup us,.lst (us++[.non]),.lst (us++[.int 0]),.str "plan",.int 0,.bl true] (strm c 1) (m:=7) rfl (by decide);refine⟨_,cX (k:=1) (by decide),(show(0:Int)<((7:Nat):Int)by decide),t,e,q t .non ?_⟩
   revert t
   simp only[YU,VU,or_false];rintro t (rfl|rfl|rfl|rfl|rfl|rfl|rfl) _<;>first|exact .kind rfl|(refine .len ?_;rw[aA,pm];simp)
def Aj(D:Adr):ST:=λts q=>∃(s:Rat)(ns:Θ)(off:List (List bV))(c:Int)(pl:List (Option Nat))(ae:List (List LD))(m mo:Nat),ts=[hlT D s ns off,.int c,.lst (pl.map dT),Hh ae]/\MF ns off/\DSk m mo ae/\m<=100/\mo<=100/\off.map List.length=ae.map List.length/\PlT off pl/\q (.fz (.bl true))
theorem Le(F:Fun K nM nM vM f fd)(T:Txt K mg D)(HS:OkT P w K mg base 2 wL wU Jz)(Cm:OkT P w K mg base 10 sY tH (HW D)):b_ P w K mg base CX0 11 f fd oE (spT K (Aj D)):=by
 refine F.okT j4 (λts R hP=>by obtain⟨_,_,_,_,_,_,_,_,e,_⟩:=hP;exact e ▸ rfl) λah A outer s H E hr=>?_;refine⟨_,(bC (Ga (bH HS hr.md (by rfl) (bw (qv 1) (bw (qv 2) (bw (qv 3) bA)))) (eZ (n:=2) rfl (bT (bZ (n:=99) 4 j4.nd (Or.inl rfl)) (bT (bZ (n:=99) 5 j4.nd (Or.inl rfl)) dz))))
  (bC (Ga (bH Cm hr.md (by rfl) (bw (qv 0) (bw (qv 5) bA))) (eZ (n:=2) rfl (bT (bZ (n:=99) 6 j4.nd (Or.inl rfl)) (bT (bZ (n:=99) 7 j4.nd (Or.inl rfl)) dz))))
  (bG (bL (vf (m6 (go_eq hr.units) (qv 6) lF) (vf (Z0 (pR .bool (qv 7) (by rfl) T.c7 (by rfl) T.Tr boot_bool)) (yE (m6 (go_eq hr.units) (qv 7) (qv 4))))))))),?_⟩
 rintro _ R ⟨s,ns,off,c,pl,ae,m,mo,rfl,h,hd,m1,ik,eo,hp,q⟩;refine⟨c,pl,ae,m,mo,off,rfl,hd,m1,ik,eo,hp,λv w hx=>⟨rfl,s,ns,off,v,w,rfl,h,hx,rfl,?_⟩⟩;cases hx with
 |kind e=>exact q
 |len e=>exact q
 |@«at» us k t ds l hf et eo ef =>
  have e:decide (((k:Nat):Int)=(k:Nat))=true:=Zs rfl;rw[<- e]at q;exact q
theorem Mt{ae:List (List LD)}{off:List (List bV)}(ho:Fj ae off){pl:List (Option Nat)}(h:PlD ae pl):PlT off pl:=by
 refine⟨by rw[h.len,ho.len],λk d os e1 e2=>?_⟩;have lk:k<ae.length:=by rw[<- ho.len];exact(ao.mp e2).1
 have ek:=aj lk;obtain⟨tl,iE,rfl⟩:=ho.at_ k _ os ek e2;have:=h.ok k d _ e1 ek;rw[ak,VT,iE,UX];exact this
open Rw (sg fZ fJ cj gk gO Big sz)
def Y6(s:Rat)(y:Nat->Rat)(ae:List (List LD))(pl:List (Option Nat))(k:Nat):Rat:=match(pl.getD k none).bind λd=>(ae.getD k [])[d]? with
 |none=>0
 |some d=>Ku s y d
theorem acQ{s:Rat}{y:Nat->Rat}{m:Nat}{d:LD}{t:Str}(h:LDk m d):agG s y (Xk t d)=Ku s y d:=by
 obtain⟨q,q0,_,hq⟩:=h.all;unfold agG Ku;rw[(KN q0 hq).sum]
theorem acf{ae:List (List LD)}{off:List (List bV)}(ho:Fj ae off)(k d:Nat):∃t:Str,(off.getD k [])[d]?=((ae.getD k [])[d]?).map (Xk t):=by
 by_cases hk:k<ae.length
 .have e1:=aj hk;have e2:=aj (show k<off.length by rw[ho.len];exact hk);obtain⟨tl,l,eo⟩:=ho.at_ k _ _ e1 e2;rw[au,au,e1,e2];show ∃t,(off[k]'(by rw[ho.len];exact hk))[d]?=(ae[k][d]?).map (Xk t);rw[eo,aq];by_cases hd:d<ae[k].length
  .refine⟨tl[d]'(by lia),?_⟩;rw[aj (show d<(tl.zip ae[k]).length by rw[VT];lia),aj hd,List.getElem_zip]
   rfl
  .exact⟨⟨#[]⟩,by rw[aM (show(tl.zip ae[k]).length<=d by rw[VT];lia),aM (show ae[k].length<=d by exact Up hd)];rfl⟩
 .have e1:ae[k]?=none:=aM (Up hk);have e2:off[k]?=none:=aM (by rw[ho.len];exact Up hk);exact⟨⟨#[]⟩,by rw[au,au,e1,e2];rfl⟩
theorem afa{s:Rat}{y:Nat->Rat}{m mo:Nat}{ae:List (List LD)}{off:List (List bV)}(hd:DSk m mo ae)(ho:Fj ae off){pl:List (Option Nat)}{k:Nat}(hk:k<pl.length):TJ s y ((chO off pl).getD k none)=Y6 s y ae pl k:=by
 have ek:=aj hk;rw[ady ek];unfold Y6;rw[show pl.getD k none=pl[k]by rw[au,ek];rfl];cases pl[k]with
 |none =>
  show(0:Rat)+s*0=0
  grind
 |some d =>
  obtain⟨t,et⟩:=acf ho k d;show TJ s y ((off.getD k [])[d]?)=match(ae.getD k [])[d]? with|none=>0|some d=>Ku s y d
  rw[et];cases ed:(ae.getD k [])[d]? with
  |none =>
   show(0:Rat)+s*0=0
   grind
  |some x =>
   have lx:LDk m x:=by
    by_cases c:k<ae.length
    .rw[au,aj c]at ed;exact hd.ok _ (aU c) x (aC ed)
    .have:ae[k]?=none:=aM (Up c);rw[au,this]at ed;cases ed
   exact acQ lx
open Rw (sg fZ fJ cj gk gO Big vr)
theorem Shr.left{s:Rat}(h:Shr s):(1:Rat)<=(1-s)*100:=by
 have e:=(one_sub (a:=s.num) (b:=(s.den:Nat)) (j8 s));rw[rd]at e;have h1:=(Rat.lt_iff s 1).mp h.hi;have h1:s.num*((1:Nat):Int)<1*(s.den:Int):=h1;have hd:=h.den;have dp:=s.den_pos;have m:=div_mul (a:=(s.den:Int)-s.num) (b:=(s.den:Nat)) (by lia);rw[<- e]at m;have a:((1:Int):Rat)<=(((s.den:Int)-s.num:Int):Rat):=Rat.intCast_le_intCast.mpr (by lia);have b:(((s.den:Nat):Int):Rat)<=((100:Int):Rat):=Rat.intCast_le_intCast.mpr (by lia);have p:(0:Rat)<=1-s:=by have:=h.hi;grind
 have c:=QR b p;have i1:((1:Int):Rat)=1:=rfl;have i2:((100:Int):Rat)=100:=rfl;rw[m]at c;rw[i1]at a;rw[i2]at c;exact TH a c
theorem Xx{r:Rat}{A:Nat}(h:r.num.natAbs<=A):r<=(A:Rat)/\-(A:Rat)<=r:=by
 have dp:=r.den_pos;constructor
 .refine(Rat.le_iff r (A:Rat)).mpr ?_;show r.num*((1:Nat):Int)<=(A:Int)*(r.den:Int);have:(A:Int)*1<=(A:Int)*(r.den:Int):=Int.mul_le_mul_of_nonneg_left (by lia) (Wp _);omega
 .refine(Rat.le_iff (-(A:Rat)) r).mpr ?_;show -(A:Int)*(r.den:Int)<=r.num*((1:Nat):Int);have:(A:Int)*1<=(A:Int)*(r.den:Int):=Int.mul_le_mul_of_nonneg_left (by lia) (Wp _);rw[Int.neg_mul];omega
theorem W2{m PN PD CQ:Nat}{s:Rat}{c:Nat->Option bV}{y:Nat->Rat}(hs:Shr s)(hc:∀i,i<m->CoB m PN PD CQ (c i))(hn:PN<=10^30)(hy:∀i,i<m->y i=TJ s y (c i)):∀i,i<m->y i<=(VV:Rat)/\-(VV:Rat)<=y i:=λi hi=>by
 have vp:(0:Rat)<=(VV:Rat):=by decide +kernel
 have cst:∀(C:Rat)(ws:List (Nat×Rat)),dw ws (λ_=>C)=C*BP ws:=λC ws=>by
  induction ws with
  |nil=>show(0:Rat)=C*0;grind
  |cons w ws ih=>rw[cW,wH,ih];grind
 have l:=hs.left;have v:(VV:Rat)=100*((10^30:Nat):Rat):=by decide +kernel
 have pp:(0:Rat)<=((10^30:Nat):Rat):=by decide +kernel
 have d:=Q3 l pp;have ck:∀k,k<m->(lD (c k)<=((10^30:Nat):Rat)/\-((10^30:Nat):Rat)<=lD (c k))/\s*((VV:Rat)*BP (mH (c k)))<=s*(VV:Rat):=λk hk=>by
  refine⟨Xx (aL (hc k hk).pn hn),?_⟩;have one:=(CoB.sh (s:=s) (hc k hk)).one;have:=QR one vp;have:=QR this hs.lo
  grind
 constructor
 .have:=sub_le (m:=m) (ws:=λi=>mH (c i)) hs.lo hs.hi (λi hi=>(hc i hi).sh) (x:=λj=>y j-(VV:Rat)) (λk hk=>by
   rw[Te,cst];have e:=hy k hk;unfold TJ at e;obtain⟨⟨a,b⟩,g⟩:=ck k hk;show y k-(VV:Rat)<=_
   grind) i hi
  grind
 .have:=sub_le (m:=m) (ws:=λi=>mH (c i)) hs.lo hs.hi (λi hi=>(hc i hi).sh) (x:=λj=>-(y j)-(VV:Rat)) (λk hk=>by
   rw[Te (λj=>-(y j)),cst,Mx];have e:=hy k hk;unfold TJ at e;obtain⟨⟨a,b⟩,g⟩:=ck k hk;show -(y k)-(VV:Rat)<=_
   grind) i hi
  grind
open Rw (sg fZ fJ cj gk gO Big vr)
theorem O2{m:Nat}(h:m<=8):(2*m*((10^30+1)*(100*4000*1000)))^m<=10^330:=by
 obtain rfl|rfl|rfl|rfl|rfl|rfl|rfl|rfl|rfl:m=0\/m=1\/m=2\/m=3\/m=4\/m=5\/m=6\/m=7\/m=8:=by lia
 all_goals decide +kernel
noncomputable abbrev N22:Nat:=(10^30+1)*(100*4000*1000)
theorem adR{s:Rat}{m mo:Nat}{ae:List (List LD)}{off:List (List bV)}(hs:Shr s)(hd:DSk m mo ae)(m8:m<=8)(ho:Fj ae off){pl:List (Option Nat)}(hp:PlT off pl):WoB s (chO off pl) N22:=by
 have ol:off.length=m:=by rw[ho.len,hd.len]
 exact afl hs (by lia) (by rw[ol];exact adn hd ho) (by decide) (by decide) (by decide) rfl (by rw[ol];exact aL (O2 m8) (XT (by decide) (by decide))) (by decide +kernel) hp
structure ako(s:Rat)(m:Nat)(ae:List (List LD))(pl:List (Option Nat))(ys:List Rat):Prop where
 len:ys.length=m
 b:YsB ys
 due:∀(k d:Nat),pl[k]?=some (some d)->∃ld,(ae.getD k [])[d]?=some ld/\ys.getD k 0=Ku s (λj=>ys.getD j 0) ld
 no:∀k:Nat,pl[k]?=some none->ys.getD k 0=0
theorem aeg{s:Rat}{m mo:Nat}{ae:List (List LD)}{off:List (List bV)}(hs:Shr s)(hd:DSk m mo ae)(m8:m<=8)(ho:Fj ae off){pl:List (Option Nat)}(hl:PlD ae pl){y:Nat->Rat}(hw:Eu s (chO off pl) y)(hb:∀i,i<off.length->FnB ((2*off.length*N22)^off.length) (y i)):ako s m ae pl ((List.range off.length).map y):=by
 have ol:off.length=m:=by rw[ho.len,hd.len]
 have hp:=Mt ho hl;have ob:=adn hd ho;have sh:∀ds∈off,∀o∈ds,ShB s off.length o.ways:=λds kz o hx=>by rw[ol];exact let b:=ob ds kz o hx;⟨b.lt,b.nn,b.one⟩
 have cl:=Tq hp;have wv:∀i,i<off.length->y i=TJ s y ((chO off pl).getD i none):=λi hi=>(V4 (by rw[cl];exact T8 sh hp)).mp hw i (by rw[cl];exact hi);have yg:∀k,k<off.length->((List.range off.length).map y).getD k 0=y k:=λk hk=>by rw[au,aq,UZ hk];rfl
 have co:=adz (pl:=pl) ob;have cg:∀i,i<off.length->CoB off.length (10^30) 1000 4000 ((chO off pl).getD i none):=λi hi=>by
  rw[ol];exact co _ (by rw[au,aj (by rw[cl];exact hi)];exact aU _)
 have ab:=W2 hs cg (by decide) wv;have dd:∀k,pl[k]?≠none->y k=Y6 s (λj=>((List.range off.length).map y).getD j 0) ae pl k:=λk hk=>by
  have kl:k<pl.length:=Nat.lt_of_not_le λz=>hk (aM z);have ko:k<off.length:=by rw[<- hp.len];exact kl
  rw[wv k ko,<- afa hd ho kl];unfold TJ;rw[Oe (x:=λk=>((List.range off.length).map y).getD k 0) (z:=y) λw hm=>yg w.1 ((T8 sh hp k ko).lt w hm)]
 refine⟨by rw[ak,WJ,ol],⟨λz hz=>?_,λz hz=>?_,λz hz=>?_⟩,λk d e=>?_,λk e=>?_⟩
 .obtain⟨i,hi,rfl⟩:=YV.mp hz;have:=(hb i (List.mem_range.mp hi)).d;rw[ol]at this;exact aL this (aL (O2 m8) (XT (by decide) (by decide)))
 .obtain⟨i,hi,rfl⟩:=YV.mp hz;exact(ab i (List.mem_range.mp hi)).1
 .obtain⟨i,hi,rfl⟩:=YV.mp hz;exact(ab i (List.mem_range.mp hi)).2
 .have kl:k<pl.length:=(ao.mp e).1;have kd:k<ae.length:=by rw[<- hl.len];exact kl
  have ek:=aj kd;have lt:d<ae[k].length:=of_decide_eq_true (hl.ok k (some d) _ e ek);have eg:ae.getD k []=ae[k]:=by rw[au,ek];rfl
  refine⟨ae[k][d],by rw[eg];exact aj lt,?_⟩;rw[yg k (by rw[<- hp.len];exact kl),dd k (by rw[e];exact λz=>nomatch z)];unfold Y6;rw[show pl.getD k none=some d by rw[au,e];rfl,eg];show(match ae[k][d]? with|none=>(0:Rat)|some d=>Ku s _ d)=_;rw[aj lt]
 .have kl:k<pl.length:=(ao.mp e).1;rw[yg k (by rw[<- hp.len];exact kl),dd k (by rw[e];exact λz=>nomatch z)];unfold Y6;rw[show pl.getD k none=none by rw[au,e];rfl]
  rfl
theorem W3:EqD (λpl:List (Option Nat)=>L2.T.lst (pl.map dT)) (λpl=>PyData.list (pl.map dD)):=⟨λpl=>ZH L2.T.lst (zZ Ho.of pl),λpl=>by unfold PyData.canLay0;exact uF Ho.lay pl,λpl=>by
 unfold PyData.depth;have:=yj (g:=dD) (n:=0) (λx=>by cases x<;>exact aG 0) pl;lia,λx y=>by
 unfold PyData.eqv;exact Hr Ho.eqv x y⟩
def Zd:ST:=λts q=>∃ns:List Int,ts=[scT ns]/\ns.length<=63/\q (.fz (.bl true))
theorem afM(F:Fun K Mz Mz Pj f fd)(T:Txt K mg D)(m9:OkT P w K mg base 1 Ab Bx Mh)(Nx:OkT P w K mg base 3 zU Ad QJ)(RB:OkT P w K mg base 2 Et Ef st_size)(NQ:OkT P w K mg base 5 zf zP N_)(Rq:OkT P w K mg base 9 Eo Er (U4 D))(Bs:OkT P w K mg base 2 wM wJ JH)(mO:OkT P w K mg base 9 fY iM (yW D))(wu:OkT P w K mg base 11 nM oE (Aj D))(Em:OkT P w K mg base 4 zH Bf PK):b_ P w K mg base CX0 12 f fd RV (spT K Zd):=by
 refine F.okT qY (λts R hP=>by obtain⟨_,e,_⟩:=hP;exact e ▸ rfl) λah A outer s H E hr=>?_;refine⟨_,(bC (bO 1 qY.nd (Or.inl rfl) (bH Nx hr.md (by rfl) (bw (bH m9 hr.md (by rfl) (bw (qv 0) (bw bx bA))) bA)))
  (bC (bO 2 qY.nd (Or.inl rfl) (bH NQ hr.md (by rfl) (bw (qv 0) (bw bx (bw (bH RB hr.md (by rfl) (bw (bH m9 hr.md (by rfl) (bw (qv 0) (bw bx bA))) bA)) (bw bx bA))))))
  (bC (bO 3 qY.nd (Or.inl rfl) (bH Rq hr.md (by rfl) (bw (bH m9 hr.md (by rfl) (bw (qv 0) (bw bx bA))) (bw (qv 1) (bw (qv 2) bA)))))
  (bC (bO 4 qY.nd (Or.inl rfl) (cY (bw (bH Bs hr.md (by rfl) (bw (bH m9 hr.md (by rfl) (bw (qv 0) (bw bx bA))) (bw (qv 2) bA))) (bw (bH Bs hr.md (by rfl) (bw (bH m9 hr.md (by rfl) (bw (qv 0) (bw bx bA))) (bw (qv 2) bA))) bA))))
  (bC (p8 (bF Pj) adt ["_law_script","_law_share_here","_law_rooms","_law_hall_here","_law_plans","_law_handed","_law_held","_law_cell_here","_law_found","?_law_plan"] ["_law_plan"] (cF (qv 4)) (gj (i:=0)) cG (oZ Es (by rfl) T.yD boot_list (bw (qv 0) bA)) (iJ (i:=5) qY.nd rfl (Or.inl rfl)))
  (bC (jz 6 qY.nd (Or.inl rfl) (ad5 (bH mO hr.md (by rfl) (bw (qv 3) (bw (bI (qv 5) bx) bA))) (bH mO hr.md (by rfl) (bw (qv 3) (bw (bI (qv 5) bx) bA)))))
  (bC (bO 7 qY.nd (Or.inl rfl) (bJ cD (bJ M9 (bH m9 hr.md (by rfl) (bw (qv 0) (bw bx bA))) bx) (bH m9 hr.md (by rfl) (bw (qv 0) (bw bx bA)))))
  (bC (cB (dG (dg (bH wu hr.md (by rfl) (bw (qv 3) (bw (qv 7) (bw (bI (qv 4) bx) (bw (qv 2) bA)))))))
  (bG (bL mV))
  bQ)
  (bC (amS (XF VY rfl (aae (by rfl) T.Vh (cN (pv 6) (cN (pv 4) lA)).mono) (abw (n:=2) rfl (Gp (iJ (i:=8) qY.nd rfl (Or.inl rfl)) (Gp (iJ (i:=9) qY.nd rfl (Or.inl rfl)) Uh)))
     (uL (adh (Z_ (afu (zE Em hr.md (by rfl) (cN (pv 8) (cN (pv 1) (cN (pv 2) (cN (pv 9) lA))))) (λ_=>rfl)))
      (rY (Cz acZ))
      Vb)
     (uL (jV (RM (pv 8) (cN (Np (cN Rr (cN Rr lA))) lA)))
     (rY (jV (adP (pv 8))))))))
  (bG (bL (vf (bH Em hr.md (by rfl) (bw (bH mO hr.md (by rfl) (bw (qv 3) (bw (bI (qv 5) bx) bA))) (bw (qv 1) (bw (qv 2) (bw (bI (qv 4) bx) bA))))) (yE (m6 (go_eq hr.units) (qv 5) (qv 4))))))))))))))),?_⟩
 rintro _ R ⟨ns,rfl,nl,q⟩;refine⟨ns,2,rfl,by exact aL nl (by decide),_,rfl,λs hs=>⟨ns,0,rfl,by exact aL nl (by decide),_,rfl,λm m8=>⟨ns,5,m,6,rfl,by exact aL nl (by decide),by exact aL m8 (by decide),by decide,λae hd=>?_⟩⟩⟩;dsimp only;rw[abN];refine⟨ns,1,rfl,by exact aL nl (by decide),_,s,m,6,ae,rfl,hs,hd,by exact aL m8 (by decide),by decide,λnm off hn hok ho=>?_⟩;have dl:=hd.len;refine⟨ns,3,rfl,by exact aL nl (by decide),_,ae,rfl,by lia,λp0 h0=>⟨ns,4,rfl,by exact aL nl (by decide),_,ae,rfl,by lia,λp1 h1=>?_⟩⟩;have i':=Mt ho h0;have hp1:=Mt ho h1;have ol:off.length=m:=by rw[ho.len,dl]
 have few:off.length<=100:=by lia
 have eo:off.map List.length=ae.map List.length:=by
  refine TK (by rw[ak,ak,ho.len]) λk k1 k2=>?_;rw[ak]at k1 k2;rw[UV,UV];obtain⟨tl,iE,e⟩:=ho.at_ k _ _ (aj k2) (aj k1);rw[e,ak,VT,iE,UX]
 refine⟨(show 2<=sizeLine by decide),comp_map (λpl:List (Option Nat)=>L2.T.lst (pl.map dT)) (λpl=>L2.T.lst (pl.map dT)) [p0,p1] (λpl _ N M h=>h) ?_⟩;refine⟨_,rfl,s,nm,off,p0,N22,rfl,hok,i',few,adR hs hd m8 ho i',λy0 hw0 hb0=>⟨_,rfl,s,nm,off,p1,N22,rfl,hok,hp1,few,adR hs hd m8 ho hp1,λy1 hw1 hb1=>?_⟩⟩;have ym:∀y:Nat->Rat,((List.range off.length).map y).map frR=(List.range off.length).map λi=>frR (y i):=λy=>by rw[WP];rfl
 have W0:=aeg hs hd m8 ho h0 hw0 hb0;have W1:=aeg hs hd m8 ho h1 hw1 hb1;rw[<- ym,<- ym];generalize(List.range off.length).map y0=z0 at W0 ⊢;generalize(List.range off.length).map y1=z1 at W1 ⊢;refine⟨ns,3,rfl,by exact aL nl (by decide),.inr (by constructor<;>decide),ns,4,rfl,by exact aL nl (by decide),?_⟩;refine⟨_,rfl,s,nm,off,_,p0,ae,m,6,rfl,hok,hd,by exact aL m8 (by decide),by decide,eo,i',?_⟩;intro own H1 σ Dn h L;obtain⟨u1,e1,r1⟩:=h.get (i:=1) (t:=frR s) rfl;obtain⟨u2,e2,r2⟩:=h.get (i:=2) (t:=Hh ae) rfl;obtain⟨u4,e4,r4⟩:=h.get (i:=4) (t:=.lst [.lst (p0.map dT),.lst (p1.map dT)]) rfl;obtain⟨a,bs,e6,o6,nd,ha,lb,hc⟩:=h.l2 (i:=6) (tss:=[z0.map frR,z1.map frR]) rfl;obtain⟨c,xs,rfl,hx,rx⟩:=r4.lstI;obtain⟨x0,x1,rfl,rx0,rx1⟩:=rx.two;obtain⟨b0,b1,rfl⟩ : ∃b0 b1,bs=[b0,b1]:=by
  match bs,lb with
  |[b0,b1],_=>exact⟨b0,b1,rfl⟩
 have ow:∀b,b∈[a,b0,b1]->Ow own b:=λb hb=>⟨6,by rw[o6];exact hb⟩;have cn:¬Ow own c:=(cH hx).1;refine Wb ⟨_,e6,_,e4,a,c,_,_,rfl,ha,(cH hx).2,rfl,λk σ' H'=>σ'.length=σ.length/\(∀i,i∉[6,8,9]->σ'[i]?=σ[i]?)/\Same (L2.hd (Ow own) H1) (L2.hd (Ow own) H')/\(∀b,Ow own b->∃ys,H' b=some (.lst ys))/\∀(j:Nat)b(zs:List Rat),k<=j->[b0,b1][j]?=some b->[z0,z1][j]?=some zs->∃ys,H' b=some (.lst ys)/\bU K (L2.hd (Ow own) H') ys (zs.map frR),⟨rfl,λ_ _=>rfl,.refl _,λb=>h.lists rfl,?_⟩,?_,?_⟩
 .intro j b zs _ eb ez;exact hc j b _ eb (by rw[show[z0.map frR,z1.map frR]=[z0,z1].map (λz=>z.map frR)from rfl,aq,ez];rfl)
 .rintro k x y σ' H' t ex ey ⟨sl,se,SS,k8,hj⟩ h8 lv ht;obtain⟨b,zs,pl,eb,ez,rfl,W,ry⟩ : ∃b zs pl,[b0,b1][k]?=some b/\[z0,z1][k]?=some zs/\x=.ref b/\ako s m ae pl zs/\PlD ae pl/\Rep K (L2.hd (Ow own) H1) y (.lst (pl.map dT)):=by
   match k,ex,ey with
   |0,rfl,rfl=>exact⟨b0,z0,p0,rfl,rfl,rfl,W0,h0,rx0⟩
   |1,rfl,rfl=>exact⟨b1,z1,p1,rfl,rfl,rfl,W1,h1,rx1⟩
  obtain⟨ys,hb,rz⟩:=hj k b zs (aG _) eb ez;obtain⟨hl,ry⟩:=ry;have l10:σ.length=10:=h.len.symm;have g:∀i,i∉[6,8,9]->((σ'.set 8 (some (.ref b))).set 9 (some y))[i]?=σ[i]?:=λi hi=>by rw[VW (λz=>hi (by rw[<- z];decide)),VW (λz=>hi (by rw[<- z];decide)),se i hi]
  have g8:((σ'.set 8 (some (V.ref b))).set 9 (some y))[8]?=some (some (.ref b)):=by rw[VW (by decide),UY (by lia)]
  have g9:((σ'.set 8 (some (V.ref b))).set 9 (some y))[9]?=some (some y):=by rw[UY (by rw[VZ];lia)]
  have bo:Ow own b:=ow b (by
   match k,eb with
   |0,rfl=>simp
   |1,rfl=>simp)
  have ab:a≠b:=λz=>by
   have:b∈[b0,b1]:=aC eb;rw[<- z]at this;exact(List.nodup_cons.mp nd).1 this
  have cb:c≠b:=λz=>cn (z ▸ bo);have S2:Same H' (upd H' t (.tup [.ref b,y])):=Same.upd ht;have T2:=SS.trans (bN (S:=Ow own) S2);refine⟨t,_,rfl,bW,rfl,_,_,rfl,_,_,rfl,rfl,_,g8,_,(g 1 (by decide)).trans e1,_,(g 2 (by decide)).trans e2,_,g9,_,λx=>x=.fz (.bl true),.cons (.lst (S2 _ _ hb) (rz.same (bN (S:=Ow own) S2 |>.trans cM))) (.cons ((r1.same T2).same cM) (.cons ((r2.same T2).same cM) (.cons ((ry.same T2).same cM) .nil))),⟨s,m,6,ae,pl,zs,rfl,hs,hd,by exact aL m8 (by decide),W.len,W.b,by rw[hl.len,dl],W.due,W.no,rfl⟩,?_⟩;rintro H3 v _ rfl S3 ⟨_,_,_,u,eu,ru⟩;cases eu;cases ru;have lz:ys.length=m:=by rw[rz.len,ak,W.len]
  refine⟨true,rfl,_,g8,b,ys,rfl,S3 _ _ (S2 _ _ hb),(show 2<=sizeLine by decide),λp H4 S4 fp ep=>⟨_,ys,rfl,S4 _ _ (S3 _ _ (S2 _ _ hb)),Y3 (show ys.length<=8 by exact aL (WH lz) m8) (by decide),_,g8,b,_,rfl,bW,?_⟩⟩;have S5:=S2.trans (S3.trans S4);have hu:∀(q1 q2:HO),L2.hd (Ow own) (upd (upd H4 b q1) b q2)=L2.hd (Ow own) H4:=λq1 q2=>by rw[vg bo,vg bo]
  refine⟨by rw[bR ab,bR ab];exact S5 _ _ h8,by rw[bR cb,bR cb];exact S5 _ _ lv,by rw[VZ,VZ,sl],g,by rw[hu];exact SS.trans (bN S5),λd bv=>?_,λj d ws kj ed ew=>?_⟩
  .by_cases z:d=b
   .rw[z];exact⟨_,bW⟩
   .obtain⟨qs,hq⟩:=k8 d bv;exact⟨qs,by rw[bR z,bR z];exact S5 _ _ hq⟩
  .obtain⟨qs,hq,rq⟩:=hj j d ws (aL (Xs _) kj) ed ew;have db:d≠b:=λz=>by
    subst z;have:=yS (List.nodup_cons.mp nd).2 ed eb;lia
   exact⟨qs,by rw[bR db,bR db];exact S5 _ _ hq,by rw[hu];exact rq.same (bN S5)⟩
 .rintro σ' H' ⟨sl,se,SS,k8,_⟩ _ _;refine L.nx _ H' σ' _ ?_ (by rw[Ow.ownG];exact SS) (h.ghost SS k8 sl [6,8,9] se rfl);refine⟨_,rfl,s,nm,off,p0,N22,rfl,hok,i',few,adR hs hd m8 ho i',λy hw hb=>⟨_,rfl,?_⟩⟩;have W:=aeg hs hd m8 ho h0 hw hb;dsimp only[frz];rw[<- ym];refine⟨s,m,6,ae,p0,_,rfl,hs,hd,by exact aL m8 (by decide),W.len,W.b,by rw[h0.len,dl],W.due,W.no,?_⟩;refine W3.gEq (a:=[p0,p1]) (c:=[p0,p1]) ?_;rw[Zs rfl];exact q
end
theorem aeV{K:Frag}{vs:Ε}{H:Hp}{Q:VK}{E:XK}(h:Uk K vs H Q E):spT K Zd vs H Q E:=by
 obtain⟨a,ns,rfl,hs,hl,_,hQ⟩:=h;refine⟨[scT ns],λx=>x=.fz (.bl true),.cons (.scr hs (Cu ns)) .nil,⟨ns,rfl,hl,rfl⟩,?_⟩;rintro H' v _ rfl _ ⟨B,_,_,u,e,r⟩;cases e;cases r;exact hQ H'
theorem law_fn{l:PySem.W.OpenLaw}{w:World}{K:Frag}{mg:Str->Ψ}(T0:∃D,Txt K mg D)(base:Heap)(f:Addr)(fd:FuncData)(F:Fun K Mz Mz Pj f fd) :
  b_ l.prog w K mg base CX0 12 f fd RV (Uk K):=by
 obtain⟨D,T⟩:=T0;have o {k:Nat}{n:Str}{st:Stmt}{ps:Θ}{sp:Sp} (h:cL K mg n st ps) (g:∀f fd,Fun K n n st f fd->b_ l.prog w K mg base CX0 k f fd ps sp):OkF l.prog w K mg base k n ps sp:=h.ok g;have i {k:Nat}{n m:Str}{st:Stmt}{ps:Θ}{f:Addr}{sp:Sp} (h:xu K n m st ps f) (g:∀fd,Fun K n m st f fd->b_ l.prog w K mg base CX0 k f fd ps sp):OkI l.prog w K mg base CX0 k f ps sp:=h.ok g;have x {k:Nat}{n:Str}{st:Stmt}{ps:Θ}{sp:Sp} (h:cL K mg n st ps) (g:∀f fd,Fun K n n st f fd->b_ l.prog w K mg base (CXO l.prog w) k f fd ps sp):OkX l.prog w K mg base k n ps sp:=h.okX g;have cQ:=o T.Tz λ_ _ F=>Pa F T;have dh:=o T.W4 λ_ _ F=>Sv F T;have dU:=o T.acA λ_ _ F=>aat F T cQ dh;have Rx:=o T.aeI λ_ _ F=>acN dU F;have nZ:=o T.abp λ_ _ F=>aaG dU F;have L_:=o T.acy λ_ _ F=>YH dU F;have Td:=o T.ad0 λ_ _ F=>abu dU F;have pY:=o T.acD λ_ _ F=>Yy F;have fV:=o T.SM λ_ _ F=>O8 F T cQ dh;have wV:=o T.abT λ_ _ F=>XQ F dh;have iT:=o T.WX λ_ _ F=>Sg F T;have iU:=o T.LQ λ_ _ F=>Jl F iT fV;have dI:=o T.Ag λ_ _ F=>yN F iT;have fu:=o T.Gg λ_ _ F=>Dv F T fV pY;have Ma:=o T.f_total λ_ _ F=>YL F T wV dU;have qP:=o T.Jm λ_ _ F=>Fv F T dI fu Ma;have qQ:=o T.Io λ_ _ F=>FJ F T Rx;have jF:=i T.Ln λ_ F=>Lq F T iU;have uG:=i T.KQ λ_ F=>Li F T jF dI;have dN:=i T.Ik λ_ F=>Iz F T jF qP qQ;have vH:=i T.MN λ_ F=>Ko F T iU fu nZ dN;have vd:=i T.La λ_ F=>Ly F T dN;have vL:=i T.M_ λ_ F=>Ks F T;have qI:=o T.IK λ_ _ F=>G_ F T fV pY;have sW:=o T.Ni λ_ _ F=>Jk F T iT;have m7:=o T.Du λ_ _ F=>B_ F T vL;have uQ:=o T.Oz λ_ _ F=>Ka F T m7;have uI:=i T.Ls λ_ F=>K5 F T qI sW uQ;have eN:=i T.Ny λ_ F=>M7 F T;have jQ:=i T.yH λ_ F=>Ir F T cQ eN;have dB:=i T.Hg λ_ F=>Vw F T jQ;have qJ:=o T.Jf λ_ _ F=>Fz F T;have yM:=o T.Xl λ_ _ F=>abH F T cQ;have sV:=o T.Bv λ_ _ F=>Ip F T yM eN dB;have fj:=o T.GJ λ_ _ F=>DG F T dB;have rH:=o T.ZQ λ_ _ F=>Wz F dh;have uM:=o T.O6 λ_ _ F=>N5 F T rH;have yq:=o T.Rn λ_ _ F=>Oq F T dh rH;have v8:=o T.QV λ_ _ F=>Kp F T uM yq;have jD:=o T.O1 λ_ _ F=>LR F dU;have pJ:=o T.Ge λ_ _ F=>Dk F dU;have rT:=o T.Lj λ_ _ F=>Ij F T;have tR:=o T.abC λ_ _ F=>aal F v8;have vV:=o T.Qt λ_ _ F=>Nj F T tR jD Td;have pL:=o T.HX λ_ _ F=>Dm F T tR jD nZ;have Ck:=o T.V0 λ_ _ F=>Tp F T wV rT vV pL pJ;have yx:=o T.R3 λ_ _ F=>P0 F T;have qT:=o T.Ih λ_ _ F=>Gd F T;have uU:=o T.Pu λ_ _ F=>Ky F T;have BZ:=o T.VH λ_ _ F=>S9 F T;have vN:=o T.OJ λ_ _ F=>Ml F T;have gK:=o T.Jc λ_ _ F=>Fw F T yx qT Ck uU BZ vN;have jA:=o T.Qe λ_ _ F=>Lb F T qJ nZ L_;have mO:=o T.Df λ_ _ F=>Ke F T sV fj jA gK;have lZ:=i T.GK λ_ F=>Fp F T;have yM:=o T.Xl λ_ _ F=>Zg F T cQ;have qH:=x T.Bv λ_ _ F=>Hz F T lZ yM eN dB;have sS:=x T.Df λ_ _ F=>Jj F T qH fj jA gK;have Cm:=o T.VN λ_ _ F=>Rt F T sS;have U_:=o T.agK λ_ _ F=>aez F T;have m9:=o T.aed λ_ _ F=>abn F;have cU:=o T.X6 λ_ _ F=>Wy F T;have J2:=o T.ahp λ_ _ F=>aes F T;have iw:=o T.Xy λ_ _ F=>VP F J2;have vZ:=o T.QK λ_ _ F=>Lr F T J2;have tO:=o T.KC λ_ _ F=>Ig F T vZ;have DR:=o T.aaL λ_ _ F=>aar F T cU;have Nx:=o T.aa0 λ_ _ F=>Z4 F T cU iw;have oB:=o T.ajP λ_ _ F=>adL F T iw;have Rp:=o T.ae6 λ_ _ F=>acp F T cU iw oB;have NQ:=o T.ab8 λ_ _ F=>ZC F T m9 cU Rp;have RB:=o T.afz λ_ _ F=>abb F T cU;have MK:=o T.abt λ_ _ F=>Yg F T uG dN vH vd;have Rq:=o T.aeS λ_ _ F=>ab6 F T DR MK uI;have Bs:=o T.aak λ_ _ F=>VJ F T cU;have R9:=o T.afx λ_ _ F=>Y8 F;have R_:=o T.f_look λ_ _ F=>aa8 F T;have Em:=o T.acV λ_ _ F=>Y5 F T tO R_ R9;have HS:=o T.aam λ_ _ F=>Wj F T cU U_;have wu:=o T.O5 λ_ _ F=>Le F T HS Cm;exact(afM F T m9 Nx RB NQ Rq Bs mO wu Em).imp λ_ _ _ _ h=>aeV h
end K22
end
open PySem PySem.W PyProof.Rows
set_option maxRecDepth 100000 in
set_option maxHeartbeats 0 in
theorem PySem.Challenge.cw_chancehall_k22_worths_holds : PySem.Challenge.rw_chancehall_k22_worths.Holds := by
 w_on
 refine holds_law H22.wsd λkM=>?_;refine holds_open (q:=H22.qv) (loose:=[]) (XP:=XL H22.qv []) (YP:=InK H22.KH) H22.left (InK.of H22.asK) InK.keeps H22.hX XL.keeps (by rfl) (by rfl) (by rfl) H22.hR (by rfl) kM (by decide +kernel) ⟨rfl,rfl,rfl,rfl,rfl,by decide +kernel⟩ ?hw ?hc
 (case hw=>w_witness2)
 k_fill
 refine L2.aiU (l:=PySem.Challenge.rw_chancehall_k22_worths) (k:=12) (x := "_law_script") rfl rfl ⟨rfl,by decide,by decide⟩ (λw h Y=>(show(H22.KH w.params).In h from Y)) ?F
 case F =>
  intro w mg fa h KX G gp;refine⟨K22.Pj,?_,λbase f fd F=>K22.law_fn ?T base f fd F⟩
  .exact L2.q_f 1 λ_ _ _ _ _ _ _=>rfl
  case T =>
   refine⟨⟨31,118,405,426,445,464,481,566,135,136,388,395,423,442,461,478,523,530,551,563,115⟩,⟨L2.q_c,L2.q_c,L2.q_c,L2.q_c,L2.q_c,L2.q_c,L2.q_c,L2.q_c,L2.q_c,L2.q_c,by k_is,by k_is,L2.q_g,L2.q_t,L2.q_t,L2.q_4,L2.q_m,L2.q_n,L2.q_n,L2.q_n,L2.q_n,L2.q_n,L2.q_n,L2.q_M,L2.q_4,L2.q_m,L2.q_n,L2.q_n,L2.q_n,L2.q_n,L2.q_n,L2.q_n,L2.q_M,L2.q_4,L2.q_m,L2.q_n,L2.q_n,L2.q_n,L2.q_n,L2.q_n,L2.q_n,L2.q_M,L2.q_4,L2.q_m,L2.q_n,L2.q_n,L2.q_n,L2.q_n,L2.q_n,L2.q_n,L2.q_M,L2.q_4,L2.q_m,L2.q_n,L2.q_n,L2.q_n,L2.q_n,L2.q_n,L2.q_n,L2.q_M,L2.q_4,L2.q_m,L2.q_m,L2.q_m,L2.q_n,L2.q_n,L2.q_n,L2.q_n,L2.q_n,L2.q_n,L2.q_E,L2.q_S,L2.q_5,by k_is,by k_is,L2.q_n,L2.q_b,L2.q_B,L2.q_h 3 λ_ _ _ _ _ _ _ _ _=>rfl,L2.q_h 1 λ_ _ _ _ _ _ _=>rfl,L2.q_h 4 λ_ _ _ _ _ _ _ _ _ _=>rfl,L2.q_B,L2.q_h 4 λ_ _ _ _ _ _ _ _ _ _=>rfl,L2.q_h 6 λ_ _ _ _ _ _ _ _ _ _ _ _=>rfl,L2.q_h 4 λ_ _ _ _ _ _ _ _ _ _=>rfl,L2.q_h 3 λ_ _ _ _ _ _ _ _ _=>rfl,L2.q_h 1 λ_ _ _ _ _ _ _=>rfl,L2.q_h 2 λ_ _ _ _ _ _ _ _=>rfl,L2.q_h 2 λ_ _ _ _ _ _ _ _=>rfl,L2.q_h 2 λ_ _ _ _ _ _ _ _=>rfl,L2.q_z,L2.q_z,L2.q_z,L2.q_z,L2.q_z,L2.q_z,L2.q_z,L2.q_z,L2.q_z,L2.q_z,L2.q_z,L2.q_z,L2.q_z,L2.q_z,L2.q_f 1 λ_ _ _ _ _ _ _=>rfl,L2.q_f 2 λ_ _ _ _ _ _ _ _=>rfl,L2.q_f 2 λ_ _ _ _ _ _ _ _=>rfl,L2.q_f 1 λ_ _ _ _ _ _ _=>rfl,L2.q_f 2 λ_ _ _ _ _ _ _ _=>rfl,L2.q_f 2 λ_ _ _ _ _ _ _ _=>rfl,L2.q_f 2 λ_ _ _ _ _ _ _ _=>rfl,L2.q_f 2 λ_ _ _ _ _ _ _ _=>rfl,L2.q_f 2 λ_ _ _ _ _ _ _ _=>rfl,L2.q_f 1 λ_ _ _ _ _ _ _=>rfl,L2.q_f 1 λ_ _ _ _ _ _ _=>rfl,L2.q_f 2 λ_ _ _ _ _ _ _ _=>rfl,L2.q_f 2 λ_ _ _ _ _ _ _ _=>rfl,L2.q_f 2 λ_ _ _ _ _ _ _ _=>rfl,L2.q_f 2 λ_ _ _ _ _ _ _ _=>rfl,L2.q_f 3 λ_ _ _ _ _ _ _ _ _=>rfl,L2.q_f 2 λ_ _ _ _ _ _ _ _=>rfl,L2.q_f 2 λ_ _ _ _ _ _ _ _=>rfl,L2.q_f 1 λ_ _ _ _ _ _ _=>rfl,L2.q_f 3 λ_ _ _ _ _ _ _ _ _=>rfl,L2.q_f 3 λ_ _ _ _ _ _ _ _ _=>rfl,L2.q_f 5 λ_ _ _ _ _ _ _ _ _ _ _=>rfl,L2.q_f 4 λ_ _ _ _ _ _ _ _ _ _=>rfl,L2.q_f 2 λ_ _ _ _ _ _ _ _=>rfl,L2.q_f 1 λ_ _ _ _ _ _ _=>rfl,L2.q_f 2 λ_ _ _ _ _ _ _ _=>rfl,L2.q_f 2 λ_ _ _ _ _ _ _ _=>rfl,L2.q_f 3 λ_ _ _ _ _ _ _ _ _=>rfl,L2.q_f 3 λ_ _ _ _ _ _ _ _ _=>rfl,L2.q_f 1 λ_ _ _ _ _ _ _=>rfl,L2.q_f 2 λ_ _ _ _ _ _ _ _=>rfl,L2.q_f 2 λ_ _ _ _ _ _ _ _=>rfl,L2.q_f 2 λ_ _ _ _ _ _ _ _=>rfl,L2.q_f 2 λ_ _ _ _ _ _ _ _=>rfl,L2.q_f 1 λ_ _ _ _ _ _ _=>rfl,L2.q_f 2 λ_ _ _ _ _ _ _ _=>rfl,L2.q_f 1 λ_ _ _ _ _ _ _=>rfl,L2.q_f 1 λ_ _ _ _ _ _ _=>rfl,L2.q_f 1 λ_ _ _ _ _ _ _=>rfl,L2.q_f 1 λ_ _ _ _ _ _ _=>rfl,L2.q_f 1 λ_ _ _ _ _ _ _=>rfl,L2.q_f 1 λ_ _ _ _ _ _ _=>rfl,L2.q_f 2 λ_ _ _ _ _ _ _ _=>rfl,L2.q_f 2 λ_ _ _ _ _ _ _ _=>rfl,L2.q_f 2 λ_ _ _ _ _ _ _ _=>rfl,L2.q_f 2 λ_ _ _ _ _ _ _ _=>rfl,L2.q_f 2 λ_ _ _ _ _ _ _ _=>rfl,L2.q_f 2 λ_ _ _ _ _ _ _ _=>rfl,L2.q_f 1 λ_ _ _ _ _ _ _=>rfl,L2.q_f 2 λ_ _ _ _ _ _ _ _=>rfl,L2.q_f 2 λ_ _ _ _ _ _ _ _=>rfl,L2.q_f 2 λ_ _ _ _ _ _ _ _=>rfl,L2.q_f 1 λ_ _ _ _ _ _ _=>rfl,L2.q_f 3 λ_ _ _ _ _ _ _ _ _=>rfl,L2.q_f 2 λ_ _ _ _ _ _ _ _=>rfl,L2.q_f 4 λ_ _ _ _ _ _ _ _ _ _=>rfl,L2.q_f 3 λ_ _ _ _ _ _ _ _ _=>rfl,L2.q_f 3 λ_ _ _ _ _ _ _ _ _=>rfl,L2.q_f 2 λ_ _ _ _ _ _ _ _=>rfl,L2.q_f 3 λ_ _ _ _ _ _ _ _ _=>rfl,L2.q_f 1 λ_ _ _ _ _ _ _=>rfl,L2.q_f 4 λ_ _ _ _ _ _ _ _ _ _=>rfl,L2.q_f 2 λ_ _ _ _ _ _ _ _=>rfl,L2.q_f 3 λ_ _ _ _ _ _ _ _ _=>rfl,L2.q_f 2 λ_ _ _ _ _ _ _ _=>rfl,L2.q_f 4 λ_ _ _ _ _ _ _ _ _ _=>rfl⟩⟩
#print axioms PySem.Challenge.cw_chancehall_k22_worths_holds
