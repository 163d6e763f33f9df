import PyProof.Rows.All
import Wide.All
import OpenK.AllK
import Wide.FinOn
import Lean
import PyProof.EqAt
import PyProof.EqKinds
import PyProof.TupleCall
import PyProof.EqLayable
import KE.KIntText
import PyProof.EnumMake
import PyProof.EnumStmt
import PyProof.EnumFor
import PyProof.Rows.EnumRows
import PyProof.ExcInit
import PyProof.ExcClass2
import PyProof.InstStoreFacts
import KE.KRevIter
import PySem.Challenge.RW_chancehall_k31_whole_mendings_end
def aj := @List.getElem?_eq_getElem
def ak := @List.length_map
def ao := @List.getElem?_eq_some_iff
def aq := @List.getElem?_map
def au := @List.getD_eq_getElem?_getD
def aA := @List.length_append
def aC := @List.mem_of_getElem?
def aD := @List.getElem?_append_right
def aF := @List.getElem?_append_left
def aG := @Nat.le_refl
def aH := @PySem.Heap.get?_push_of_some
def aJ := @List.mem_cons_of_mem
def aK := @PySem.Heap.lt_size
def aL := @Nat.le_trans
def aM := @List.getElem?_eq_none
def aN := @List.length_replicate
def aO := @List.mem_cons_self
def aP := @List.mem_append_right
def aQ := @Nat.ne_of_lt
def aR := @Nat.lt_of_lt_of_le
def aU := @List.getElem_mem
def aV := @List.getElem?_of_mem
def aW := @PySem.Heap.get?_push_size
def aX := @List.size_toArray
def aY := @List.length_take
def aZ := @Nat.zero_le
def bf := @List.map_append
def bw := @Bool.false_ne_true
open PySem.W (Frag instObj methodObj lookIn plainGet hasDictIn findIn handedIn plainGet_of isFn plainOver takerIn makesIn emptyDict keepIn specialIn mroIn kitOne kia_one kitx_list kitx_tuple callWith_K methodCall_KW codeIn nsIn mg_of excIn readsIn findCls)
section
open PySem PySem.Spec PyProof.Rows
abbrev Γ:=List (Int×Int)
abbrev Δ:=List (Addr×Obj)
abbrev Θ:=List Value
abbrev Φ:=List Str
abbrev Ψ:=List Addr
abbrev Ω:=Option Value
abbrev Ξ:=Option Addr
abbrev Β:=Int×Int
abbrev Ε:=Value->Shared->Prop
def Zs:=@decide_eq_true
def Zp:=@decide_eq_false
def ZZ:=@if_neg
def ZY:=@if_pos
def ZU:=@wpAny_bind
def ZT:=@wpAny_pure
def ZH:=@congrArg
def Z3:=@Int.emod_nonneg
def YY:=@Int.emod_lt_of_pos
def YV:=@List.mem_map
def YU:=@List.mem_cons
def YR:=@List.mem_singleton
def Y1:=@List.mem_append
def Y2:=@Nat.le_of_lt
def Y3:=@Nat.lt_of_le_of_lt
def Xs:=@Nat.le_succ
def XZ:=@Int.mul_pos
def XY:=@Int.le_of_lt
def XX:=@Nat.lt_of_le_of_ne
def XW:=@Bool.false_eq_true
def XV:=@Rat.intCast_mul
def XU:=@Rat.mul_comm
def XT:=@Nat.pow_le_pow_right
def XG:=@Int.natAbs_natCast
def X0:=@List.getElem?_replicate
def X1:=@Nat.lt_succ_self
def X2:=@Nat.le_add_right
def X9:=@Nat.lt_irrefl
def Wp:=@Int.natCast_nonneg
def WZ:=@List.append_assoc
def WV:=@Nat.not_lt_zero
def WU:=@Nat.lt_add_right
def WS:=@Int.ne_of_gt
def WP:=@List.map_map
def WJ:=@List.length_range
def WG:=@Nat.le_of_eq
def WH:=@Nat.mul_le_mul
def W1:=@PySem.boot_len
def VZ:=@PassesOwn.never
def VY:=@Int.natAbs_mul
def VX:=@List.length_zip
def VW:=@Rat.le_refl
def VU:=@Nat.le_of_not_lt
def VT:=@Nat.pow_add
def VS:=@List.length_set
def VQ:=@List.of_mem_zip
def Up:=@List.getElem?_range
def UZ:=@Nat.le_of_lt_succ
def UY:=@Nat.one_pos
def UX:=@Nat.le_of_dvd
def UV:=@Nat.min_self
def UU:=@List.getElem_map
def UT:=@Nat.ne_of_gt
def US:=@Rat.le_trans
def UR:=@Rat.mul_le_mul_of_nonneg_left
def UQ:=@List.not_mem_nil
def UP:=@List.getElem?_set_ne
def UK:=@Rat.divInt_eq_div
def UH:=@List.mem_append_left
def U1:=@List.map_congr_left
def U2:=@Nat.mul_le_mul_left
def Tx:=@Nat.le_of_ble_eq_true
def Tu:=@List.getElem?_set_self
def Ts:=@Nat.not_lt_of_le
def Tk:=@Nat.lt_trans
def Th:=@Int.natCast_mul
def TZ:=@Rat.le_of_lt
def TW:=@List.length_drop
def TU:=@Nat.mul_comm
def TR:=@List.drop_eq_nil_of_le
def TK:=@Rat.zero_divInt
def TH:=@Rat.pow_succ
def T1:=@Nat.succ_pos
def T2:=@Rat.divInt_mul_divInt
def JY:=@Rat.pow_zero
def JU:=@Nat.add_sub_cancel_left
def JS:=@List.length_zipWith
def JP:=@Int.one_mul
def JJ:=@Rat.divInt_add_divInt
def Qr:=@Rat.mul_le_mul_of_nonneg_right
def QY:=@Nat.one_dvd
def QU:=@Nat.mul_le_mul_right
def QR:=@List.sum_cons
def QQ:=@Nat.mul_pos
def QP:=@List.mem_of_getLast?
def Q1:=@Int.mul_one
def Q2:=@Int.lt_of_not_ge
def Q3:=@Int.gcd_dvd_right
def Q4:=@Nat.one_mul
def Zzz:=@Nat.pow_pos
def Zzy:=@Nat.sub_self
def Zzx:=@List.ext_getElem
def Zzw:=@List.getElem_range
def Zzv:=@List.drop_eq_getElem_cons
def Zzu:=@List.take_of_length_le
def Zzt:=@Bool.and_eq_true
def Zzs:=@List.ext_getElem?
def Zzr:=@Rat.intCast_zero
def Zzq:=@Int.mul_ediv_cancel_left
def Zyz:=@Rat.divInt_eq_divInt_iff
def Zyy:=@Nat.div_le_self
def Zyx:=@Rat.divInt_nonneg
def Zyw:=@Rat.mul_nonneg
def Zyv:=@Int.toNat_natCast
def Zyu:=@Int.fdiv_eq_ediv_of_nonneg
def Zyt:=@List.set_eq_of_length_le
def Zys:=@List.getElem_zip
def Zyr:=@List.filter_cons_of_neg
def Zyq:=@List.getElem?_zipWith
def Zxz:=@Int.gcd_pos_of_ne_zero_right
def Zxy:=@Int.ediv_pos_of_pos_of_dvd
def Zxx:=@Nat.pow_le_pow_left
def Zxw:=@Nat.le_mul_of_pos_left
def Zxv:=@Int.toNat_of_nonneg
def Zxu:=@List.map_zipWith
def Zxt:=@List.getElem_of_mem
def Zxs:=@Rat.mul_lt_mul_right
def Zxr:=@List.all_eq_true
def Zxq:=@List.filter_cons_of_pos
def Zwz:=@Int.pos_of_mul_pos_right
def Zwy:=@Int.fdiv_eq_ediv_of_dvd
def Zwx:=@Int.mul_pos_of_neg_of_neg
def Zww:=@Nat.mul_div_cancel_left
def Zwv:=@Int.eq_ofNat_of_zero_le
end
set_option Elab.async false
set_option linter.all false
set_option maxRecDepth 100000
set_option maxHeartbeats 4000000
namespace L2.Once
open PySem PySem.W
def z:Pos:=⟨0,0,0,0⟩
noncomputable def tE:Obj:=⟨.type "tuple",none,.seq ⟨[]⟩ 0,⟨[]⟩⟩
noncomputable def fE:Obj:=⟨.none,none,.fields ⟨[]⟩,⟨[]⟩⟩
noncomputable def tN(t:Nat)(l:Φ):Obj:=⟨.type "tuple",none,.seq ⟨(l.zipIdx t).map λx=>.str x.1 x.2⟩ 0,⟨[]⟩⟩
noncomputable def cO(n q:Str)(t:Nat)(l a f:Int)(r u:Nat):Obj:=⟨.type "code",none,.fields ⟨[.str n t,.str q (t+1),.str "/claim/cut.py" (t+2),.int l 0,.int a 0,.int 0 0,.int 0 0,.int f 0,.ref r,.bool true,.int 181 0,.ref (r+1),.none,.ref (r+2),.ref (r+3),.ref (r+4),.int u 0,.int l 0,.str "/claim/cut.py" (u+1)]⟩,⟨[]⟩⟩
def o11:Obj:={ cls:=.type "tuple",data:=.seq #[] }
def o12:Obj:={ cls:=.none,data:=.fields #[] }
def o13:Obj:={ cls:=.type "code",data:=.fields #[.str "<module>" 182,.str "<module>" 183,.str "/claim/cut.py" 184,.int 1 0,.int 0 0,.int 0 0,.int 0 0,.int 0 0,.ref 11,.bool false,.int 181 0,.ref 12,.none,.none,.none,.none,.int 185 0,.int 1 0,.str "/claim/cut.py" 186] }
def o14:Obj:={ cls:=.type "frame",slots:=#[some (.ref 13),some (.ref 3),some (.ref 3),none,some (.str "__main__" 164),none,some (.ref 0)] }
noncomputable def cP(n q:Str)(t:Nat)(l a f:Int)(r u:Nat):Obj:=⟨.type "code",none,.fields ⟨[.str n t,.str q (t+1),.str "/claim/cut.py" (t+2),.int l 0,.int a 0,.int 0 0,.int 0 0,.int f 0,.ref r,.bool true,.int 181 0,.ref (r+1),.none,.none,.none,.ref (r+2),.int u 0,.int l 0,.str "/claim/cut.py" (u+1)]⟩,⟨[]⟩⟩
noncomputable def dE(P:Params)(x:Str)(t:Nat)(v:Value):DictEntry:=⟨PyData.keyHash P x,.str x t,v⟩
abbrev lf(o:Obj):BT:=.node o .nil .nil
noncomputable def tr(P:Params):BT:=.node (boot_o_0 P)
 (.node (boot_o_1 P) (.node (boot_o_3 P) (lf (boot_o_7 P)) (lf o11)) (.node (boot_o_5 P) (lf (boot_o_9 P)) (lf o13)))
 (.node (boot_o_2 P) (.node (boot_o_4 P) (lf (boot_o_8 P)) (lf o12)) (.node (boot_o_6 P) (lf (boot_o_10 P)) (lf o14)))
noncomputable def S0(w:World)(os:OsState):Shared:=⟨boot_heap w.params,Array.mk [],boot_drawn,boot_toks,os⟩
noncomputable def Sa(w:World)(os:OsState):Shared:=⟨⟨Array.mk [boot_o_0 w.params,boot_o_1 w.params,boot_o_2 w.params,boot_o_3 w.params,boot_o_4 w.params,boot_o_5 w.params,boot_o_6 w.params,boot_o_7 w.params,boot_o_8 w.params,boot_o_9 w.params,boot_o_10 w.params,o11,o12,o13,o14],{}⟩,Array.mk [],{},187,os⟩
noncomputable def Sb(w:World)(os:OsState):SharedT:=⟨tr w.params,15,{},⟨[]⟩,{},187,os⟩
def env(p:Program):Env:={ scope:=p.main.scope,locals:=mainNs,globals:=mainNs,cells:=[],code:=.ref 13,frame:=some 14 }
def cE(p:Program):Code:=.body (behindTheImports p) (env p)
abbrev ann:Ω:=some (.ref 6)
abbrev B:List Frame:=[topFrame z]
theorem size(w:World):((boot_heap w.params).isNs mainGlobals&&(Array.mk [] : Array GenState).size==0,(boot_heap w.params).objs.size,(boot_heap w.params).nsMap mainGlobals "__annotations__")=(true,11,ann):=by
 rw[Fast.te8920871248978507458];kernel_rfl
def nQ(p:Program)(w:World)(M:Nat)(S:SharedT)(l:List Stmt)(q:Pos)(G:Shared->Prop):Prop:=∃s,topRun treeTable p w 11 ann M S.abs (restOf l (env p) (cE p) q B)=some s/\G s
theorem nQ.cut{p:Program}{w:World}{n M:Nat}{S S':SharedT}{l1 l2:List Stmt}{q q':Pos}{G:Shared->Prop}(h:segRunT treeTable p w 11 ann 1 n S (piecesOf l1 (env p) (cE p) q B)=some (.next,S',cE p,q'))(k:nQ p w M S' l2 q' G):nQ p w (n+M) S (l1++l2) q G :=
 let⟨s,a,b⟩:=k
 ⟨s,piece_app (segRun_of h) a,b⟩
theorem nQ.cutAt{p:Program}{w:World}{n m M:Nat}{S S':SharedT}{l:List Stmt}{q q':Pos}{G:Shared->Prop}(h:segRunT treeTable p w 11 ann 1 n S (piecesOf (l.take m) (env p) (cE p) q B)=some (.next,S',cE p,q'))(k:nQ p w M S' (l.drop m) q' G):nQ p w (n+M) S l q G:=by
 have:=nQ.cut h k;rwa[List.take_append_drop]at this
def Good{α:Type}(p q:Program)(loose:Φ)(Xt:Shared->Bool)(Yf:Shared->α)(Ya:World->α)(g0:Bool)(w:World)(s:Shared):Prop :=
 (staticsOk (importedModules p.main.body) (boot_heap w.params) s.heap&&namesBound p s.heap&&gensDone s&&laidKept (boot_heap w.params) s.heap,openSeen q loose (importedModules p.main.body) Xt g0 s,Yf s)=(true,openGood q loose,Ya w)
theorem nQ.last{p q:Program}{loose:Φ}{Xt:Shared->Bool}{α:Type}{Yf:Shared->α}{Ya:World->α}{g0:Bool}{w:World}{n k:Nat}{S:SharedT}{l:List Stmt}{q0 e:Pos}
 (big:(segRunT treeTable p w 11 ann 1 n S (piecesOf l (env p) (cE p) q0 B)).map (λr =>
    (r.1,r.2.2.1,r.2.2.2,(topRun treeTable p w 11 ann k r.2.1.abs ⟨doneF .next,cE p,e,B⟩).map λs =>
     (staticsOk (importedModules p.main.body) (boot_heap w.params) s.heap&&namesBound p s.heap&&gensDone s&&laidKept (boot_heap w.params) s.heap,openSeen q loose (importedModules p.main.body) Xt g0 s,Yf s))) =
   some (.next,cE p,e,some (true,openGood q loose,Ya w))):nQ p w (n+k) S l q0 (Good p q loose Xt Yf Ya g0 w):=by
 obtain⟨⟨f,sT,c,ps⟩,r1,r2⟩:=Option.map_eq_some_iff.mp big;obtain⟨rfl,rfl,rfl,r3⟩ : f=.next/\c=cE p/\ps=e/\_:=by simpa only[Prod.mk.injEq]using r2
 obtain⟨s,t1,t2⟩:=Option.map_eq_some_iff.mp r3;have q1:=piece_app (rest:=[]) (segRun_of r1) (piece_nil t1);rw[List.append_nil]at q1;exact⟨s,q1,t2⟩
theorem Xn{p q:Program}{loose:Φ}{Xt:Shared->Bool}{α:Type}{Yf:Shared->α}{Ya:World->α}{N:Nat}{g0:Bool}{a b M:Nat}
 (ib:∀w:World,(fencedOpening treeTable p w N).map (λs=>(s.heap,s.gens,s.drawn,s.toks))=some (boot_heap w.params,Array.mk [],boot_drawn,boot_toks))
 (pre:∀w:World,(λos=>topGo treeTable p w 11 ann a (S0 w os) (topStub p))=λos=>some (Sa w os,⟨denote treeTable (cE p),cE p,z,B⟩))
 (block:∀w:World,(λos=>segRun treeTable p w 11 ann 1 b (Sa w os) (blockOf (behindTheImports p) (env p) (cE p) z B))=λos=>some (.next,(Sb w os).abs,cE p,z))
 (my:∀(w:World)(os:OsState),nQ p w M (Sb w os) (behindTheImports p) z (Good p q loose Xt Yf Ya g0 w))
 (le:Nat.ble (a+(b+M)) N=true):LeftO p q loose Xt Yf Ya N g0:=λw=>by
 obtain⟨⟨h,gs,d,ks,os⟩,e1,e2⟩:=Option.map_eq_some_iff.mp (ib w);obtain⟨rfl,rfl,rfl,rfl⟩ : h=boot_heap w.params/\gs=Array.mk []/\d=boot_drawn/\ks=boot_toks:=by simpa using e2
 obtain⟨z1,z2,z3⟩ : _/\_/\_:=by simpa only[Prod.mk.injEq]using size w
 obtain⟨s,q1,t2⟩:=my w os;obtain⟨l1,l2,l3⟩ : _/\_/\_:=by simpa only[Good,Prod.mk.injEq]using t2
 have q2:=go_top (congrFun (pre w) os) (piece_block (congrFun (block w) os) q1);have q3:=topRun_mono (N-(a+(b+M))) _ _ _ _ q2;rw[show a+(b+M)+(N-(a+(b+M)))=N by have:=Tx le;omega]at q3;have t:topFrom treeTable p w N ⟨boot_heap w.params,Array.mk [],boot_drawn,boot_toks,os⟩=some s:=by
  unfold topFrom;dsimp only;rw[z1,z2,z3,show topRun treeTable p w 11 ann N ⟨boot_heap w.params,Array.mk [],boot_drawn,boot_toks,os⟩ (topStub p)=some s from q3];show(match staticsOk (importedModules p.main.body) (boot_heap w.params) s.heap&&namesBound p s.heap&&gensDone s&&laidKept (boot_heap w.params) s.heap with|true=>_|false=>_)=_;rw[l1]
 unfold openEnds;rw[e1];show(topFrom treeTable p w N _).map _=_;rw[t];exact ZH some (Prod.ext l2 l3)
end L2.Once
namespace L2
open PySem
def iU(s:Stmt):Arguments:=match s with
 |.FunctionDef _ a _ _ _ _ _ _ _ _=>a
 |_=>{ posonlyargs:=[],args:=[],vararg:=none,kwonlyargs:=[],kw_defaults:=[],kwarg:=none,defaults:=[] }
def fL(s:Stmt):List Stmt:=match s with
 |.FunctionDef _ _ b _ _ _ _ _ _ _=>b
 |_=>[]
def bH(s:Stmt):Scope:=match s with
 |.FunctionDef _ _ _ _ _ _ sc _ _ _=>sc
 |_=>{ kind:=.function,names:=[],isGenerator:=false,isCoroutine:=false }
end L2
namespace K31
open PySem L2
def top(i:Nat):Stmt:=PySem.Challenge.pw_chancehall_k31_whole_mendings_end.main.body.getD i (.Pass ⟨0,0,0,0⟩)
def fU(i j:Nat):Stmt:=match top i with|.ClassDef _ _ _ b _ _ _ _ _ _ _=>b.getD j (.Pass ⟨0,0,0,0⟩)|_=>.Pass ⟨0,0,0,0⟩
end K31
namespace H31
open PySem PySem.W L2 L2.Once K31
noncomputable section
noncomputable abbrev p:Program:=PySem.Challenge.pw_chancehall_k31_whole_mendings_end
noncomputable section
def dR(P:Params)(x:Str)(t m:Nat):DictEntry:=dE P x t (.ref m)
noncomputable def wD(l:List DictEntry)(n:Nat):Obj:=⟨.type "dict",none,.dict ⟨l⟩ n,⟨[]⟩⟩
noncomputable def i3(a b:Nat)(c:Nat)(l:Θ):Θ:=.int a 0::.int b 0::.ref c::l
noncomputable def nd(o:Obj)(l r:BT):BT:=.node o l r
noncomputable def n1(o x:Obj):BT:=.node o (lf x) .nil
noncomputable def wA:Obj:=⟨.type "builtin_function_or_method",none,.fields ⟨[.builtin "type.__prepare__",.type "type"]⟩,⟨[]⟩⟩
noncomputable def wB(n:Nat):Obj:=⟨.type "builtin_function_or_method",none,.fields ⟨[.builtin "object.__init_subclass__",.ref n]⟩,⟨[]⟩⟩
noncomputable def wC(n:Str)(t l r u:Nat):Obj:=⟨.type "code",none,.fields ⟨[.str n t,.str n (t+1),.str "/claim/cut.py" (t+2),.int l 0,.int 0 0,.int 0 0,.int 0 0,.int 0 0,.ref r,.bool false,.int 181 0,.ref (r+1),.none,.none,.none,.none,.int u 0,.int l 0,.str "/claim/cut.py" (u+1)]⟩,⟨[]⟩⟩
noncomputable def wF(c d:Nat)(n:Str)(t:Nat):Obj:=⟨.type "frame",none,.plain,⟨[some (.ref c),some (.ref 3),some (.ref d),none,some (.str n t),none,some (.ref 0)]⟩⟩
noncomputable def wG(t n:Nat):Obj:=⟨.type "getset_descriptor",none,.fields ⟨[.str "__weakref__" t,.ref n,.builtin "ExceptionGroup.__weakref__",.none]⟩,⟨[]⟩⟩
noncomputable def wK(n:Str)(b m:Θ)(d:Nat)(s:Θ)(o:Ω)(t u:Nat)(x:String):Obj:=⟨.type "type",none,.cls ⟨n,b,m,d,n,true,[],s,false,none,false⟩,⟨[o,none,some (.str n t),some (.str n u),some (.builtin x),some (.bool true)]⟩⟩
noncomputable def wS(n:Nat):Obj:=⟨.type "super",none,.fields ⟨[.ref n,.ref n,.ref n]⟩,⟨[]⟩⟩
noncomputable def wT(n:Nat):Obj:=⟨.type "tuple",none,.seq ⟨[.ref n]⟩ 0,⟨[]⟩⟩
noncomputable def fO(n q:Str)(s:Stmt)(m:Value)(c:Nat):Obj:=⟨.type "function",none,.func (fnOf n q (iU s) (fL s) (bH s) .none .none .none m none (.ref c) .none),⟨[]⟩⟩
noncomputable def fT(n q:Str)(s:Stmt):Obj:=⟨.none,none,.func { fnOf n q (iU s) (fL s) (bH s) .none .none .none .none none .none .none with globals:=0,builtins:=0 },⟨[]⟩⟩
def amU(P:Params):Obj:=wD (dE P "__name__" 165 (.str "law_chancehall_k31_whole_mendings_end" 1013)::dE P "__doc__" 166 .none::dE P "__package__" 167 .none::dE P "__loader__" 168 (.builtin "__main__.__loader__#opaque")::dE P "__spec__" 169 .none::dR P "__annotations__" 170 6::dR P "__builtins__" 171 4::dE P "__file__" 173 (.str "/claim/cut.py" 172)::dE P "__cached__" 174 .none::dR P "_wall" 193 21::dR P "HallError" 213 31::dR P "NoNumber" 229 44::dR P "NoName" 245 56::dR P "NoChance" 261 68::dR P "NoShare" 277 80::dR P "NoRoom" 302 99::dR P "NoPlan" 327 118::dR P "is_whole" 336 127::dR P "divisor" 347 134::dR P "NOUGHT" 352 135::dR P "ONE" 355 136::dR P "ratio" 364 143::dR P "is_ratio" 373 150::dR P "plus" 381 157::dR P "minus" 389 164::dR P "times" 397 171::dR P "over" 405 178::dR P "under" 413 185::dR P "level" 421 190::dR P "total" 429 197::dR P "greatest" 438 204::dR P "fits" 448 211::dR P "check_plan" 458 218::dR P "behind_door" 464 223::dR P "raised_look" 474 230::dR P "lowest" 482 235::dR P "row_times" 488 240::dR P "row_plus" 494 245::dR P "take_step" 503 252::dR P "number_at" 511 259::dR P "fractions_of" 517 264::dR P "first_from" 527 271::dR P "go_on" 536 278::dR P "begin_row" 548 285::dR P "clear_column" 560 292::dR P "reduced" 566 297::dR P "width_of" 575 304::dR P "with_rights" 581 309::dR P "begins_of" 587 314::dR P "odd_row" 597 321::dR P "answer_of" 609 328::dR P "single_rows" 615 333::dR P "only_answer" 626 340::dR P "chosen_doors" 634 345::dR P "left_rows" 647 352::dR P "worths_of" 653 357::dR P "better_door" 664 364::dR P "mended" 670 369::dR P "mendings" 680 376::dR P "wait_of" 694 383::dR P "most_mendings" 700 388::dE P "LONGEST_WORD" 704 (.int 8 703)::dR P "is_word" 710 393::dR P "check_head" 720 400::dR P "check_room_name" 727 407::dR P "check_chance" 734 414::dR P "check_pairs" 740 419::dR P "joined_ways" 746 424::dR P "Door" 793 455::dR P "Sure" 820 476::dR P "Mixed" 847 495::dR P "Toss" 875 514::dR P "Even" 897 531::dR P "check_share" 906 540::dR P "numbers_of" 916 547::dR P "numbered_ways" 927 554::dR P "offers_of" 938 561::dR P "Hall" 1012 616::dR P "_law_cell" 1022 627::dR P "_law_stream" 1034 634::dR P "_law_gcd" 1044 641::dR P "_law_ratio" 1053 648::dR P "_law_names" 1059 653::dR P "_law_share" 1068 660::dR P "_law_pay" 1077 667::dR P "_law_door" 1083 672::dR P "_law_doors" 1089 677::dR P "_law_built" 1095 682::dR P "_law_hall" 1101 687::dR P "_law_chosen" 1112 694::dR P "_law_look" 1126 701::dR P "_law_below" 1134 708::dR P "_law_size" 1142 715::dR P "_law_corridor" 1153 722::dR P "_law_rooms" 1161 729::dR P "_law_start" 1167 734::dR P "_law_less" 1175 741::dR P "_law_top" 1184 748::dR P "_law_far" 1190 753::dR P "_law_lacks" 1203 760::[]) 100
def ahE:Obj:=⟨.none,none,.fields ⟨i3 1 0 20 <|i3 5 0 27 <|i3 7 0 40 <|i3 9 0 52 <|i3 11 0 64 <|i3 13 0 76 <|i3 15 0 88 <|i3 20 0 107 <|i3 26 0 126 <|i3 28 0 133 <|i3 39 0 142 <|i3 48 0 149 <|i3 56 0 156 <|i3 58 0 163 <|i3 60 0 170 <|i3 62 0 177 <|i3 64 0 184 <|i3 67 0 189 <|i3 72 0 196 <|i3 75 0 203 <|i3 82 0 210 <|i3 86 0 217 <|i3 93 0 222 <|i3 96 0 229 <|i3 100 0 234 <|i3 105 0 239 <|i3 107 0 244 <|i3 114 0 251 <|i3 123 0 258 <|i3 125 0 263 <|i3 127 0 270 <|i3 132 0 277 <|i3 135 0 284 <|i3 141 0 291 <|i3 146 0 296 <|i3 158 0 303 <|i3 162 0 308 <|i3 164 0 313 <|i3 171 0 320 <|i3 176 0 327 <|i3 181 0 332 <|i3 183 0 339 <|i3 191 0 344 <|i3 193 0 351 <|i3 200 0 356 <|i3 206 0 363 <|i3 211 0 368 <|i3 219 0 375 <|i3 228 0 382 <|i3 239 0 387 <|i3 244 0 392 <|i3 249 0 399 <|i3 254 0 406 <|i3 257 0 413 <|i3 260 0 418 <|i3 266 0 423 <|i3 271 0 430 <|i3 284 0 465 <|i3 290 0 484 <|i3 296 0 503 <|i3 302 0 522 <|i3 307 0 539 <|i3 310 0 546 <|i3 318 0 553 <|i3 325 0 560 <|i3 334 0 567 <|i3 364 0 626 <|i3 366 0 633 <|i3 377 0 640 <|i3 382 0 647 <|i3 385 0 652 <|i3 394 0 659 <|i3 398 0 666 <|i3 406 0 671 <|i3 423 0 676 <|i3 437 0 681 <|i3 447 0 686 <|i3 454 0 693 <|i3 463 0 700 <|i3 473 0 707 <|i3 475 0 714 <|i3 482 0 721 <|i3 488 0 728 <|i3 493 0 733 <|i3 497 0 740 <|i3 499 0 747 <|i3 505 0 752 <|i3 507 0 759 <|[]⟩,⟨[]⟩⟩
def q21:Obj:=fO "_wall" "_wall" (top 0) (.str "__main__" 164) 20
noncomputable def q22:Obj:=⟨.type "tuple",none,.seq ⟨.type "ValueError"::[]⟩ 0,⟨[]⟩⟩
def q23:Obj:=wA
def q24(P:Params):Obj:=wD (dE P "__module__" 203 (.str "chancehall.errors" 194)::dE P "__qualname__" 205 (.str "HallError" 204)::dE P "__firstlineno__" 207 (.int 5 206)::dR P "__static_attributes__" 208 29::[]) 4
def q27:Obj:=wC "HallError" 198 5 25 201
def q28:Obj:=wF 27 24 "chancehall.errors" 194
def q30(P:Params):Obj:=wD (dE P "__module__" 203 (.str "chancehall.errors" 194)::dE P "__firstlineno__" 207 (.int 5 206)::dR P "__static_attributes__" 208 29::dR P "__weakref__" 210 32::dE P "__doc__" 211 .none::[]) 3
def q31:Obj:=wK "HallError" [.type "ValueError"] [.ref 31,.type "ValueError",.type "Exception",.type "BaseException",.type "object"] 30 [.ref 44,.ref 56,.ref 68,.ref 80,.ref 99,.ref 118] (some (.ref 22)) 196 204 "ValueError.__new__"
def q32:Obj:=wG 209 31
def q33:Obj:=wS 31
def q34:Obj:=wB 31
def q35:Obj:=wT 31
def q36:Obj:=wA
def q37(P:Params):Obj:=wD (dE P "__module__" 221 (.str "chancehall.errors" 194)::dE P "__qualname__" 223 (.str "NoNumber" 222)::dE P "__firstlineno__" 225 (.int 7 224)::dR P "__static_attributes__" 226 42::[]) 4
def q40:Obj:=wC "NoNumber" 216 7 38 219
def q41:Obj:=wF 40 37 "chancehall.errors" 194
def q43(P:Params):Obj:=wD (dE P "__module__" 221 (.str "chancehall.errors" 194)::dE P "__firstlineno__" 225 (.int 7 224)::dR P "__static_attributes__" 226 42::dE P "__doc__" 227 .none::[]) 2
def q44:Obj:=wK "NoNumber" [.ref 31] [.ref 44,.ref 31,.type "ValueError",.type "Exception",.type "BaseException",.type "object"] 43 [] (some (.ref 35)) 214 222 "ValueError.__new__"
def q45:Obj:=wS 44
def q46:Obj:=wB 44
def q47:Obj:=wT 31
def q48:Obj:=wA
def q49(P:Params):Obj:=wD (dE P "__module__" 237 (.str "chancehall.errors" 194)::dE P "__qualname__" 239 (.str "NoName" 238)::dE P "__firstlineno__" 241 (.int 9 240)::dR P "__static_attributes__" 242 54::[]) 4
def q52:Obj:=wC "NoName" 232 9 50 235
def q53:Obj:=wF 52 49 "chancehall.errors" 194
def q55(P:Params):Obj:=wD (dE P "__module__" 237 (.str "chancehall.errors" 194)::dE P "__firstlineno__" 241 (.int 9 240)::dR P "__static_attributes__" 242 54::dE P "__doc__" 243 .none::[]) 2
def q56:Obj:=wK "NoName" [.ref 31] [.ref 56,.ref 31,.type "ValueError",.type "Exception",.type "BaseException",.type "object"] 55 [] (some (.ref 47)) 230 238 "ValueError.__new__"
def q57:Obj:=wS 56
def q58:Obj:=wB 56
def q59:Obj:=wT 31
def q60:Obj:=wA
def q61(P:Params):Obj:=wD (dE P "__module__" 253 (.str "chancehall.errors" 194)::dE P "__qualname__" 255 (.str "NoChance" 254)::dE P "__firstlineno__" 257 (.int 11 256)::dR P "__static_attributes__" 258 66::[]) 4
def q64:Obj:=wC "NoChance" 248 11 62 251
def q65:Obj:=wF 64 61 "chancehall.errors" 194
def q67(P:Params):Obj:=wD (dE P "__module__" 253 (.str "chancehall.errors" 194)::dE P "__firstlineno__" 257 (.int 11 256)::dR P "__static_attributes__" 258 66::dE P "__doc__" 259 .none::[]) 2
def q68:Obj:=wK "NoChance" [.ref 31] [.ref 68,.ref 31,.type "ValueError",.type "Exception",.type "BaseException",.type "object"] 67 [] (some (.ref 59)) 246 254 "ValueError.__new__"
def q69:Obj:=wS 68
def q70:Obj:=wB 68
def q71:Obj:=wT 31
def q72:Obj:=wA
def q73(P:Params):Obj:=wD (dE P "__module__" 269 (.str "chancehall.errors" 194)::dE P "__qualname__" 271 (.str "NoShare" 270)::dE P "__firstlineno__" 273 (.int 13 272)::dR P "__static_attributes__" 274 78::[]) 4
def q76:Obj:=wC "NoShare" 264 13 74 267
def q77:Obj:=wF 76 73 "chancehall.errors" 194
def q79(P:Params):Obj:=wD (dE P "__module__" 269 (.str "chancehall.errors" 194)::dE P "__firstlineno__" 273 (.int 13 272)::dR P "__static_attributes__" 274 78::dE P "__doc__" 275 .none::[]) 2
def q80:Obj:=wK "NoShare" [.ref 31] [.ref 80,.ref 31,.type "ValueError",.type "Exception",.type "BaseException",.type "object"] 79 [] (some (.ref 71)) 262 270 "ValueError.__new__"
def q81:Obj:=wS 80
def q82:Obj:=wB 80
def q83:Obj:=wT 31
def q84:Obj:=wA
def q85(P:Params):Obj:=wD (dE P "__module__" 285 (.str "chancehall.errors" 194)::dE P "__qualname__" 287 (.str "NoRoom" 286)::dE P "__firstlineno__" 289 (.int 15 288)::dR P "__init__" 297 96::dR P "__static_attributes__" 299 97::[]) 5
def q87:Obj:=⟨.none,none,.fields ⟨i3 17 4 95 <|[]⟩,⟨[]⟩⟩
def q88:Obj:=wC "NoRoom" 280 15 86 283
def q89:Obj:=wF 88 85 "chancehall.errors" 194
def q95:Obj:=cO "__init__" "NoRoom.__init__" 290 17 2 3 90 295
def q96:Obj:=fO "__init__" "NoRoom.__init__" (fU 7 0) (.str "chancehall.errors" 194) 95
def q98(P:Params):Obj:=wD (dE P "__module__" 285 (.str "chancehall.errors" 194)::dE P "__firstlineno__" 289 (.int 15 288)::dR P "__init__" 297 96::dR P "__static_attributes__" 299 97::dE P "__doc__" 300 .none::[]) 2
def q99:Obj:=wK "NoRoom" [.ref 31] [.ref 99,.ref 31,.type "ValueError",.type "Exception",.type "BaseException",.type "object"] 98 [] (some (.ref 83)) 278 286 "ValueError.__new__"
def amm:Obj:=wS 99
def al5:Obj:=wB 99
def agV:Obj:=wT 31
def ame:Obj:=wA
def anG(P:Params):Obj:=wD (dE P "__module__" 310 (.str "chancehall.errors" 194)::dE P "__qualname__" 312 (.str "NoPlan" 311)::dE P "__firstlineno__" 314 (.int 20 313)::dR P "__init__" 322 115::dR P "__static_attributes__" 324 116::[]) 5
def amY:Obj:=⟨.none,none,.fields ⟨i3 22 4 114 <|[]⟩,⟨[]⟩⟩
def ano:Obj:=wC "NoPlan" 305 20 105 308
def amI:Obj:=wF 107 104 "chancehall.errors" 194
def ajT:Obj:=cO "__init__" "NoPlan.__init__" 315 22 2 3 109 320
def ain:Obj:=fO "__init__" "NoPlan.__init__" (fU 8 0) (.str "chancehall.errors" 194) 114
def ako(P:Params):Obj:=wD (dE P "__module__" 310 (.str "chancehall.errors" 194)::dE P "__firstlineno__" 314 (.int 20 313)::dR P "__init__" 322 115::dR P "__static_attributes__" 324 116::dE P "__doc__" 325 .none::[]) 2
def ahI:Obj:=wK "NoPlan" [.ref 31] [.ref 118,.ref 31,.type "ValueError",.type "Exception",.type "BaseException",.type "object"] 117 [] (some (.ref 102)) 303 311 "ValueError.__new__"
def alB:Obj:=wS 118
def alN:Obj:=wB 118
def agG:Obj:=fO "is_whole" "is_whole" (top 10) (.str "chancehall.wholes" 328) 126
def agX:Obj:=tN 340 ["one","other","left","right","rest"]
def ajo:Obj:=fO "divisor" "divisor" (top 11) (.str "chancehall.wholes" 328) 133
noncomputable def ajX:Obj:=⟨.type "tuple",none,.seq ⟨.int 0 350::.int 1 351::[]⟩ 0,⟨[]⟩⟩
noncomputable def ale:Obj:=⟨.type "tuple",none,.seq ⟨.int 1 353::.int 1 354::[]⟩ 0,⟨[]⟩⟩
def ahp:Obj:=fO "ratio" "ratio" (top 15) (.str "chancehall.ratios" 348) 142
def aip:Obj:=fO "is_ratio" "is_ratio" (top 16) (.str "chancehall.ratios" 348) 149
def ajS:Obj:=fO "plus" "plus" (top 17) (.str "chancehall.ratios" 348) 156
def alb:Obj:=fO "minus" "minus" (top 18) (.str "chancehall.ratios" 348) 163
def ai8:Obj:=fO "times" "times" (top 19) (.str "chancehall.ratios" 348) 170
def ajs:Obj:=fO "over" "over" (top 20) (.str "chancehall.ratios" 348) 177
def ajG:Obj:=fO "under" "under" (top 21) (.str "chancehall.ratios" 348) 184
def ai5:Obj:=fO "level" "level" (top 23) (.str "chancehall.levels" 414) 189
def aiJ:Obj:=fO "total" "total" (top 24) (.str "chancehall.levels" 414) 196
def aju:Obj:=fO "greatest" "greatest" (top 25) (.str "chancehall.levels" 414) 203
def ahh:Obj:=fO "fits" "fits" (top 27) (.str "chancehall.plans" 439) 210
def akN:Obj:=cO "check_plan" "check_plan" 449 86 2 3 212 456
def ahr:Obj:=fO "check_plan" "check_plan" (top 28) (.str "chancehall.plans" 439) 217
def agN:Obj:=cP "behind_door" "behind_door" 459 93 2 3 219 462
def ajw:Obj:=fO "behind_door" "behind_door" (top 29) (.str "chancehall.plans" 439) 222
def aji:Obj:=tN 468 ["hall","offer","leveled","behind"]
def ah9:Obj:=cO "raised_look" "raised_look" 465 96 3 3 224 472
def ahf:Obj:=fO "raised_look" "raised_look" (top 30) (.str "chancehall.plans" 439) 229
def ajm:Obj:=fO "lowest" "lowest" (top 32) (.str "chancehall.papers" 475) 234
def ahL:Obj:=cP "row_times" "row_times" 483 105 2 3 236 486
def agO:Obj:=fO "row_times" "row_times" (top 33) (.str "chancehall.papers" 475) 239
def aha:Obj:=cP "row_plus" "row_plus" 489 107 3 3 241 492
def ahM:Obj:=fO "row_plus" "row_plus" (top 34) (.str "chancehall.papers" 475) 244
def akZ:Obj:=cO "take_step" "take_step" 495 114 2 3 246 501
def ajc:Obj:=fO "take_step" "take_step" (top 35) (.str "chancehall.papers" 475) 251
def alg:Obj:=cO "number_at" "number_at" 504 123 2 3 253 509
def ag5:Obj:=fO "number_at" "number_at" (top 36) (.str "chancehall.papers" 475) 258
def ak1:Obj:=cP "fractions_of" "fractions_of" 512 125 1 3 260 515
def ak4:Obj:=fO "fractions_of" "fractions_of" (top 37) (.str "chancehall.papers" 475) 263
def ahH:Obj:=tN 521 ["leveled","place","column","row"]
def aks:Obj:=cO "first_from" "first_from" 518 127 3 3 265 525
def aja:Obj:=fO "first_from" "first_from" (top 38) (.str "chancehall.papers" 475) 270
def ahG:Obj:=fO "go_on" "go_on" (top 39) (.str "chancehall.papers" 475) 277
def aiA:Obj:=tN 540 ["leveled","steps","place","found","column","first"]
def ajZ:Obj:=cO "begin_row" "begin_row" 537 135 5 3 279 546
def ahq:Obj:=fO "begin_row" "begin_row" (top 40) (.str "chancehall.papers" 475) 284
def agS:Obj:=tN 552 ["leveled","steps","place","column","row","often"]
def aj7:Obj:=cO "clear_column" "clear_column" 549 141 4 3 286 558
def ajy:Obj:=fO "clear_column" "clear_column" (top 41) (.str "chancehall.papers" 475) 291
def agB:Obj:=fO "reduced" "reduced" (top 42) (.str "chancehall.papers" 475) 296
def ahA:Obj:=cO "width_of" "width_of" 569 158 1 3 298 573
def aiU:Obj:=fO "width_of" "width_of" (top 44) (.str "chancehall.solving" 567) 303
def ajf:Obj:=cP "with_rights" "with_rights" 576 162 2 3 305 579
def aj8:Obj:=fO "with_rights" "with_rights" (top 45) (.str "chancehall.solving" 567) 308
def ai3:Obj:=cP "begins_of" "begins_of" 582 164 2 3 310 585
def ah6:Obj:=fO "begins_of" "begins_of" (top 46) (.str "chancehall.solving" 567) 313
def ai6:Obj:=fO "odd_row" "odd_row" (top 47) (.str "chancehall.solving" 567) 320
def akK:Obj:=tN 601 ["end","begins","wide","answer","row","column"]
def akq:Obj:=cO "answer_of" "answer_of" 598 176 3 3 322 607
def ahJ:Obj:=fO "answer_of" "answer_of" (top 48) (.str "chancehall.solving" 567) 327
def aiF:Obj:=cP "single_rows" "single_rows" 610 181 1 3 329 613
def ahk:Obj:=fO "single_rows" "single_rows" (top 49) (.str "chancehall.solving" 567) 332
def ak2:Obj:=tN 619 ["rows","rights","wide","end","begins"]
def ajU:Obj:=cO "only_answer" "only_answer" 616 183 2 3 334 624
def aiO:Obj:=fO "only_answer" "only_answer" (top 50) (.str "chancehall.solving" 567) 339
def ajI:Obj:=cP "chosen_doors" "chosen_doors" 629 191 2 3 341 632
def ajz:Obj:=fO "chosen_doors" "chosen_doors" (top 52) (.str "chancehall.worths" 627) 344
def aif:Obj:=tN 638 ["share","chosen","rows","room","offer","behind","chance"]
def ahc:Obj:=cO "left_rows" "left_rows" 635 193 2 3 346 645
def ah8:Obj:=fO "left_rows" "left_rows" (top 53) (.str "chancehall.worths" 627) 351
def akb:Obj:=cP "worths_of" "worths_of" 648 200 2 3 353 651
def aiQ:Obj:=fO "worths_of" "worths_of" (top 54) (.str "chancehall.worths" 627) 356
def ag6:Obj:=cO "better_door" "better_door" 656 206 2 3 358 662
def ajK:Obj:=fO "better_door" "better_door" (top 56) (.str "chancehall.mending" 654) 363
def agH:Obj:=fO "mended" "mended" (top 57) (.str "chancehall.mending" 654) 368
def ahb:Obj:=cO "mendings" "mendings" 671 219 2 3 370 678
def ak3:Obj:=fO "mendings" "mendings" (top 58) (.str "chancehall.mending" 654) 375
def ajn:Obj:=tN 686 ["hall","top","bottom","many","tops","bottoms"]
def aj0:Obj:=fO "wait_of" "wait_of" (top 60) (.str "chancehall.lacks" 681) 382
def ag8:Obj:=cP "most_mendings" "most_mendings" 695 239 1 3 384 698
def akX:Obj:=fO "most_mendings" "most_mendings" (top 61) (.str "chancehall.lacks" 681) 387
def akc:Obj:=fO "is_word" "is_word" (top 64) (.str "chancehall.words" 701) 392
def ajF:Obj:=cO "check_head" "check_head" 713 249 2 3 394 718
def ahV:Obj:=fO "check_head" "check_head" (top 66) (.str "chancehall.doors" 711) 399
def amG:Obj:=fT "check_room_name" "check_room_name" (top 67)
def ahC:Obj:=cO "check_room_name" "check_room_name" 721 254 1 3 401 725
def ajv:Obj:=fO "check_room_name" "check_room_name" (top 67) (.str "chancehall.doors" 711) 406
def ajH:Obj:=cO "check_chance" "check_chance" 728 257 1 3 408 732
def aki:Obj:=fO "check_chance" "check_chance" (top 68) (.str "chancehall.doors" 711) 413
def ahQ:Obj:=cP "check_pairs" "check_pairs" 735 260 1 3 415 738
def agP:Obj:=fO "check_pairs" "check_pairs" (top 69) (.str "chancehall.doors" 711) 418
def akR:Obj:=cP "joined_ways" "joined_ways" 741 266 1 3 420 744
def ajY:Obj:=fO "joined_ways" "joined_ways" (top 70) (.str "chancehall.doors" 711) 423
def amA:Obj:=wA
def alk(P:Params):Obj:=wD (dE P "__module__" 754 (.str "chancehall.doors" 711)::dE P "__qualname__" 756 (.str "Door" 755)::dE P "__firstlineno__" 758 (.int 271 757)::dR P "__init__" 767 438::dR P "ways" 774 445::dR P "chance_to" 782 452::dR P "__static_attributes__" 786 453::[]) 7
def amL:Obj:=⟨.none,none,.fields ⟨i3 273 4 437 <|i3 279 4 444 <|i3 282 4 451 <|[]⟩,⟨[]⟩⟩
def amF:Obj:=wC "Door" 749 271 428 752
def amD:Obj:=wF 430 427 "chancehall.doors" 711
def akP:Obj:=cO "__init__" "Door.__init__" 759 273 3 3 432 765
def akz:Obj:=fO "__init__" "Door.__init__" (fU 71 0) (.str "chancehall.doors" 711) 437
def agK:Obj:=fO "ways" "Door.ways" (fU 71 1) (.str "chancehall.doors" 711) 444
def ajE:Obj:=cO "chance_to" "Door.chance_to" 775 282 2 3 446 780
def aii:Obj:=fO "chance_to" "Door.chance_to" (fU 71 2) (.str "chancehall.doors" 711) 451
def aiq(P:Params):Obj:=wD (dE P "__module__" 754 (.str "chancehall.doors" 711)::dE P "__firstlineno__" 758 (.int 271 757)::dR P "__init__" 767 438::dR P "ways" 774 445::dR P "chance_to" 782 452::dR P "__static_attributes__" 786 453::dR P "__dict__" 788 456::dR P "__weakref__" 790 457::dE P "__doc__" 791 .none::[]) 4
def agA:Obj:=wK "Door" [.type "object"] [.ref 455,.type "object"] 454 [.ref 476,.ref 495] none 747 755 "object.__new__"
noncomputable def akH:Obj:=⟨.type "getset_descriptor",none,.fields ⟨.str "__dict__" 787::.ref 455::.builtin "function.__dict__"::.builtin "function.__dict__#set"::[]⟩,⟨[]⟩⟩
def aio:Obj:=wG 789 455
def amE:Obj:=wS 455
def alK:Obj:=wB 455
def ajQ:Obj:=wT 455
def ant:Obj:=wA
def al1(P:Params):Obj:=wD (dE P "__module__" 801 (.str "chancehall.doors" 711)::dE P "__qualname__" 803 (.str "Sure" 802)::dE P "__firstlineno__" 805 (.int 284 804)::dR P "__init__" 815 473::dR P "__static_attributes__" 817 474::[]) 5
def alF:Obj:=⟨.none,none,.fields ⟨i3 286 4 472 <|[]⟩,⟨[]⟩⟩
def alL:Obj:=wC "Sure" 796 284 463 799
def amt:Obj:=wF 465 462 "chancehall.doors" 711
def aiE:Obj:=cO "__init__" "Sure.__init__" 806 286 4 3 467 813
def ahv:Obj:=fO "__init__" "Sure.__init__" (fU 72 0) (.str "chancehall.doors" 711) 472
def akL(P:Params):Obj:=wD (dE P "__module__" 801 (.str "chancehall.doors" 711)::dE P "__firstlineno__" 805 (.int 284 804)::dR P "__init__" 815 473::dR P "__static_attributes__" 817 474::dE P "__doc__" 818 .none::[]) 2
def ajj:Obj:=wK "Sure" [.ref 455] [.ref 476,.ref 455,.type "object"] 475 [] (some (.ref 460)) 794 802 "object.__new__"
def ang:Obj:=wS 476
def alH:Obj:=wB 476
def aj9:Obj:=wT 455
def amx:Obj:=wA
def alI(P:Params):Obj:=wD (dE P "__module__" 828 (.str "chancehall.doors" 711)::dE P "__qualname__" 830 (.str "Mixed" 829)::dE P "__firstlineno__" 832 (.int 290 831)::dR P "__init__" 842 492::dR P "__static_attributes__" 844 493::[]) 5
def am4:Obj:=⟨.none,none,.fields ⟨i3 292 4 491 <|[]⟩,⟨[]⟩⟩
def anj:Obj:=wC "Mixed" 823 290 482 826
def alX:Obj:=wF 484 481 "chancehall.doors" 711
def ah3:Obj:=cO "__init__" "Mixed.__init__" 833 292 4 3 486 840
def ajV:Obj:=fO "__init__" "Mixed.__init__" (fU 73 0) (.str "chancehall.doors" 711) 491
def agJ(P:Params):Obj:=wD (dE P "__module__" 828 (.str "chancehall.doors" 711)::dE P "__firstlineno__" 832 (.int 290 831)::dR P "__init__" 842 492::dR P "__static_attributes__" 844 493::dE P "__doc__" 845 .none::[]) 2
def aiT:Obj:=wK "Mixed" [.ref 455] [.ref 495,.ref 455,.type "object"] 494 [.ref 514,.ref 531] (some (.ref 479)) 821 829 "object.__new__"
def al3:Obj:=wS 495
def amQ:Obj:=wB 495
def ahi:Obj:=wT 495
def anc:Obj:=wA
def amu(P:Params):Obj:=wD (dE P "__module__" 855 (.str "chancehall.doors" 711)::dE P "__qualname__" 857 (.str "Toss" 856)::dE P "__firstlineno__" 859 (.int 296 858)::dR P "__init__" 871 511::dR P "__static_attributes__" 872 512::[]) 5
def amj:Obj:=⟨.none,none,.fields ⟨i3 298 4 510 <|[]⟩,⟨[]⟩⟩
def amW:Obj:=wC "Toss" 850 296 501 853
def al2:Obj:=wF 503 500 "chancehall.doors" 711
def ajq:Obj:=tN 863 ["self","name","pay","chance","room","other"]
def ajD:Obj:=cO "__init__" "Toss.__init__" 860 298 6 3 505 869
def ai7:Obj:=fO "__init__" "Toss.__init__" (fU 74 0) (.str "chancehall.doors" 711) 510
def ajd(P:Params):Obj:=wD (dE P "__module__" 855 (.str "chancehall.doors" 711)::dE P "__firstlineno__" 859 (.int 296 858)::dR P "__init__" 871 511::dR P "__static_attributes__" 872 512::dE P "__doc__" 873 .none::[]) 2
def ald:Obj:=wK "Toss" [.ref 495] [.ref 514,.ref 495,.ref 455,.type "object"] 513 [] (some (.ref 498)) 848 856 "object.__new__"
def ams:Obj:=wS 514
def ank:Obj:=wB 514
def ahR:Obj:=wT 495
def aln:Obj:=wA
def alh(P:Params):Obj:=wD (dE P "__module__" 883 (.str "chancehall.doors" 711)::dE P "__qualname__" 885 (.str "Even" 884)::dE P "__firstlineno__" 887 (.int 302 886)::dR P "__init__" 893 528::dR P "__static_attributes__" 894 529::[]) 5
def alD:Obj:=⟨.none,none,.fields ⟨i3 304 4 527 <|[]⟩,⟨[]⟩⟩
def alz:Obj:=wC "Even" 878 302 520 881
def anC:Obj:=wF 522 519 "chancehall.doors" 711
def aiV:Obj:=cP "__init__" "Even.__init__" 888 304 4 3 524 891
def aia:Obj:=fO "__init__" "Even.__init__" (fU 75 0) (.str "chancehall.doors" 711) 527
def akB(P:Params):Obj:=wD (dE P "__module__" 883 (.str "chancehall.doors" 711)::dE P "__firstlineno__" 887 (.int 302 886)::dR P "__init__" 893 528::dR P "__static_attributes__" 894 529::dE P "__doc__" 895 .none::[]) 2
def ak8:Obj:=wK "Even" [.ref 495] [.ref 531,.ref 495,.ref 455,.type "object"] 530 [] (some (.ref 517)) 876 884 "object.__new__"
def als:Obj:=wS 531
def amB:Obj:=wB 531
def aje:Obj:=cO "check_share" "check_share" 900 307 1 3 534 904
def ahZ:Obj:=fO "check_share" "check_share" (top 77) (.str "chancehall.halls" 898) 539
def agY:Obj:=cO "numbers_of" "numbers_of" 907 310 1 3 541 914
def aie:Obj:=fO "numbers_of" "numbers_of" (top 78) (.str "chancehall.halls" 898) 546
def akv:Obj:=tN 920 ["door","numbers","numbered","name","chance"]
def aiK:Obj:=cO "numbered_ways" "numbered_ways" 917 318 2 3 548 925
def ahT:Obj:=fO "numbered_ways" "numbered_ways" (top 79) (.str "chancehall.halls" 898) 553
def ahz:Obj:=tN 931 ["doors","numbers","taken","told","door"]
def ahw:Obj:=cO "offers_of" "offers_of" 928 325 2 3 555 936
def ajN:Obj:=fO "offers_of" "offers_of" (top 80) (.str "chancehall.halls" 898) 560
def amS:Obj:=wA
def amT(P:Params):Obj:=wD (dE P "__module__" 946 (.str "chancehall.halls" 898)::dE P "__qualname__" 948 (.str "Hall" 947)::dE P "__firstlineno__" 950 (.int 334 949)::dR P "__init__" 956 573::dR P "size" 963 580::dR P "names" 970 587::dR P "place" 978 594::dR P "check_room" 986 601::dR P "door_at" 995 608::dR P "offers" 1001 613::dR P "__static_attributes__" 1005 614::[]) 11
def alm:Obj:=⟨.none,none,.fields ⟨i3 336 4 572 <|i3 342 4 579 <|i3 345 4 586 <|i3 348 4 593 <|i3 353 4 600 <|i3 357 4 607 <|i3 360 4 612 <|[]⟩,⟨[]⟩⟩
def anw:Obj:=wC "Hall" 941 334 565 944
def al8:Obj:=wF 567 564 "chancehall.halls" 898
def ahP:Obj:=cP "__init__" "Hall.__init__" 951 336 3 3 569 954
def aiv:Obj:=fO "__init__" "Hall.__init__" (fU 81 0) (.str "chancehall.halls" 898) 572
def aiD:Obj:=fO "size" "Hall.size" (fU 81 1) (.str "chancehall.halls" 898) 579
def akE:Obj:=fO "names" "Hall.names" (fU 81 2) (.str "chancehall.halls" 898) 586
def ahD:Obj:=fO "place" "Hall.place" (fU 81 3) (.str "chancehall.halls" 898) 593
def amH:Obj:=fT "check_room" "Hall.check_room" (fU 81 4)
def ai4:Obj:=cO "check_room" "Hall.check_room" 979 353 2 3 595 984
def akJ:Obj:=fO "check_room" "Hall.check_room" (fU 81 4) (.str "chancehall.halls" 898) 600
def akm:Obj:=cO "door_at" "Hall.door_at" 987 357 3 3 602 993
def akA:Obj:=fO "door_at" "Hall.door_at" (fU 81 5) (.str "chancehall.halls" 898) 607
def akf:Obj:=cP "offers" "Hall.offers" 996 360 2 3 609 999
def ahO:Obj:=fO "offers" "Hall.offers" (fU 81 6) (.str "chancehall.halls" 898) 612
def ag0(P:Params):Obj:=wD (dE P "__module__" 946 (.str "chancehall.halls" 898)::dE P "__firstlineno__" 950 (.int 334 949)::dR P "__init__" 956 573::dR P "size" 963 580::dR P "names" 970 587::dR P "place" 978 594::dR P "check_room" 986 601::dR P "door_at" 995 608::dR P "offers" 1001 613::dR P "__static_attributes__" 1005 614::dR P "__dict__" 1007 617::dR P "__weakref__" 1009 618::dE P "__doc__" 1010 .none::[]) 4
def agF:Obj:=wK "Hall" [.type "object"] [.ref 616,.type "object"] 615 [] none 939 947 "object.__new__"
noncomputable def aj5:Obj:=⟨.type "getset_descriptor",none,.fields ⟨.str "__dict__" 1006::.ref 616::.builtin "function.__dict__"::.builtin "function.__dict__#set"::[]⟩,⟨[]⟩⟩
def aho:Obj:=wG 1008 616
def am6:Obj:=wS 616
def alx:Obj:=wB 616
def ajR:Obj:=cO "_law_cell" "_law_cell" 1015 364 2 3 621 1020
def akQ:Obj:=fO "_law_cell" "_law_cell" (top 83) (.str "law_chancehall_k31_whole_mendings_end" 1013) 626
def aht:Obj:=tN 1026 ["_law_cell_here","_law_many","_law_found","_law_number","_law_digits","_law_k"]
def ajL:Obj:=cO "_law_stream" "_law_stream" 1023 366 2 3 628 1032
def ahg:Obj:=fO "_law_stream" "_law_stream" (top 84) (.str "law_chancehall_k31_whole_mendings_end" 1013) 633
def akp:Obj:=tN 1038 ["_law_one","_law_other","_law_low","_law_high"]
def ah0:Obj:=cO "_law_gcd" "_law_gcd" 1035 377 2 3 635 1042
def agx:Obj:=fO "_law_gcd" "_law_gcd" (top 85) (.str "law_chancehall_k31_whole_mendings_end" 1013) 640
def agU:Obj:=tN 1048 ["_law_top_here","_law_bottom","_law_common"]
def aiB:Obj:=cO "_law_ratio" "_law_ratio" 1045 382 2 3 642 1051
def aiz:Obj:=fO "_law_ratio" "_law_ratio" (top 86) (.str "law_chancehall_k31_whole_mendings_end" 1013) 647
def ak9:Obj:=cP "_law_names" "_law_names" 1054 385 2 3 649 1057
def aiL:Obj:=fO "_law_names" "_law_names" (top 87) (.str "law_chancehall_k31_whole_mendings_end" 1013) 652
def akn:Obj:=tN 1063 ["_law_cell_here","_law_xs","_law_bottom"]
def aik:Obj:=cO "_law_share" "_law_share" 1060 394 1 3 654 1066
def ahj:Obj:=fO "_law_share" "_law_share" (top 88) (.str "law_chancehall_k31_whole_mendings_end" 1013) 659
def ajk:Obj:=tN 1072 ["_law_cell_here","_law_x","_law_y"]
def ajx:Obj:=cO "_law_pay" "_law_pay" 1069 398 3 3 661 1075
def ahX:Obj:=fO "_law_pay" "_law_pay" (top 89) (.str "law_chancehall_k31_whole_mendings_end" 1013) 666
def ahl:Obj:=cP "_law_door" "_law_door" 1078 406 2 3 668 1081
def alc:Obj:=fO "_law_door" "_law_door" (top 90) (.str "law_chancehall_k31_whole_mendings_end" 1013) 671
def akr:Obj:=cP "_law_doors" "_law_doors" 1084 423 4 3 673 1087
def akU:Obj:=fO "_law_doors" "_law_doors" (top 91) (.str "law_chancehall_k31_whole_mendings_end" 1013) 676
def ah4:Obj:=cP "_law_built" "_law_built" 1090 437 3 3 678 1093
def ai2:Obj:=fO "_law_built" "_law_built" (top 92) (.str "law_chancehall_k31_whole_mendings_end" 1013) 681
def ajJ:Obj:=cP "_law_hall" "_law_hall" 1096 447 3 3 683 1099
def ahm:Obj:=fO "_law_hall" "_law_hall" (top 93) (.str "law_chancehall_k31_whole_mendings_end" 1013) 686
def aic:Obj:=tN 1105 ["_law_cell_here","_law_rooms_here","_law_xs","_law_found","_law_k"]
def ahn:Obj:=cO "_law_chosen" "_law_chosen" 1102 454 2 3 688 1110
def alf:Obj:=fO "_law_chosen" "_law_chosen" (top 94) (.str "law_chancehall_k31_whole_mendings_end" 1013) 693
def ajg:Obj:=tN 1116 ["_law_share_here","_law_door_here","_law_worths","_law_top_here","_law_bottom","_law_room","_law_chance","_law_part"]
def ahN:Obj:=cO "_law_look" "_law_look" 1113 463 3 3 695 1124
def akT:Obj:=fO "_law_look" "_law_look" (top 95) (.str "law_chancehall_k31_whole_mendings_end" 1013) 700
def aiR:Obj:=cO "_law_below" "_law_below" 1127 473 2 3 702 1132
def aiI:Obj:=fO "_law_below" "_law_below" (top 96) (.str "law_chancehall_k31_whole_mendings_end" 1013) 707
def ah2:Obj:=cO "_law_size" "_law_size" 1135 475 1 3 709 1140
def agC:Obj:=fO "_law_size" "_law_size" (top 97) (.str "law_chancehall_k31_whole_mendings_end" 1013) 714
def ahS:Obj:=tN 1146 ["_law_cell_here","_law_many","_law_pay_here","_law_found","_law_k"]
def aiZ:Obj:=cO "_law_corridor" "_law_corridor" 1143 482 2 3 716 1151
def agW:Obj:=fO "_law_corridor" "_law_corridor" (top 98) (.str "law_chancehall_k31_whole_mendings_end" 1013) 721
def agE:Obj:=cO "_law_rooms" "_law_rooms" 1154 488 1 3 723 1159
def ajp:Obj:=fO "_law_rooms" "_law_rooms" (top 99) (.str "law_chancehall_k31_whole_mendings_end" 1013) 728
def agM:Obj:=cP "_law_start" "_law_start" 1162 493 2 3 730 1165
def ajb:Obj:=fO "_law_start" "_law_start" (top 100) (.str "law_chancehall_k31_whole_mendings_end" 1013) 733
def ag7:Obj:=cO "_law_less" "_law_less" 1168 497 2 3 735 1173
def aiH:Obj:=fO "_law_less" "_law_less" (top 101) (.str "law_chancehall_k31_whole_mendings_end" 1013) 740
def ak0:Obj:=tN 1179 ["_law_some","_law_best","_law_one"]
def aku:Obj:=cO "_law_top" "_law_top" 1176 499 1 3 742 1182
def ai1:Obj:=fO "_law_top" "_law_top" (top 102) (.str "law_chancehall_k31_whole_mendings_end" 1013) 747
def akg:Obj:=cP "_law_far" "_law_far" 1185 505 2 3 749 1188
def akD:Obj:=fO "_law_far" "_law_far" (top 103) (.str "law_chancehall_k31_whole_mendings_end" 1013) 752
def aiM:Obj:=tN 1194 ["_law_share_here","_law_rooms_here","_law_plan","_law_last","_law_found","_law_k","_law_lack"]
def ait:Obj:=cO "_law_lacks" "_law_lacks" 1191 507 4 3 754 1201
def aiS:Obj:=fO "_law_lacks" "_law_lacks" (top 104) (.str "law_chancehall_k31_whole_mendings_end" 1013) 759
def tr1(P:Params):BT:=nd (boot_o_0 P) (nd (boot_o_1 P) (nd (amU P) (nd (boot_o_7 P) (nd tE (nd q31 (nd fE (nd agG (n1 (tN 507 ["row","column"]) ai7) (n1 aj0 (fT "_law_gcd" "_law_gcd" (top 85)))) (nd tE (n1 (fT "odd_row" "odd_row" (top 47)) fE) (n1 fE fE))) (nd q95 (nd fE (n1 fE (tN 910 ["rooms","numbers","room","name"])) (n1 tE ahl)) (nd ajw (n1 ahc akm) (n1 aj9 tE)))) (nd q47 (nd (q79 P) (nd ahp (n1 aja aiV) (n1 ajF fE)) (nd (tN 444 ["thing","many"]) (n1 fE tE) (n1 tE tE))) (nd (tN 318 ["self","room"]) (nd tE (n1 ahA (fT "offers_of" "offers_of" (top 80))) (n1 amD ahm)) (nd ahL (n1 (fT "mended" "mended" (top 57)) (tN 1018 ["_law_script","_law_k"])) (n1 aiT (fT "_law_far" "_law_far" (top 103))))))) (nd q23 (nd fE (nd q71 (nd ajX (n1 ak1 (alh P)) (n1 (fT "is_word" "is_word" (top 64)) aiB)) (nd fE (n1 akq (tN 967 ["self"])) (n1 agA (tN 1138 ["_law_cell_here","_law_xs"])))) (nd ame (nd (tN 393 ["one","other"]) (n1 (fT "reduced" "reduced" (top 42)) tE) (n1 akR fE)) (nd tE (n1 fE (ag0 P)) (n1 fE fE)))) (nd (q55 P) (nd q87 (nd tE (n1 tE fE) (n1 ajv ajk)) (nd tE (n1 (fT "chosen_doors" "chosen_doors" (top 52)) amH) (n1 (fT "__init__" "Sure.__init__" (fU 72 0)) (fT "_law_rooms" "_law_rooms" (top 99))))) (nd alB (nd (fT "under" "under" (top 21)) (n1 fE anw) (n1 tE tE)) (nd fE (n1 ahb tE) (n1 amW ait)))))) (nd o11 (nd (fT "_wall" "_wall" (top 0)) (nd q35 (nd (q67 P) (nd tE (n1 ag5 ams) (n1 ag8 fE)) (nd (fT "total" "total" (top 24)) (n1 fE (cO "size" "Hall.size" 957 342 1 3 574 961)) (n1 ajE aiR))) (nd q99 (nd (cO "minus" "minus" 382 58 2 3 158 387) (n1 aj7 aie) (n1 agP (fT "_law_doors" "_law_doors" (top 91)))) (nd tE (n1 (fT "worths_of" "worths_of" (top 54)) (fT "offers" "Hall.offers" (fU 81 6))) (n1 am4 (fT "_law_less" "_law_less" (top 101)))))) (nd fE (nd q83 (nd tE (n1 tE ak8) (n1 (tN 724 ["room"]) aik)) (nd ahh (n1 ajU tE) (n1 tE tE))) (nd ain (nd tE (n1 (fT "with_rights" "with_rights" (top 45)) amS) (n1 tE tE)) (nd (fT "row_plus" "row_plus" (top 34)) (n1 fE akQ) (n1 anc fE))))) (nd q27 (nd (q43 P) (nd fE (nd (tN 359 ["top","bottom","common"]) (n1 ahH anC) (n1 fE (fT "_law_names" "_law_names" (top 87)))) (nd (cO "greatest" "greatest" 430 75 1 3 198 436) (n1 (fT "single_rows" "single_rows" (top 49)) akE) (n1 alK agC))) (nd ano (nd ai8 (n1 fE tE) (n1 (alk P) tE)) (nd ajm (n1 ag6 am6) (n1 ah3 aku)))) (nd q59 (nd fE (nd (fT "plus" "plus" (top 17)) (n1 (fT "begin_row" "begin_row" (top 40)) aje) (n1 tE ahX)) (nd tE (n1 fE fE) (n1 (akL P) fE))) (nd (tN 333 ["thing"]) (nd fE (n1 tE (fT "__init__" "Hall.__init__" (fU 81 0))) (n1 (fT "ways" "Door.ways" (fU 71 1)) (fT "_law_look" "_law_look" (top 95)))) (nd akZ (n1 ajn tE) (lf ajq))))))) (nd (boot_o_5 P) (nd (boot_o_9 P) (nd (tN 190 ["k"]) (nd q33 (nd q65 (nd fE (n1 (fT "number_at" "number_at" (top 36)) (ajd P)) (n1 fE agx)) (nd (tN 425 ["fractions","leveled"]) (n1 ai6 tE) (n1 tE tE))) (nd (tN 298 ["room"]) (nd tE (n1 tE (fT "numbers_of" "numbers_of" (top 78))) (n1 (fT "check_pairs" "check_pairs" (top 69)) tE)) (nd fE (n1 tE tE) (n1 (alI P) (tN 1171 ["_law_one","_law_other"]))))) (nd (q49 P) (nd q81 (nd fE (n1 fE tE) (n1 tE tE)) (nd (fT "fits" "fits" (top 27)) (n1 tE (cO "place" "Hall.place" 971 348 2 3 588 976)) (n1 alL aiZ))) (nd (fT "__init__" "NoPlan.__init__" (fU 8 0)) (nd (cO "over" "over" 398 62 2 3 172 403) (n1 tE ajN) (n1 fE fE)) (nd tE (n1 agH (fT "_law_cell" "_law_cell" (top 83))) (n1 amQ akD))))) (nd tE (nd q41 (nd (q73 P) (nd tE (n1 tE alD) (n1 akc tE)) (nd tE (n1 tE (fT "names" "Hall.names" (fU 81 2))) (n1 aio (fT "_law_size" "_law_size" (top 97))))) (nd tE (nd (fT "times" "times" (top 19)) (n1 agB aiK) (n1 tE ah4)) (nd (fT "lowest" "lowest" (top 32)) (n1 tE aj5) (n1 tE tE)))) (nd q57 (nd q89 (nd (tN 377 ["one","other"]) (n1 aiA tE) (n1 fE (fT "_law_pay" "_law_pay" (top 89)))) (nd akN (n1 ajz akJ) (n1 ahv ajp))) (nd tE (nd ajG (n1 ai3 tE) (n1 (tN 771 ["self"]) ajg)) (nd tE (n1 tE ajL) (lf tE)))))) (nd o13 (nd q21 (nd (q37 P) (nd q69 (nd (cO "divisor" "divisor" 337 28 2 3 128 345) (n1 fE ahR) (n1 tE tE)) (nd aiJ (n1 tE tE) (n1 (tN 783 ["leads","name","pay"]) tE))) (nd al5 (nd tE (n1 tE fE) (n1 fE akU)) (nd ah9 (n1 aiQ ahO) (n1 alX aiH)))) (nd q53 (nd (q85 P) (nd (cO "is_ratio" "is_ratio" 365 48 1 3 144 371) (n1 (cO "go_on" "go_on" 528 132 3 3 272 534) amB) (n1 amG tE)) (nd fE (n1 tE (tN 982 ["self","room"])) (n1 (tN 809 ["self","name","pay","room"]) (tN 1157 ["_law_script","_law_xs"])))) (nd (ako P) (nd (tN 409 ["one","other"]) (n1 aj8 tE) (n1 akP ahn)) (nd ahM (n1 tE fE) (n1 tE tE))))) (nd tE (nd q45 (nd q77 (nd (fT "ratio" "ratio" (top 15)) (n1 (fT "first_from" "first_from" (top 38)) fE) (n1 tE aiL)) (nd tE (n1 ahk fE) (n1 ant fE))) (nd tE (nd fE (n1 tE ahz) (n1 amL (fT "_law_hall" "_law_hall" (top 93)))) (nd fE (n1 tE tE) (n1 (tN 843 ["leads"]) tE)))) (nd (q61 P) (nd tE (nd ajS (n1 ahq tE) (n1 ajH fE)) (nd (fT "behind_door" "behind_door" (top 29)) (n1 tE tE) (n1 ang agM))) (nd (fT "is_whole" "is_whole" (top 10)) (nd (cP "level" "level" 416 67 1 3 186 419) (n1 (tN 591 ["end","begins","wide","row"]) aiv) (n1 agK akT)) (nd tE (n1 (fT "wait_of" "wait_of" (top 60)) akp) (lf (fT "__init__" "Toss.__init__" (fU 74 0)))))))))) (nd (boot_o_2 P) (nd (boot_o_4 P) (nd (boot_o_8 P) (nd fE (nd q32 (nd q64 (nd tE (n1 tE tE) (n1 tE ah0)) (nd fE (n1 (cO "odd_row" "odd_row" 588 171 3 3 315 595) (tN 960 ["self"])) (n1 (tN 778 ["self","room"]) (tN 1130 ["_law_one","_law_other"])))) (nd q96 (nd (tN 385 ["one","other"]) (n1 agS tE) (n1 fE alc)) (nd tE (n1 ah8 akA) (n1 amx fE)))) (nd q48 (nd q80 (nd tE (n1 tE aia) (n1 ahV akn)) (nd tE (n1 ak2 (fT "place" "Hall.place" (fU 81 3))) (n1 alF (fT "_law_corridor" "_law_corridor" (top 98))))) (nd tE (nd (fT "over" "over" (top 20)) (n1 aiU ahw) (n1 tE tE)) (nd agO (n1 (cP "mended" "mended" 665 211 3 3 365 668) tE) (n1 al3 akg))))) (nd (q24 P) (nd q40 (nd q72 (nd ale (n1 ak4 tE) (n1 (cP "is_word" "is_word" 705 244 1 3 389 708) aiz)) (nd (tN 433 ["fractions","found","one"]) (n1 ahJ tE) (n1 akH tE))) (nd (anG P) (nd tE (n1 (cP "reduced" "reduced" 561 146 2 3 293 564) (fT "numbered_ways" "numbered_ways" (top 79))) (n1 ajY (fT "_law_built" "_law_built" (top 92)))) (nd fE (n1 (tN 659 ["seen","door","most"]) agF) (n1 (tN 836 ["self","name","pay","pairs"]) ak0)))) (nd q56 (nd q88 (nd fE (n1 fE (tN 903 ["share"])) (n1 tE tE)) (nd (fT "check_plan" "check_plan" (top 28)) (n1 ajI ai4) (n1 aiE agE))) (nd alN (nd (cO "under" "under" 406 64 2 3 179 411) (n1 (fT "begins_of" "begins_of" (top 46)) al8) (n1 fE fE)) (nd (tN 498 ["leveled","step","row"]) (n1 ak3 (fT "_law_stream" "_law_stream" (top 84))) (n1 al2 aiS)))))) (nd ahE (nd (cO "_wall" "_wall" 187 1 1 3 15 191) (nd q36 (nd q68 (nd (fT "divisor" "divisor" (top 11)) (n1 tE ank) (n1 akX agU)) (nd (cO "total" "total" 422 72 1 3 191 427) (n1 akK aiD) (n1 aii aiI))) (nd amm (nd alb (n1 ajy tE) (n1 tE akr)) (nd (fT "raised_look" "raised_look" (top 30)) (n1 akb akf) (n1 anj ag7)))) (nd q52 (nd q84 (nd (fT "is_ratio" "is_ratio" (top 16)) (n1 (fT "go_on" "go_on" (top 39)) als) (n1 tE ahj)) (nd tE (n1 aiO fE) (n1 fE fE))) (nd (tN 323 ["room"]) (nd fE (n1 ajf (amT P)) (n1 (fT "__init__" "Door.__init__" (fU 71 0)) (fT "_law_chosen" "_law_chosen" (top 94)))) (nd aha (n1 (tN 674 ["hall","plan","told","coming"]) tE) (n1 (amu P) aiM))))) (nd q28 (nd q44 (nd q76 (nd tE (n1 tE tE) (n1 (tN 716 ["name","pay"]) ak9)) (nd aju (n1 aiF tE) (n1 ajQ tE))) (nd amI (nd tE (n1 (tN 572 ["rows"]) fE) (n1 tE fE)) (nd tE (n1 ajK alx) (n1 ajV ai1)))) (nd q60 (nd (tN 293 ["self","room"]) (nd (cO "plus" "plus" 374 56 2 3 151 379) (n1 ajZ ahZ) (n1 (fT "check_chance" "check_chance" (top 68)) tE)) (nd fE (n1 aif (tN 990 ["self","room","name"])) (n1 ajj (fT "_law_start" "_law_start" (top 100))))) (nd tE (nd (fT "level" "level" (top 23)) (n1 fE ahP) (n1 (cO "ways" "Door.ways" 768 279 1 3 439 772) ahN)) (nd ajc (n1 tE fE) (lf tE))))))) (nd (boot_o_6 P) (nd (boot_o_10 P) (nd tE (nd q34 (nd tE (nd agX (n1 alg ald) (n1 (fT "most_mendings" "most_mendings" (top 61)) tE)) (nd tE (n1 tE (fT "size" "Hall.size" (fU 81 1))) (n1 (fT "chance_to" "Door.chance_to" (fU 71 2)) (fT "_law_below" "_law_below" (top 96))))) (nd (q98 P) (nd (fT "minus" "minus" (top 18)) (n1 (fT "clear_column" "clear_column" (top 41)) agY) (n1 ahQ fE)) (nd aji (n1 fE fE) (n1 tE tE)))) (nd tE (nd q82 (nd (tN 368 ["thing","top","bottom"]) (n1 (tN 531 ["leveled","steps","step"]) (akB P)) (n1 fE (fT "_law_share" "_law_share" (top 88)))) (nd (cO "fits" "fits" 441 82 2 3 205 446) (n1 (fT "only_answer" "only_answer" (top 50)) ahD) (n1 amt agW))) (nd ajT (nd ajs (n1 fE tE) (n1 (tN 762 ["self","name","pay"]) aic)) (nd fE (n1 tE ajR) (n1 ahi tE))))) (nd fE (nd tE (nd tE (nd fE (n1 fE alz) (n1 tE fE)) (nd (fT "greatest" "greatest" (top 25)) (n1 fE (cO "names" "Hall.names" 964 345 1 3 581 968)) (n1 amE ah2))) (nd amY (nd (cO "times" "times" 390 60 2 3 165 395) (n1 tE ahT) (n1 amA ai2)) (nd (cP "lowest" "lowest" 477 100 2 3 231 480) (n1 (fT "better_door" "better_door" (top 56)) aho) (n1 (fT "__init__" "Mixed.__init__" (fU 73 0)) (fT "_law_top" "_law_top" (top 102)))))) (nd q58 (nd tE (nd tE (n1 tE (fT "check_share" "check_share" (top 77))) (n1 (tN 731 ["chance"]) ajx)) (nd ahr (n1 tE tE) (n1 (tN 816 ["leads"]) tE))) (nd fE (nd tE (n1 ah6 fE) (n1 tE tE)) (nd (fT "take_step" "take_step" (top 35)) (n1 fE ahg) (lf fE)))))) (nd o14 (nd q22 (nd tE (nd q70 (nd ajo (n1 (fT "fractions_of" "fractions_of" (top 37)) aln) (n1 fE (fT "_law_ratio" "_law_ratio" (top 86)))) (nd tE (n1 (fT "answer_of" "answer_of" (top 48)) fE) (n1 (aiq P) fE))) (nd agV (nd fE (n1 fE akv) (n1 (fT "joined_ways" "joined_ways" (top 70)) tE)) (nd ahf (n1 tE (tN 1002 ["numbers","offered","share"])) (n1 tE tE)))) (nd tE (nd tE (nd aip (n1 ahG tE) (n1 ahC fE)) (nd (tN 452 ["hall","plan","room","thing"]) (n1 fE tE) (n1 tE tE))) (nd ahI (nd tE (n1 tE alm) (n1 akz alf)) (nd tE (n1 (fT "mendings" "mendings" (top 58)) aht) (n1 amj (fT "_law_lacks" "_law_lacks" (top 104))))))) (nd (q30 P) (nd q46 (nd tE (nd (cO "ratio" "ratio" 356 39 2 3 137 362) (n1 aks (fT "__init__" "Even.__init__" (fU 75 0))) (n1 (fT "check_head" "check_head" (top 66)) tE)) (nd fE (n1 tE (tN 974 ["self","name"])) (n1 (al1 P) ahS))) (nd fE (nd (tN 401 ["one","other"]) (n1 (fT "width_of" "width_of" (top 44)) tE) (n1 amF ajJ)) (nd (fT "row_times" "row_times" (top 33)) (n1 fE fE) (n1 (agJ P) fE)))) (nd tE (nd (fT "__init__" "NoRoom.__init__" (fU 7 0)) (nd tE (n1 tE fE) (n1 aki (fT "_law_door" "_law_door" (top 90)))) (nd agN (n1 (fT "left_rows" "left_rows" (top 53)) (fT "door_at" "Hall.door_at" (fU 81 5))) (n1 alH ajb))) (nd (cO "is_whole" "is_whole" 330 26 1 3 121 334) (nd ai5 (n1 tE tE) (n1 tE tE)) (nd fE (n1 (cO "wait_of" "wait_of" 683 228 1 3 377 692) tE) (lf ajD))))))))
def S1(w:World)(os:OsState):SharedT:=⟨tr1 w.params,761,{},⟨[]⟩,{},1204,os⟩
noncomputable def e1:Pos:=⟨507,0,514,21⟩
def KH:Params->Frag:=λP=>(
 (nat_lit 2,boot_o_2 P)::(nat_lit 3,wD (dE P "__name__" 165 (.str "law_chancehall_k31_whole_mendings_end" 1013)::dE P "__doc__" 166 .none::dE P "__package__" 167 .none::dE P "__loader__" 168 (.builtin "__main__.__loader__#opaque")::dE P "__spec__" 169 .none::dR P "__annotations__" 170 6::dR P "__builtins__" 171 4::dE P "__file__" 173 (.str "/claim/cut.py" 172)::dE P "__cached__" 174 .none::dR P "_wall" 193 21::dR P "HallError" 213 31::dR P "NoNumber" 229 44::dR P "NoName" 245 56::dR P "NoChance" 261 68::dR P "NoShare" 277 80::dR P "NoRoom" 302 99::dR P "NoPlan" 327 118::dR P "is_whole" 336 127::dR P "divisor" 347 134::dR P "NOUGHT" 352 135::dR P "ONE" 355 136::dR P "ratio" 364 143::dR P "is_ratio" 373 150::dR P "plus" 381 157::dR P "minus" 389 164::dR P "times" 397 171::dR P "over" 405 178::dR P "under" 413 185::dR P "level" 421 190::dR P "total" 429 197::dR P "greatest" 438 204::dR P "fits" 448 211::dR P "check_plan" 458 218::dR P "behind_door" 464 223::dR P "raised_look" 474 230::dR P "lowest" 482 235::dR P "row_times" 488 240::dR P "row_plus" 494 245::dR P "take_step" 503 252::dR P "number_at" 511 259::dR P "fractions_of" 517 264::dR P "first_from" 527 271::dR P "go_on" 536 278::dR P "begin_row" 548 285::dR P "clear_column" 560 292::dR P "reduced" 566 297::dR P "width_of" 575 304::dR P "with_rights" 581 309::dR P "begins_of" 587 314::dR P "odd_row" 597 321::dR P "answer_of" 609 328::dR P "single_rows" 615 333::dR P "only_answer" 626 340::dR P "chosen_doors" 634 345::dR P "left_rows" 647 352::dR P "worths_of" 653 357::dR P "better_door" 664 364::dR P "mended" 670 369::dR P "mendings" 680 376::dR P "wait_of" 694 383::dR P "most_mendings" 700 388::dE P "LONGEST_WORD" 704 (.int 8 703)::dR P "is_word" 710 393::dR P "check_head" 720 400::dR P "check_room_name" 727 407::dR P "check_chance" 734 414::dR P "check_pairs" 740 419::dR P "joined_ways" 746 424::dR P "Door" 793 455::dR P "Sure" 820 476::dR P "Mixed" 847 495::dR P "Toss" 875 514::dR P "Even" 897 531::dR P "check_share" 906 540::dR P "numbers_of" 916 547::dR P "numbered_ways" 927 554::dR P "offers_of" 938 561::dR P "Hall" 1012 616::dR P "_law_cell" 1022 627::dR P "_law_stream" 1034 634::dR P "_law_gcd" 1044 641::dR P "_law_ratio" 1053 648::dR P "_law_names" 1059 653::dR P "_law_share" 1068 660::dR P "_law_pay" 1077 667::dR P "_law_door" 1083 672::dR P "_law_doors" 1089 677::dR P "_law_built" 1095 682::dR P "_law_hall" 1101 687::dR P "_law_chosen" 1112 694::dR P "_law_look" 1126 701::dR P "_law_below" 1134 708::dR P "_law_size" 1142 715::dR P "_law_corridor" 1153 722::dR P "_law_rooms" 1161 729::dR P "_law_start" 1167 734::dR P "_law_less" 1175 741::dR P "_law_top" 1184 748::dR P "_law_far" 1190 753::dR P "_law_lacks" 1203 760::dR P "_law_gone" 1219 767::dR P "law" 1236 774::[]) 102)::(nat_lit 15,tE)::(nat_lit 17,tN 190 ["k"])::(nat_lit 18,tE)::(nat_lit 20,cO "_wall" "_wall" 187 1 1 3 15 191)::(nat_lit 21,q21)::(nat_lit 22,q22)::(nat_lit 29,tE)::(nat_lit 30,q30 P)::(nat_lit 31,q31)::(nat_lit 32,q32)::(nat_lit 35,q35)::(nat_lit 42,tE)::(nat_lit 43,q43 P)::(nat_lit 44,q44)::(nat_lit 47,q47)::(nat_lit 54,tE)::(nat_lit 55,q55 P)::(nat_lit 56,q56)::(nat_lit 59,q59)::(nat_lit 66,tE)::(nat_lit 67,q67 P)::(nat_lit 68,q68)::(nat_lit 71,q71)::(nat_lit 78,tE)::(nat_lit 79,q79 P)::(nat_lit 80,q80)::(nat_lit 83,q83)::(nat_lit 90,tE)::(nat_lit 92,tN 293 ["self","room"])::(nat_lit 93,tE)::(nat_lit 95,q95)::(nat_lit 96,q96)::(nat_lit 97,tN 298 ["room"])::(nat_lit 98,q98 P)::(nat_lit 99,q99)::(nat_lit 102,agV)::(nat_lit 109,tE)::(nat_lit 111,tN 318 ["self","room"])::(nat_lit 112,tE)::(nat_lit 114,ajT)::(nat_lit 115,ain)::(nat_lit 116,tN 323 ["room"])::(nat_lit 117,ako P)::(nat_lit 118,ahI)::(nat_lit 121,tE)::(nat_lit 123,tN 333 ["thing"])::(nat_lit 124,tE)::(nat_lit 126,cO "is_whole" "is_whole" 330 26 1 3 121 334)::(nat_lit 127,agG)::(nat_lit 128,tE)::(nat_lit 130,agX)::(nat_lit 131,tE)::(nat_lit 133,cO "divisor" "divisor" 337 28 2 3 128 345)::(nat_lit 134,ajo)::(nat_lit 135,ajX)::(nat_lit 136,ale)::(nat_lit 137,tE)::(nat_lit 139,tN 359 ["top","bottom","common"])::(nat_lit 140,tE)::(nat_lit 142,cO "ratio" "ratio" 356 39 2 3 137 362)::(nat_lit 143,ahp)::(nat_lit 144,tE)::(nat_lit 146,tN 368 ["thing","top","bottom"])::(nat_lit 147,tE)::(nat_lit 149,cO "is_ratio" "is_ratio" 365 48 1 3 144 371)::(nat_lit 150,aip)::(nat_lit 151,tE)::(nat_lit 153,tN 377 ["one","other"])::(nat_lit 154,tE)::(nat_lit 156,cO "plus" "plus" 374 56 2 3 151 379)::(nat_lit 157,ajS)::(nat_lit 158,tE)::(nat_lit 160,tN 385 ["one","other"])::(nat_lit 161,tE)::(nat_lit 163,cO "minus" "minus" 382 58 2 3 158 387)::(nat_lit 164,alb)::(nat_lit 165,tE)::(nat_lit 167,tN 393 ["one","other"])::(nat_lit 168,tE)::(nat_lit 170,cO "times" "times" 390 60 2 3 165 395)::(nat_lit 171,ai8)::(nat_lit 172,tE)::(nat_lit 174,tN 401 ["one","other"])::(nat_lit 175,tE)::(nat_lit 177,cO "over" "over" 398 62 2 3 172 403)::(nat_lit 178,ajs)::(nat_lit 179,tE)::(nat_lit 181,tN 409 ["one","other"])::(nat_lit 182,tE)::(nat_lit 184,cO "under" "under" 406 64 2 3 179 411)::(nat_lit 185,ajG)::(nat_lit 186,tE)::(nat_lit 189,cP "level" "level" 416 67 1 3 186 419)::(nat_lit 190,ai5)::(nat_lit 191,tE)::(nat_lit 193,tN 425 ["fractions","leveled"])::(nat_lit 194,tE)::(nat_lit 196,cO "total" "total" 422 72 1 3 191 427)::(nat_lit 197,aiJ)::(nat_lit 198,tE)::(nat_lit 200,tN 433 ["fractions","found","one"])::(nat_lit 201,tE)::(nat_lit 203,cO "greatest" "greatest" 430 75 1 3 198 436)::(nat_lit 204,aju)::(nat_lit 205,tE)::(nat_lit 207,tN 444 ["thing","many"])::(nat_lit 208,tE)::(nat_lit 210,cO "fits" "fits" 441 82 2 3 205 446)::(nat_lit 211,ahh)::(nat_lit 212,tE)::(nat_lit 214,tN 452 ["hall","plan","room","thing"])::(nat_lit 215,tE)::(nat_lit 217,akN)::(nat_lit 218,ahr)::(nat_lit 219,tE)::(nat_lit 222,agN)::(nat_lit 223,ajw)::(nat_lit 224,tE)::(nat_lit 226,aji)::(nat_lit 227,tE)::(nat_lit 229,ah9)::(nat_lit 230,ahf)::(nat_lit 231,tE)::(nat_lit 234,cP "lowest" "lowest" 477 100 2 3 231 480)::(nat_lit 235,ajm)::(nat_lit 236,tE)::(nat_lit 239,ahL)::(nat_lit 240,agO)::(nat_lit 241,tE)::(nat_lit 244,aha)::(nat_lit 245,ahM)::(nat_lit 246,tE)::(nat_lit 248,tN 498 ["leveled","step","row"])::(nat_lit 249,tE)::(nat_lit 251,akZ)::(nat_lit 252,ajc)::(nat_lit 253,tE)::(nat_lit 255,tN 507 ["row","column"])::(nat_lit 256,tE)::(nat_lit 258,alg)::(nat_lit 259,ag5)::(nat_lit 260,tE)::(nat_lit 263,ak1)::(nat_lit 264,ak4)::(nat_lit 265,tE)::(nat_lit 267,ahH)::(nat_lit 268,tE)::(nat_lit 270,aks)::(nat_lit 271,aja)::(nat_lit 272,tE)::(nat_lit 274,tN 531 ["leveled","steps","step"])::(nat_lit 275,tE)::(nat_lit 277,cO "go_on" "go_on" 528 132 3 3 272 534)::(nat_lit 278,ahG)::(nat_lit 279,tE)::(nat_lit 281,aiA)::(nat_lit 282,tE)::(nat_lit 284,ajZ)::(nat_lit 285,ahq)::(nat_lit 286,tE)::(nat_lit 288,agS)::(nat_lit 289,tE)::(nat_lit 291,aj7)::(nat_lit 292,ajy)::(nat_lit 293,tE)::(nat_lit 296,cP "reduced" "reduced" 561 146 2 3 293 564)::(nat_lit 297,agB)::(nat_lit 298,tE)::(nat_lit 300,tN 572 ["rows"])::(nat_lit 301,tE)::(nat_lit 303,ahA)::(nat_lit 304,aiU)::(nat_lit 305,tE)::(nat_lit 308,ajf)::(nat_lit 309,aj8)::(nat_lit 310,tE)::(nat_lit 313,ai3)::(nat_lit 314,ah6)::(nat_lit 315,tE)::(nat_lit 317,tN 591 ["end","begins","wide","row"])::(nat_lit 318,tE)::(nat_lit 320,cO "odd_row" "odd_row" 588 171 3 3 315 595)::(nat_lit 321,ai6)::(nat_lit 322,tE)::(nat_lit 324,akK)::(nat_lit 325,tE)::(nat_lit 327,akq)::(nat_lit 328,ahJ)::(nat_lit 329,tE)::(nat_lit 332,aiF)::(nat_lit 333,ahk)::(nat_lit 334,tE)::(nat_lit 336,ak2)::(nat_lit 337,tE)::(nat_lit 339,ajU)::(nat_lit 340,aiO)::(nat_lit 341,tE)::(nat_lit 344,ajI)::(nat_lit 345,ajz)::(nat_lit 346,tE)::(nat_lit 348,aif)::(nat_lit 349,tE)::(nat_lit 351,ahc)::(nat_lit 352,ah8)::(nat_lit 353,tE)::(nat_lit 356,akb)::(nat_lit 357,aiQ)::(nat_lit 358,tE)::(nat_lit 360,tN 659 ["seen","door","most"])::(nat_lit 361,tE)::(nat_lit 363,ag6)::(nat_lit 364,ajK)::(nat_lit 365,tE)::(nat_lit 368,cP "mended" "mended" 665 211 3 3 365 668)::(nat_lit 369,agH)::(nat_lit 370,tE)::(nat_lit 372,tN 674 ["hall","plan","told","coming"])::(nat_lit 373,tE)::(nat_lit 375,ahb)::(nat_lit 376,ak3)::(nat_lit 377,tE)::(nat_lit 379,ajn)::(nat_lit 380,tE)::(nat_lit 382,cO "wait_of" "wait_of" 683 228 1 3 377 692)::(nat_lit 383,aj0)::(nat_lit 384,tE)::(nat_lit 387,ag8)::(nat_lit 388,akX)::(nat_lit 389,tE)::(nat_lit 392,cP "is_word" "is_word" 705 244 1 3 389 708)::(nat_lit 393,akc)::(nat_lit 394,tE)::(nat_lit 396,tN 716 ["name","pay"])::(nat_lit 397,tE)::(nat_lit 399,ajF)::(nat_lit 400,ahV)::(nat_lit 401,tE)::(nat_lit 403,tN 724 ["room"])::(nat_lit 404,tE)::(nat_lit 406,ahC)::(nat_lit 407,ajv)::(nat_lit 408,tE)::(nat_lit 410,tN 731 ["chance"])::(nat_lit 411,tE)::(nat_lit 413,ajH)::(nat_lit 414,aki)::(nat_lit 415,tE)::(nat_lit 418,ahQ)::(nat_lit 419,agP)::(nat_lit 420,tE)::(nat_lit 423,akR)::(nat_lit 424,ajY)::(nat_lit 432,tE)::(nat_lit 434,tN 762 ["self","name","pay"])::(nat_lit 435,tE)::(nat_lit 437,akP)::(nat_lit 438,akz)::(nat_lit 439,tE)::(nat_lit 441,tN 771 ["self"])::(nat_lit 442,tE)::(nat_lit 444,cO "ways" "Door.ways" 768 279 1 3 439 772)::(nat_lit 445,agK)::(nat_lit 446,tE)::(nat_lit 448,tN 778 ["self","room"])::(nat_lit 449,tE)::(nat_lit 451,ajE)::(nat_lit 452,aii)::(nat_lit 453,tN 783 ["leads","name","pay"])::(nat_lit 454,aiq P)::(nat_lit 455,agA)::(nat_lit 456,akH)::(nat_lit 457,aio)::(nat_lit 460,ajQ)::(nat_lit 467,tE)::(nat_lit 469,tN 809 ["self","name","pay","room"])::(nat_lit 470,tE)::(nat_lit 472,aiE)::(nat_lit 473,ahv)::(nat_lit 474,tN 816 ["leads"])::(nat_lit 475,akL P)::(nat_lit 476,ajj)::(nat_lit 479,aj9)::(nat_lit 486,tE)::(nat_lit 488,tN 836 ["self","name","pay","pairs"])::(nat_lit 489,tE)::(nat_lit 491,ah3)::(nat_lit 492,ajV)::(nat_lit 493,tN 843 ["leads"])::(nat_lit 494,agJ P)::(nat_lit 495,aiT)::(nat_lit 498,ahi)::(nat_lit 505,tE)::(nat_lit 507,ajq)::(nat_lit 508,tE)::(nat_lit 510,ajD)::(nat_lit 511,ai7)::(nat_lit 512,tE)::(nat_lit 513,ajd P)::(nat_lit 514,ald)::(nat_lit 517,ahR)::(nat_lit 524,tE)::(nat_lit 527,aiV)::(nat_lit 528,aia)::(nat_lit 529,tE)::(nat_lit 530,akB P)::(nat_lit 531,ak8)::(nat_lit 534,tE)::(nat_lit 536,tN 903 ["share"])::(nat_lit 537,tE)::(nat_lit 539,aje)::(nat_lit 540,ahZ)::(nat_lit 541,tE)::(nat_lit 543,tN 910 ["rooms","numbers","room","name"])::(nat_lit 544,tE)::(nat_lit 546,agY)::(nat_lit 547,aie)::(nat_lit 548,tE)::(nat_lit 550,akv)::(nat_lit 551,tE)::(nat_lit 553,aiK)::(nat_lit 554,ahT)::(nat_lit 555,tE)::(nat_lit 557,ahz)::(nat_lit 558,tE)::(nat_lit 560,ahw)::(nat_lit 561,ajN)::(nat_lit 569,tE)::(nat_lit 572,ahP)::(nat_lit 573,aiv)::(nat_lit 574,tE)::(nat_lit 576,tN 960 ["self"])::(nat_lit 577,tE)::(nat_lit 579,cO "size" "Hall.size" 957 342 1 3 574 961)::(nat_lit 580,aiD)::(nat_lit 581,tE)::(nat_lit 583,tN 967 ["self"])::(nat_lit 584,tE)::(nat_lit 586,cO "names" "Hall.names" 964 345 1 3 581 968)::(nat_lit 587,akE)::(nat_lit 588,tE)::(nat_lit 590,tN 974 ["self","name"])::(nat_lit 591,tE)::(nat_lit 593,cO "place" "Hall.place" 971 348 2 3 588 976)::(nat_lit 594,ahD)::(nat_lit 595,tE)::(nat_lit 597,tN 982 ["self","room"])::(nat_lit 598,tE)::(nat_lit 600,ai4)::(nat_lit 601,akJ)::(nat_lit 602,tE)::(nat_lit 604,tN 990 ["self","room","name"])::(nat_lit 605,tE)::(nat_lit 607,akm)::(nat_lit 608,akA)::(nat_lit 609,tE)::(nat_lit 612,akf)::(nat_lit 613,ahO)::(nat_lit 614,tN 1002 ["numbers","offered","share"])::(nat_lit 615,ag0 P)::(nat_lit 616,agF)::(nat_lit 617,aj5)::(nat_lit 618,aho)::(nat_lit 621,tE)::(nat_lit 623,tN 1018 ["_law_script","_law_k"])::(nat_lit 624,tE)::(nat_lit 626,ajR)::(nat_lit 627,akQ)::(nat_lit 628,tE)::(nat_lit 630,aht)::(nat_lit 631,tE)::(nat_lit 633,ajL)::(nat_lit 634,ahg)::(nat_lit 635,tE)::(nat_lit 637,akp)::(nat_lit 638,tE)::(nat_lit 640,ah0)::(nat_lit 641,agx)::(nat_lit 642,tE)::(nat_lit 644,agU)::(nat_lit 645,tE)::(nat_lit 647,aiB)::(nat_lit 648,aiz)::(nat_lit 649,tE)::(nat_lit 652,ak9)::(nat_lit 653,aiL)::(nat_lit 654,tE)::(nat_lit 656,akn)::(nat_lit 657,tE)::(nat_lit 659,aik)::(nat_lit 660,ahj)::(nat_lit 661,tE)::(nat_lit 663,ajk)::(nat_lit 664,tE)::(nat_lit 666,ajx)::(nat_lit 667,ahX)::(nat_lit 668,tE)::(nat_lit 671,ahl)::(nat_lit 672,alc)::(nat_lit 673,tE)::(nat_lit 676,akr)::(nat_lit 677,akU)::(nat_lit 678,tE)::(nat_lit 681,ah4)::(nat_lit 682,ai2)::(nat_lit 683,tE)::(nat_lit 686,ajJ)::(nat_lit 687,ahm)::(nat_lit 688,tE)::(nat_lit 690,aic)::(nat_lit 691,tE)::(nat_lit 693,ahn)::(nat_lit 694,alf)::(nat_lit 695,tE)::(nat_lit 697,ajg)::(nat_lit 698,tE)::(nat_lit 700,ahN)::(nat_lit 701,akT)::(nat_lit 702,tE)::(nat_lit 704,tN 1130 ["_law_one","_law_other"])::(nat_lit 705,tE)::(nat_lit 707,aiR)::(nat_lit 708,aiI)::(nat_lit 709,tE)::(nat_lit 711,tN 1138 ["_law_cell_here","_law_xs"])::(nat_lit 712,tE)::(nat_lit 714,ah2)::(nat_lit 715,agC)::(nat_lit 716,tE)::(nat_lit 718,ahS)::(nat_lit 719,tE)::(nat_lit 721,aiZ)::(nat_lit 722,agW)::(nat_lit 723,tE)::(nat_lit 725,tN 1157 ["_law_script","_law_xs"])::(nat_lit 726,tE)::(nat_lit 728,agE)::(nat_lit 729,ajp)::(nat_lit 730,tE)::(nat_lit 733,agM)::(nat_lit 734,ajb)::(nat_lit 735,tE)::(nat_lit 737,tN 1171 ["_law_one","_law_other"])::(nat_lit 738,tE)::(nat_lit 740,ag7)::(nat_lit 741,aiH)::(nat_lit 742,tE)::(nat_lit 744,ak0)::(nat_lit 745,tE)::(nat_lit 747,aku)::(nat_lit 748,ai1)::(nat_lit 749,tE)::(nat_lit 752,akg)::(nat_lit 753,akD)::(nat_lit 754,tE)::(nat_lit 756,aiM)::(nat_lit 757,tE)::(nat_lit 759,ait)::(nat_lit 760,aiS)::(nat_lit 761,tE)::(nat_lit 763,tN 1207 ["_law_share_here","_law_rooms_here","_law_found","_law_at","_law_wait","_law_some","_law_best","_law_room","_law_plan","_law_worths"])::(nat_lit 764,tE)::(nat_lit 766,cO "_law_gone" "_law_gone" 1204 515 5 3 761 1217)::(nat_lit 767,fO "_law_gone" "_law_gone" (top 105) (.str "law_chancehall_k31_whole_mendings_end" 1013) 766)::(nat_lit 768,tE)::(nat_lit 770,tN 1223 ["_law_script","_law_share_here","_law_rooms_here","_law_hall_here","_law_plan","_law_found","_law_wait","_law_last","_law_k","_law_far_here","_law_due"])::(nat_lit 771,tE)::(nat_lit 773,cO "law" "law" 1220 524 1 3 768 1234)::(nat_lit 774,fO "law" "law" (top 106) (.str "law_chancehall_k31_whole_mendings_end" 1013) 773)::([] : List (Nat×Obj)))
noncomputable abbrev asH:List Nat:=[2,3,15,17,18,20,21,22,29,30,31,32,35,42,43,44,47,54,55,56,59,66,67,68,71,78,79,80,83,90,92,93,95,96,97,98,99,102,109,111,112,114,115,116,117,118,121,123,124,126,127,128,130,131,133,134,135,136,137,139,140,142,143,144,146,147,149,150,151,153,154,156,157,158,160,161,163,164,165,167,168,170,171,172,174,175,177,178,179,181,182,184,185,186,189,190,191,193,194,196,197,198,200,201,203,204,205,207,208,210,211,212,214,215,217,218,219,222,223,224,226,227,229,230,231,234,235,236,239,240,241,244,245,246,248,249,251,252,253,255,256,258,259,260,263,264,265,267,268,270,271,272,274,275,277,278,279,281,282,284,285,286,288,289,291,292,293,296,297,298,300,301,303,304,305,308,309,310,313,314,315,317,318,320,321,322,324,325,327,328,329,332,333,334,336,337,339,340,341,344,345,346,348,349,351,352,353,356,357,358,360,361,363,364,365,368,369,370,372,373,375,376,377,379,380,382,383,384,387,388,389,392,393,394,396,397,399,400,401,403,404,406,407,408,410,411,413,414,415,418,419,420,423,424,432,434,435,437,438,439,441,442,444,445,446,448,449,451,452,453,454,455,456,457,460,467,469,470,472,473,474,475,476,479,486,488,489,491,492,493,494,495,498,505,507,508,510,511,512,513,514,517,524,527,528,529,530,531,534,536,537,539,540,541,543,544,546,547,548,550,551,553,554,555,557,558,560,561,569,572,573,574,576,577,579,580,581,583,584,586,587,588,590,591,593,594,595,597,598,600,601,602,604,605,607,608,609,612,613,614,615,616,617,618,621,623,624,626,627,628,630,631,633,634,635,637,638,640,641,642,644,645,647,648,649,652,653,654,656,657,659,660,661,663,664,666,667,668,671,672,673,676,677,678,681,682,683,686,687,688,690,691,693,694,695,697,698,700,701,702,704,705,707,708,709,711,712,714,715,716,718,719,721,722,723,725,726,728,729,730,733,734,735,737,738,740,741,742,744,745,747,748,749,752,753,754,756,757,759,760,761,763,764,766,767,768,770,771,773,774]
end
def qv:Program:=view p [0,2,3,4,5,6,7,8,10,11,13,14,15,16,17,18,19,20,21,23,24,25,27,28,29,30,32,33,34,35,36,37,38,39,40,41,42,44,45,46,47,48,49,50,52,53,54,56,57,58,60,61,63,64,66,67,68,69,70,71,72,73,74,75,77,78,79,80,81,83,84,85,86,87,88,89,90,91,92,93,94,95,96,97,98,99,100,101,102,103,104,105,106]
noncomputable abbrev R:RowW:=PySem.Challenge.rw_chancehall_k31_whole_mendings_end.row.toRowW
def Xt(s:Shared):Bool:=xlAt qv [] s&&recOk R.records s
noncomputable def e:Pos:=⟨524,0,542,15⟩
set_option maxHeartbeats 0
theorem lko:looksOpen PySem.Challenge.rw_chancehall_k31_whole_mendings_end.row.prog=true:=by kernel_rfl
theorem wsd:PySem.Challenge.rw_chancehall_k31_whole_mendings_end.wellSaid=true:=by
 unfold OpenLaw.wellSaid OpenRow.wellSaid OpenRow.partSaid;rw[lko]
 kernel_rfl
theorem asK:∀P,asH=(KH P).map (·.1):=λ_=>by kernel_rfl
theorem pre(w:World):(λos=>topGo treeTable p w 11 ann 12 (S0 w os) (topStub p))=λos=>some (Sa w os,⟨denote treeTable (cE p),cE p,z,B⟩):=by
 rw[Fast.te15667345088766844465,Fast.te14364793385576792824,Fast.te11892475500146522536];kernel_rfl
theorem block(w:World):(λos=>segRun treeTable p w 11 ann 1 1 (Sa w os) (blockOf (behindTheImports p) (env p) (cE p) z B))=λos=>some (.next,(Sb w os).abs,cE p,z):=by
 rw[Fast.te14374325043358763698,Fast.te14364793385576792824];kernel_rfl
theorem agD(w:World):(λos=>segRunT treeTable p w 11 ann 1 30000 (Sb w os) (piecesOf ((behindTheImports p).take 105) (env p) (cE p) z B))=λos=>some (.next,S1 w os,cE p,e1):=by
 rw[Fast.te10110043849684766642,Fast.te14364793385576792824];kernel_rfl
theorem comb{R S A B C X Y Z:Type _}{o:Option R}{f:R->A}{g:R->B}{k:R->C}{h:R->Option S}{f1:S->X}{f2:S->Y}{f3:S->Z}{a:A}{b:B}{c:C}{x:X}{y:Y}{z:Z}(h1:(o.map λr=>(f r,g r,k r,(h r).map f1))=some (a,b,c,some x))(h2:(o.map λr=>(f r,g r,k r,(h r).map f2))=some (a,b,c,some y))(h3:(o.map λr=>(f r,g r,k r,(h r).map f3))=some (a,b,c,some z)):(o.map λr=>(f r,g r,k r,(h r).map λs=>(f1 s,f2 s,f3 s)))=some (a,b,c,some (x,y,z)):=by
 cases o with
 |none=>cases h1
 |some r =>
  simp only[Option.map_some,Option.some.injEq,Prod.mk.injEq]at h1 h2 h3 ⊢;obtain⟨a1,a2,a3,a4⟩:=h1;obtain⟨_,_,_,b4⟩:=h2;obtain⟨_,_,_,c4⟩:=h3;cases hr:h r with
  |none=>rw[hr]at a4;cases a4
  |some s =>
   rw[hr]at a4 b4 c4;refine⟨a1,a2,a3,?_⟩;simp only[Option.map_some,Option.some.injEq]at a4 b4 c4 ⊢;rw[a4,b4,c4]
theorem amJ{R S A B C X Y:Type _}{o:Option R}{f:R->A}{g:R->B}{k:R->C}{h:R->Option S}{f1:S->X}{f2:S->Y}{a:A}{b:B}{c:C}{x:X}{y:Y}(h1:(o.map λr=>(f r,g r,k r,(h r).map f1))=some (a,b,c,some x))(h2:(o.map λr=>(f r,g r,k r,(h r).map f2))=some (a,b,c,some y)):(o.map λr=>(f r,g r,k r,(h r).map λs=>(f1 s,f2 s)))=some (a,b,c,some (x,y)):=by
 cases o with
 |none=>cases h1
 |some r =>
  simp only[Option.map_some,Option.some.injEq,Prod.mk.injEq]at h1 h2 ⊢;obtain⟨a1,a2,a3,a4⟩:=h1;obtain⟨_,_,_,b4⟩:=h2;cases hr:h r with
  |none=>rw[hr]at a4;cases a4
  |some s =>
   rw[hr]at a4 b4;refine⟨a1,a2,a3,?_⟩;simp only[Option.map_some,Option.some.injEq]at a4 b4 ⊢;rw[a4,b4]
theorem sn0(w:World):(λos=>(segRunT treeTable p w 11 ann 1 50000 (S1 w os) (piecesOf ((behindTheImports p).drop 105) (env p) (cE p) e1 B)).map λr=>(r.1,r.2.2.1,r.2.2.2,(topRun treeTable p w 11 ann 2 r.2.1.abs ⟨doneF .next,cE p,e,B⟩).map λs=>(openSeen qv [] (importedModules p.main.body) Xt true s).1))=λ_=>some (.next,cE p,e,some ((openGood qv []).1)):=by
 rw[Fast.te10110043849684766642,Fast.te14364793385576792824,Fast.te14082659384304107361,Fast.te4187177175401517315,Fast.te5923862056798008813];kernel_rfl
theorem sn1(w:World):(λos=>(segRunT treeTable p w 11 ann 1 50000 (S1 w os) (piecesOf ((behindTheImports p).drop 105) (env p) (cE p) e1 B)).map λr=>(r.1,r.2.2.1,r.2.2.2,(topRun treeTable p w 11 ann 2 r.2.1.abs ⟨doneF .next,cE p,e,B⟩).map λs=>(openSeen qv [] (importedModules p.main.body) Xt true s).2))=λ_=>some (.next,cE p,e,some ((openGood qv []).2)):=by
 rw[Fast.te10110043849684766642,Fast.te14364793385576792824,Fast.te14082659384304107361];kernel_rfl
theorem anv(w:World):(λos=>(segRunT treeTable p w 11 ann 1 50000 (S1 w os) (piecesOf ((behindTheImports p).drop 105) (env p) (cE p) e1 B)).map λr=>(r.1,r.2.2.1,r.2.2.2,(topRun treeTable p w 11 ann 2 r.2.1.abs ⟨doneF .next,cE p,e,B⟩).map λs=>openSeen qv [] (importedModules p.main.body) Xt true s))=λ_=>some (.next,cE p,e,some (openGood qv [])):=funext λos=>amJ (congrFun (sn0 w) os) (congrFun (sn1 w) os)
theorem am5(w:World):(λos=>(segRunT treeTable p w 11 ann 1 50000 (S1 w os) (piecesOf ((behindTheImports p).drop 105) (env p) (cE p) e1 B)).map λr=>(r.1,r.2.2.1,r.2.2.2,(topRun treeTable p w 11 ann 2 r.2.1.abs ⟨doneF .next,cE p,e,B⟩).map λs=>staticsOk (importedModules p.main.body) (boot_heap w.params) s.heap&&namesBound p s.heap&&gensDone s&&laidKept (boot_heap w.params) s.heap))=λ_=>some (.next,cE p,e,some (true)):=by
 rw[Fast.te10110043849684766642,Fast.te14364793385576792824,Fast.te14082659384304107361];kernel_rfl
theorem alq(w:World):(λos=>(segRunT treeTable p w 11 ann 1 50000 (S1 w os) (piecesOf ((behindTheImports p).drop 105) (env p) (cE p) e1 B)).map λr=>(r.1,r.2.2.1,r.2.2.2,(topRun treeTable p w 11 ann 2 r.2.1.abs ⟨doneF .next,cE p,e,B⟩).map λs=>asH.map s.heap.get?))=λ_=>some (.next,cE p,e,some ((KH w.params).map λp=>some p.2)):=by
 rw[Fast.te10110043849684766642,Fast.te14364793385576792824,Fast.te14082659384304107361];kernel_rfl
theorem big(w:World):(λos=>(segRunT treeTable p w 11 ann 1 50000 (S1 w os) (piecesOf ((behindTheImports p).drop 105) (env p) (cE p) e1 B)).map λr=>(r.1,r.2.2.1,r.2.2.2,(topRun treeTable p w 11 ann 2 r.2.1.abs ⟨doneF .next,cE p,e,B⟩).map λs=>(staticsOk (importedModules p.main.body) (boot_heap w.params) s.heap&&namesBound p s.heap&&gensDone s&&laidKept (boot_heap w.params) s.heap,openSeen qv [] (importedModules p.main.body) Xt true s,asH.map s.heap.get?)))=λ_=>some (.next,cE p,e,some (true,openGood qv [],(KH w.params).map λp=>some p.2)):=funext λos=>comb (congrFun (am5 w) os) (congrFun (anv w) os) (congrFun (alq w) os)
theorem left:LeftO p qv [] Xt (λs=>asH.map s.heap.get?) (λw=>(KH w.params).map λp=>some p.2) 200000 :=
 Xn (boot_open rfl rfl λ_=>rfl) pre block (λw os=>nQ.cutAt (congrFun (agD w) os) (nQ.last (congrFun (big w) os))) rfl
theorem hX(s:Shared)(h:Xt s=true):XL qv [] (s.heap.nsMap mainGlobals) s.heap:=xl_of s (Bool.and_eq_true_iff.mp h).1
theorem hR(s:Shared)(h:Xt s=true):RecFacts R.records s.heap:=recFacts_of (Bool.and_eq_true_iff.mp h).2
end
end H31
noncomputable section
namespace L2
open PySem PySem.Spec PyProof.Rows
noncomputable abbrev Key:=Sum Int Str
noncomputable def z_:Key->Value->Bool
 |.inl k,v=>Value.isInt k v
 |.inr x,v=>Value.isStrOf x v
noncomputable def amq(w:World):Key->Int
 |.inl k=>hashInt k
 |.inr x=>hashStr w x
theorem fK:∀{k:Key}{v:Value},z_ k v=true->(∃i t,k=Sum.inl i/\v=Value.int i t)\/(∃x t,k=Sum.inr x/\v=Value.str x t)
 |.inl i,v,h=>by
  obtain⟨t,e⟩:=Value.isInt_shape (k:=i) (v:=v) h;exact .inl ⟨i,t,rfl,e⟩
 |.inr x,v,h=>by
  obtain⟨t,e⟩:=Value.isStrOf_shape (x:=x) (v:=v) h;exact .inr ⟨x,t,rfl,e⟩
theorem Xj(i:Int)(t:Tok):z_ (.inl i) (.int i t)=true:=by simp[z_,Value.isInt]
theorem Wy(x:Str)(t:Tok):z_ (.inr x) (.str x t)=true:=by simp[z_,Value.isStrOf]
theorem afc(a b:Int):decide ((Sum.inl a:Key)=Sum.inl b)=(a==b):=by
 by_cases e:a=b
 .subst e;simp
 .have h:¬(Sum.inl a:Key)=Sum.inl b:=λq=>e (Sum.inl.inj q);rw[Zp h];exact(beq_eq_false_iff_ne.mpr e).symm
theorem aec(a b:Str):decide ((Sum.inr a:Key)=Sum.inr b)=decide (a=b):=by
 by_cases e:a=b
 .subst e;simp
 .have h:¬(Sum.inr a:Key)=Sum.inr b:=λq=>e (Sum.inr.inj q);rw[Zp h,Zp e]
theorem afj(a:Int)(b:Str):decide ((Sum.inl a:Key)=Sum.inr b)=false:=Zp (λq=>nomatch q)
theorem aes(a:Str)(b:Int):decide ((Sum.inr a:Key)=Sum.inl b)=false:=Zp (λq=>nomatch q)
def iQ(prog:Program)(w:World):PySem.KeyKind prog w Key where
 is:=z_
 hash:=amq w
 inj:=λv a b ha hb=>by
  rcases fK ha with⟨i,t,rfl,rfl⟩|⟨x,t,rfl,rfl⟩
  .rcases fK hb with⟨j,u,rfl,e⟩|⟨y,u,rfl,e⟩
   .injection e with e1 _;rw[e1]
   .exact nomatch e
  .rcases fK hb with⟨j,u,rfl,e⟩|⟨y,u,rfl,e⟩
   .exact nomatch e
   .injection e with e1 _;rw[e1]
 byValue:=λk v h=>by
  rcases fK h with⟨i,t,rfl,rfl⟩|⟨x,t,rfl,rfl⟩<;>rfl
 pyHash:=λhv h=>by
  rcases fK hv with⟨i,t,rfl,rfl⟩|⟨x,t,rfl,rfl⟩
  .exact wpAny_pyHash_int h
  .exact wpAny_pyHash_str h
 eqBool:=λhu hv h=>by
  rcases fK hu with⟨i,t,rfl,rfl⟩|⟨x,t,rfl,rfl⟩
  .rcases fK hv with⟨j,u,rfl,rfl⟩|⟨y,u,rfl,rfl⟩
   .rw[afc]at h;exact wpAny_eqBool_int h
   .rw[afj]at h;exact SeqAt.EqAt.int_str i t y u _ _ _ _ h
  .rcases fK hv with⟨j,u,rfl,rfl⟩|⟨y,u,rfl,rfl⟩
   .rw[aes]at h;exact SeqAt.EqAt.str_int x t j u _ _ _ _ h
   .rw[aec]at h;exact wpAny_eqBool_str h
 «strs»:=λk x t v h=>by
  rcases fK h with⟨i,u,rfl,e⟩|⟨y,u,rfl,e⟩
  .exact nomatch e
  .injection e with e1 _;subst e1;cases v<;>rfl
theorem QL(prog:Program)(w:World)(i:Int)(t:Tok):(iQ prog w).is (.inl i) (.int i t)=true:=Xj i t
theorem Rk(prog:Program)(w:World)(x:Str)(t:Tok):(iQ prog w).is (.inr x) (.str x t)=true:=Wy x t
inductive V where
 |non|bl (b:Bool)|int (i:Int)|str (x:Str)|byt (b:Array UInt8)|flt (b:UInt64)|ref (a:Addr)|ty (n:String)
 deriving DecidableEq
noncomputable abbrev Ζ:=List V
def RelV:V->Value->Prop
 |.non,u=>u=Value.none
 |.bl b,u=>u=Value.bool b
 |.int i,u=>∃t,u=Value.int i t
 |.str x,u=>∃t,u=Value.str x t
 |.byt b,u=>∃t,u=Value.bytes b t
 |.flt b,u=>∃t,u=Value.float b t
 |.ref a,u=>u=Value.ref a
 |.ty n,u=>u=Value.type n
abbrev Vals:Ζ->Θ->Prop:=Paired RelV
theorem Vals.length{xs:Ζ}{us:Θ}(r:Vals xs us):xs.length=us.length:=Paired.length r
theorem Vals.get:∀{xs:Ζ}{us:Θ}{i:Nat}{x:V},Vals xs us->xs[i]?=some x->∃u,us[i]?=some u/\RelV x u
 |_,_,_,_,.nil,e=>by simp at e
 |_,_,0,_,.cons r _,e=>by simp at e;subst e;exact⟨_,rfl,r⟩
 |_,_,i+1,x,.cons _ t,e=>by
  obtain⟨u,h1,h2⟩:=Vals.get (i:=i) (x:=x) t (by simpa using e);exact⟨u,by simpa using h1,h2⟩
theorem Vals.set{x:V}{u:Value}(r:RelV x u):∀{xs:Ζ}{us:Θ}(i:Nat),Vals xs us->Vals (xs.set i x) (us.set i u)
 |_,_,_,.nil=>.nil
 |_,_,0,.cons _ t=>.cons r t
 |_,_,i+1,.cons q t=>.cons q (Vals.set r i t)
theorem Vals.append:∀{xs ys:Ζ}{us ws:Θ},Vals xs us->Vals ys ws->Vals (xs++ys) (us++ws)
 |_,_,_,_,.nil,s=>s
 |_,_,_,_,.cons r t,s=>.cons r (Vals.append t s)
theorem Vals.take:∀{xs:Ζ}{us:Θ}(n:Nat),Vals xs us->Vals (xs.take n) (us.take n)
 |_,_,0,_=>.nil
 |_,_,_+1,.nil=>.nil
 |_,_,n+1,.cons r t=>.cons r (Vals.take n t)
theorem Vals.drop:∀{xs:Ζ}{us:Θ}(n:Nat),Vals xs us->Vals (xs.drop n) (us.drop n)
 |_,_,0,r=>r
 |_,_,_+1,.nil=>.nil
 |_,_,n+1,.cons _ t=>Vals.drop n t
def yF:Option V->Ω->Prop
 |some v,some u=>RelV v u
 |none,none=>True
 |_,_=>False
def KV{κ:Type} : List (κ×V)->List (κ×Value)->Prop:=Paired λ(p:κ×V)(q:κ×Value)=>p.1=q.1/\RelV p.2 q.2
noncomputable def kV:Key->V
 |.inl i=>.int i
 |.inr x=>.str x
inductive HO where
  |lst (xs:Ζ)
  |tup (xs:Ζ)
  |dK (ar:List (Key×V))
  |set (S:Int->Bool) (n:Nat)
  |ins (C dx:Addr) (fs:List (Str×V))
  |own (x:Addr)
  |xd (fs:List (Str×V))
  |met (f x:Addr)
  |rng (lo hi:Int)
  |frz (o:Obj) (u:HO)
  |tbl (ps:Array Value)
  |ext (φ:Heap->Prop)
noncomputable abbrev Hp:=Addr->Option HO
noncomputable def upd(H:Hp)(a:Addr)(o:HO):Hp:=λb=>if b=a then some o else H b
theorem cM{H:Hp}{a:Addr}{o:HO} : upd H a o a=some o:=by unfold upd;rw[ZY rfl]
theorem cF{H:Hp}{a b:Addr}{o:HO}(h:b≠a):upd H a o b=H b:=by unfold upd;rw[ZZ h]
theorem ahx{H:Hp}{a b:Addr}{o u:HO}(h:H a=some o)(h':H b=some u)(d:o≠u):a≠b:=by
 intro e;subst e;rw[h]at h';exact d (Option.some.inj h')
theorem lZ{H:Hp}{a b:Addr}{o:HO}(h:H a=some o)(h':H b=none):a≠b:=by
 intro e;subst e;rw[h]at h';cases h'
section
variable(P:Program)(w:World)
def fZ(H:Hp)(h:Heap)(a:Addr):HO->Prop
 |.lst xs=>xs.length<=sizeLine/\∃(its:Θ)(n:Nat),Vals xs its/\h.get? a=some { cls:=.type "list",data:=.seq its.toArray n }
 |.tup xs=>xs.length<=sizeLine/\∃its:Θ,Vals xs its/\IsTup h a its.toArray
 |.dK ar=>ar.length<=sizeLine/\(a==sysModules)=false/\∃vs,KV ar vs/\h.DictOf (iQ P w) a vs
 |.set S n=>h.SetOf (intKind P w) a S n
 |.ins C dx fs=>H dx=some (.own a)/\fs.length<=1000/\dx≠a/\h.get? a=some (instObj C dx) /\
   ∃mA,h.Ns1 dx mA/\(∀f,yF (fs.lookup f) (mA f))/\PySem.Within mA (fs.map (·.1))
 |.own _=>∃o,h.get? a=some o
 |.xd fs=>∃mA,h.Ns1 a mA/\∀f,yF (fs.lookup f) (mA f)
 |.rng lo hi=>∃t u v,h.get? a=some { cls:=.type "range",data:=.fields #[.int lo t,.int hi u,.int 1 v] }
 |.frz o u=>h.get? a=some o/\fZ H h a u
 |.tbl ps=>h.get? a=some { cls:=.none,data:=.fields ps }
 |.met f x=>h.get? a=some (methodObj (.ref f) (.ref x))
 |.ext φ=>φ h/\(∃o,h.get? a=some o)/\∀h1 h2:Heap,φ h1->(∀o,h1.get? a=some o->h2.get? a=some o)->φ h2
def HOk(H:Hp)(h:Heap):Prop:=∀a o,H a=some o->fZ P w H h a o
end
section
variable{P:Program}{w:World}{H H':Hp}{h h':Heap}{a:Addr}{o:HO}
theorem fZ.lt(x:fZ P w H h a o):a<h.objs.size:=by
 cases o with
 |lst xs=>obtain⟨_,_,_,_,e⟩:=x;exact aK e
 |tup xs=>obtain⟨_,_,_,p⟩:=x;exact p.lt
 |dK ar=>obtain⟨_,_,_,_,o,_,_,e,_⟩:=x;exact aK e
 |set S n=>obtain⟨o,_,_,_,e,_⟩:=x;exact aK e
 |ins C dx fs=>obtain⟨_,_,_,e,_⟩:=x;exact aK e
 |own y=>obtain⟨_,e⟩:=x;exact aK e
 |xd fs=>obtain⟨_,⟨_,_,_,e,_⟩,_⟩:=x;exact aK e
 |rng lo hi=>obtain⟨_,_,_,e⟩:=x;exact aK e
 |frz ob u=>obtain⟨e,_⟩:=x;exact aK e
 |tbl ps=>exact aK (show h.get? a=some _ from x)
 |met f y=>exact aK (show h.get? a=some _ from x)
 |ext φ=>obtain⟨_,⟨_,e⟩,_⟩:=x;exact aK e
theorem fZ.stay(x:fZ P w H h a o)(k:∀b u,(b=a\/H b=some (.own a))->h.get? b=some u->h'.get? b=some u)
 (ho:∀b,H b=some (.own a)->H' b=some (.own a))(ht:∀b xs,H b=some (.tup xs)->H' b=some (.tup xs)):fZ P w H' h' a o:=by
 induction o with
 |lst xs=>obtain⟨z,its,n,r,e⟩:=x;exact⟨z,its,n,r,k _ _ (.inl rfl) e⟩
 |tup xs=>obtain⟨z,its,r,ob,e,c⟩:=x;exact⟨z,its,r,ob,k _ _ (.inl rfl) e,c⟩
 |dK ar=>obtain⟨z,y,vs,r,ob,es,ep,e,c⟩:=x;exact⟨z,y,vs,r,ob,es,ep,k _ _ (.inl rfl) e,c⟩
 |set S n=>obtain⟨ob,es,ep,t,e,c⟩:=x;exact⟨ob,es,ep,t,k _ _ (.inl rfl) e,c⟩
 |ins C dx fs =>
  obtain⟨d,z,ne,e,mA,⟨od,es,ep,e2,c⟩,r⟩:=x;exact⟨ho _ d,z,ne,k _ _ (.inl rfl) e,mA,⟨od,es,ep,k _ _ (.inr d) e2,c⟩,r⟩
 |own y=>obtain⟨ob,e⟩:=x;exact⟨ob,k _ _ (.inl rfl) e⟩
 |xd fs=>obtain⟨mA,⟨od,es,ep,e,c⟩,r⟩:=x;exact⟨mA,⟨od,es,ep,k _ _ (.inl rfl) e,c⟩,r⟩
 |rng lo hi=>obtain⟨t,u,v,e⟩:=x;exact⟨t,u,v,k _ _ (.inl rfl) e⟩
 |frz ob u ih=>obtain⟨e,q⟩:=x;exact⟨k _ _ (.inl rfl) e,ih q⟩
 |tbl ps =>
  have e:h.get? a=some { cls:=.none,data:=.fields ps }:=x;show h'.get? a=some { cls:=.none,data:=.fields ps };exact k a _ (.inl rfl) e
 |met f y =>
  have e:h.get? a=some (methodObj (.ref f) (.ref y)):=x;show h'.get? a=some (methodObj (.ref f) (.ref y));exact k a _ (.inl rfl) e
 |ext φ=>obtain⟨p,⟨o,e⟩,st⟩:=x;exact⟨st _ _ p λo q=>k _ _ (.inl rfl) q,⟨o,k _ _ (.inl rfl) e⟩,st⟩
theorem HOk.lt(x:HOk P w H h)(e:H a=some o):a<h.objs.size:=(x a o e).lt
theorem HOk.fresh(x:HOk P w H h)(e:h.objs.size<=a):H a=none:=by
 cases q:H a with
 |none=>rfl
 |some u=>exact absurd (aR (x.lt q) e) (X9 _)
theorem HOk.kept(x:HOk P w H h)(k:∀b u,h.get? b=some u->h'.get? b=some u):HOk P w H h':=λa o e =>
 (x a o e).stay (λb u _ q=>k b u q) (λ_ q=>q) λ_ _ q=>q
theorem HOk.laid(x:HOk P w H h)(k:∀b u,h.get? b=some u->h'.get? b=some u)(hp:h.objs.size<=a)(new:fZ P w (upd H a o) h' a o):HOk P w (upd H a o) h':=λb u e=>by
 have hn:=x.fresh hp;by_cases hb:b=a
 .subst hb;rw[cM]at e;cases e;exact new
 .rw[cF hb]at e;exact(x b u e).stay (λc v _ q=>k c v q) (λc q=>by rw[cF (lZ q hn)];exact q) λc xs q=>by rw[cF (lZ q hn)];exact q
end
def Rd(H:Hp)(a:Addr)(u:HO):Prop:=H a=some u\/∃o,H a=some (.frz o u)
theorem Rd.ok{P:Program}{w:World}{H:Hp}{h:Heap}{a:Addr}{u:HO}(r:Rd H a u)(x:HOk P w H h):fZ P w H h a u:=by
 rcases r with r|⟨o,r⟩
 .exact x a u r
 .obtain⟨_,q⟩:=x a _ r;exact q
def Mut:Option HO->Prop
 |some (.lst _)=>True
 |some (.dK _)=>True
 |some (.set _ _)=>True
 |some (.ins _ _ _)=>True
 |some (.ext _)=>True
 |_=>False
section
variable{P:Program}{w:World}{H:Hp}{h h':Heap}{x e:Addr}{o':HO}
theorem HOk.write(ok:HOk P w H h)(mu:Mut (H x))(he:e=x\/H e=some (.own x))(k:∀b u,b≠e->h.get? b=some u->h'.get? b=some u)(h7:∃u,h'.get? e=some u)
 (new:fZ P w (upd H x o') h' x o'):HOk P w (upd H x o') h':=λb u q=>by
 have ic:∀c y,H c=some (.own y)->c≠x:=λc y r z=>by subst z;rw[r]at mu;exact mu
 have kC:∀c xs,H c=some (.tup xs)->c≠x:=λc xs r z=>by subst z;rw[r]at mu;exact mu
 by_cases hb:b=x
 .subst hb;rw[cM]at q;cases q;exact new
 .rw[cF hb]at q;by_cases hbe:b=e
  .have q':H b=some (.own x):=by
    rcases he with z|z
    .exact absurd (hbe.trans z) hb
    .rw[hbe];exact z
   rw[q]at q';cases q';obtain⟨v,hv⟩:=h7;exact⟨v,by rw[hbe];exact hv⟩
  .refine(ok b u q).stay (λc v hc r=>k c v ?_ r) (λc r=>by rw[cF (ic c b r)];exact r) λc xs r=>by rw[cF (kC c xs r)];exact r
   rcases hc with rfl|hc
   .exact hbe
   .rintro rfl;rcases he with z|z
    .exact ic c b hc z
    .rw[hc]at z;cases z;exact hb rfl
end
structure Un(fs ex:Ψ)(H H':Hp)(h h':Heap):Prop where
 keep:∀b o,h.get? b=some o->H b=none->b∉fs->b∉ex->h'.get? b=some o
 slot:∀b o,h.get? b=some o->H b=none->b∈fs->b∉ex->∃sl,h'.get? b=some { o with slots:=sl }
 free:∀b o,h.get? b=some o->H b=none->b∉ex->H' b=none
 there:∀b o,h.get? b=some o->b∉ex->∃o',h'.get? b=some o'
 tups:∀b xs,H b=some (.tup xs)->H' b=some (.tup xs)
 frzs:∀b o u,H b=some (.frz o u)->H' b=some (.frz o u)
 tbls:∀b ps,H b=some (.tbl ps)->∃more,H' b=some (.tbl (ps++more))
section
variable{fs fs' ex ex':Ψ}{H H1 H2:Hp}{h h1 h2 h':Heap}{a x e:Addr}{o:HO}
theorem Un.any(u:Un fs ex H H1 h h1){b:Addr}{ob:Obj}(q:h.get? b=some ob)(n:H b=none)(hx:b∉ex):∃sl,h1.get? b=some { ob with slots:=sl }:=by
 by_cases hb:b∈fs
 .exact u.slot b ob q n hb hx
 .exact⟨ob.slots,u.keep b ob q n hb hx⟩
theorem Un.kept(k:∀b u,h.get? b=some u->h'.get? b=some u):Un fs ex H H h h' :=
 ⟨λb ob q _ _ _=>k b ob q,λb ob q _ _ _=>⟨ob.slots,k b ob q⟩,λ_ _ _ n _=>n,λb ob q _=>⟨ob,k b ob q⟩,λ_ _ q=>q,λ_ _ _ q=>q,λ_ ps q=>⟨#[],by rw[q];simp⟩⟩
theorem Un.refl:Un fs ex H H h h:=Un.kept λ_ _ q=>q
theorem Un.laid(k:∀b u,h.get? b=some u->h'.get? b=some u)(hp:h.objs.size<=a)(hn:H a=none):Un fs ex H (upd H a o) h h' where
 keep:=λb u q _ _ _=>k b u q
 slot:=λb u q _ _ _=>⟨u.slots,k b u q⟩
 free:=λb u q n _=>by rw[cF (aQ (aR (aK q) hp))];exact n
 there:=λb u q _=>⟨u,k b u q⟩
 tups:=λb xs q=>by rw[cF (lZ q hn)];exact q
 frzs:=λb u xs q=>by rw[cF (lZ q hn)];exact q
 tbls:=λb ps q=>⟨#[],by rw[cF (lZ q hn),q];simp⟩
theorem Un.write(mu:Mut (H x))(he:e=x\/H e=some (.own x))(k:∀b u,b≠e->h.get? b=some u->h'.get? b=some u)(h7:∃u,h'.get? e=some u):Un fs ex H (upd H x o) h h':=by
 have hx:∀b,H b=none->b≠x:=λb n z=>by subst z;rw[n]at mu;exact mu
 have hb:∀b,H b=none->b≠e:=λb n z=>by
  subst z;rcases he with r|r
  .exact hx b n r
  .rw[n]at r;cases r
 have hm:∀b u,H b=some u->¬Mut (some u)->b≠x:=λb u q nm z=>by subst z;rw[q]at mu;exact nm mu
 refine⟨λb u q n _ _=>k b u (hb b n) q,λb u q n _ _=>⟨u.slots,k b u (hb b n) q⟩,λb u q n _=>by rw[cF (hx b n)];exact n,λb u q _=>?_,
  λb xs q=>by rw[cF (hm b _ q λz=>z)];exact q,λb u xs q=>by rw[cF (hm b _ q λz=>z)];exact q,λb ps q=>⟨#[],by rw[cF (hm b _ q λz=>z),q];simp⟩⟩
 by_cases hbe:b=e
 .subst hbe;exact h7
 .exact⟨u,k b u hbe q⟩
end
noncomputable def trk(h:Heap)(H:Hp):Ψ:=(List.range h.objs.size).filter λa=>(H a).isSome
def Lx(h:Heap)(H:Hp):Heap:=PySem.W.hideAll h (trk h H)
theorem Xo(h:Heap)(H:Hp):(Lx h H).objs.size=h.objs.size:=PySem.W.hideAll_size _ _
theorem aaU{h:Heap}{H:Hp}{b:Addr}{o:Obj}(e:h.get? b=some o)(n:H b=none):(Lx h H).get? b=some o :=
 PySem.W.hideAll_get _ e λhm=>by
  have q:(H b).isSome=true:=(List.mem_filter.mp hm).2;rw[n]at q;simp at q
theorem abJ{h:Heap}{H:Hp}{b:Addr}{o:Obj}(e:(Lx h H).get? b=some o):h.get? b=some o/\H b=none:=by
 have e':h.get? b=some o:=PySem.W.of_hideAll (trk h H) e;refine⟨e',?_⟩;cases q:H b with
 |none=>rfl
 |some x =>
  have hm:b∈trk h H:=List.mem_filter.mpr ⟨List.mem_range.mpr (aK e'),by simp[q]⟩;have z:(Lx h H).get? b=none:=PySem.W.hideAll_none (trk h H) hm;rw[z]at e;cases e
noncomputable def ab1(g h:Heap)(L:Addr):Δ:=(List.range h.objs.size).filterMap λa=>if a=L\/(g.get? a).isSome=true then none else(h.get? a).map λo=>(a,o)
def rest(g h:Heap)(L d:Addr):Δ:=(ab1 g h L).filter λp=>decide (p.1≠d)
structure Mod(K:Frag)(mg:Str->Ω)(base:Heap):Prop where
 kin:K.In base
 glob:base.Ns mainGlobals mg
 blt:∃mb,base.Ns builtinsNs mb/\∀x:Str,x≠"__name__"->mb x=bootBuiltins x
 nolimit:base.NoLimit
structure Cx where
 prog:Program
 w:World
 K:Frag
 mg:Str->Ω
 base:Heap
 A:Around
 N:Φ
 s₀:Shared
 H₀:Hp
 env:Env
 outer:List Env
 stack:List Env
 ex:Ψ
 fn:Str->Bool
 calm:Bool
 pn:Δ
 xe:Ε
noncomputable def frs(l:List Env):Ψ:=l.filterMap (·.frame)
abbrev Cx.fs(X:Cx):Ψ:=frs X.outer
def Vis(sc:Scope)(x:Str):Prop:=sc.names.lookup x=some .local\/sc.names.lookup x=some .cell\/sc.names.lookup x=some .free
def Loc(sc:Scope)(x:Str):Prop:=sc.names.lookup x=some .local\/sc.names.lookup x=some .cell
def Look(env:Env)(h:Heap)(m:Str->Ω)(x:Str)(u:Value):Prop :=
 (env.kindOf x=some .local/\m x=some u)\/((env.kindOf x=some .cell\/env.kindOf x=some .free)/\∃c,env.cells.lookup x=some c/\h.IsCell c (some u))
structure Cx.Ok(X:Cx):Prop where
 mod:Mod X.K X.mg X.base
 kind:X.env.scope.kind=.function
 glob:X.env.globals=mainGlobals
 blt:X.env.builtins=builtinsNs
 above:X.s₀.heap.objs.size<=X.env.locals
 inj:∀x y c,X.env.cells.lookup x=some c->X.env.cells.lookup y=some c->x=y
 has:∀x,(X.env.kindOf x=some .cell\/X.env.kindOf x=some .free)->∃c,X.env.cells.lookup x=some c
 cab:∀x c,X.fn x=true->X.env.cells.lookup x=some c->X.s₀.heap.objs.size<=c
 hd:X.calm=true->X.A.handled=none
 frames:X.A.frames=some X.stack
 stk:X.stack=X.outer\/(X.stack=X.env::X.outer/\X.env.frame=some X.env.locals)
 exf:∀b∈X.ex,b≠X.env.locals/\∀x c,X.env.cells.lookup x=some c->c≠b
 bs:∀b o,X.base.get? b=some o->X.s₀.heap.get? b=some o/\X.H₀ b=none
 bsz:X.base.objs.size<=X.s₀.heap.objs.size
 noex:∀b o,X.base.get? b=some o->b∉X.ex
 exfs:∀b∈X.ex,b∉X.fs
 funs:X.s₀.heap.FunFrames X.base X.outer
 frf:∀b∈X.fs,X.H₀ b=none
structure Inv(X:Cx)(aa:Δ)(σ:List (Option V))(H:Hp)(s:Shared):Prop where
 ok:X.Ok
 os:s.os=X.s₀.os
 bare:AllBare s.gens
 base:Un X.fs X.ex X.H₀ H X.s₀.heap s.heap
 loc:∃m,s.heap.Ns X.env.locals m/\∀(i:Nat)(x:Str)(v:V),X.N[i]?=some x->σ[i]?=some (some v)->Vis X.env.scope x->∃u,RelV v u/\Look X.env s.heap m x u
 cell:∀x c,X.env.cells.lookup x=some c->∃v,s.heap.IsCell c v
 free:H X.env.locals=none
 freeC:∀x c,X.env.cells.lookup x=some c->H c=none
 pin:∀p∈X.pn++aa,s.heap.get? p.1=some p.2/\H p.1=none/\p.1≠X.env.locals/\p.1∉X.fs/\∀v,p.2.data≠.cell v
 hok:HOk X.prog X.w H s.heap
 len:σ.length=X.N.length
section
variable{X:Cx}{aa:Δ}{σ:List (Option V)}{H H':Hp}{s:Shared}{h':Heap}
theorem Cx.Ok.nofr(ok:X.Ok){b:Addr}{o:Obj}(e:X.base.get? b=some o):b∉X.fs:=λhb=>by
 have:=(ok.funs.mem hb).1;rw[e]at this;cases this
theorem Inv.bs(I:Inv X aa σ H s):∀b o,X.base.get? b=some o->s.heap.get? b=some o/\H b=none:=λb o e =>
 ⟨I.base.keep b o (I.ok.bs b o e).1 (I.ok.bs b o e).2 (I.ok.nofr e) (I.ok.noex b o e),I.base.free b o (I.ok.bs b o e).1 (I.ok.bs b o e).2 (I.ok.noex b o e)⟩
theorem Inv.bk(I:Inv X aa σ H s):∀b o,X.base.get? b=some o->s.heap.get? b=some o:=λb o e=>(I.bs b o e).1
theorem Inv.mod(I:Inv X aa σ H s):Mod X.K X.mg X.base:=I.ok.mod
theorem Inv.kIn(I:Inv X aa σ H s):X.K.In s.heap:=I.ok.mod.kin.keeps I.bk
theorem Inv.lt(I:Inv X aa σ H s):X.env.locals<s.heap.objs.size:=by obtain⟨_,hn,_⟩:=I.loc;exact hn.lt
theorem Inv.sz(I:Inv X aa σ H s):X.s₀.heap.objs.size<=s.heap.objs.size:=aL I.ok.above (Y2 I.lt)
theorem Inv.nofs(I:Inv X aa σ H s){a:Addr}(h:s.heap.objs.size<=a):a∉X.fs:=λhb=>by
 obtain⟨_,o,ho,_⟩:=I.ok.funs.mem hb;exact absurd (aR (aK ho) (aL I.sz h)) (X9 _)
theorem Inv.cne(I:Inv X aa σ H s):∀x c,X.env.cells.lookup x=some c->c≠X.env.locals:=λx c e z=>by
 obtain⟨v,o,ho,hd⟩:=I.cell x c e;obtain⟨m,⟨o',es,ep,di,bv,_⟩,_⟩:=I.loc;rw[z,di]at ho;cases ho;rw[bv]at hd;cases hd
theorem Inv.funs(I:Inv X aa σ H s):s.heap.FunFrames X.base X.outer:=by
 have all:∀(l:List Env),(∀b∈frs l,b∈X.fs)->X.s₀.heap.FunFrames X.base l->s.heap.FunFrames X.base l:=by
  intro l
  induction l with
  |nil=>intro _ _;trivial
  |cons env r ih =>
   intro hs hl;obtain⟨hk,⟨L,o,hf,hn,ho,hd⟩,hr⟩:=hl;have hL:L∈X.fs:=hs L (by unfold frs;rw[List.filterMap_cons,hf];exact aO);obtain⟨sl,e⟩:=I.base.slot L o ho (I.ok.frf L hL) hL λz=>I.ok.exfs L z hL;exact⟨hk,⟨L,_,hf,hn,e,hd⟩,ih (λb hb=>hs b (by unfold frs;rw[List.filterMap_cons,hf];exact aJ _ hb)) hr⟩
 exact all X.outer (λ_ hb=>hb) I.ok.funs
theorem Inv.stack(I:Inv X aa σ H s):s.heap.FunFrames X.base X.stack:=by
 rcases I.ok.stk with e|⟨e,hf⟩
 .rw[e];exact I.funs
 .rw[e];obtain⟨m,hn,_⟩:=I.loc;refine .cons (by rw[I.ok.kind];decide) hf hn ?_ I.funs;exact Heap.get?_none_of_le (aL I.ok.bsz I.ok.above)
theorem Inv.stkSub(I:Inv X aa σ H s):∀b∈frs X.stack,b∈X.env.locals::X.fs:=λb hb=>by
 rcases I.ok.stk with e|⟨e,hf⟩
 .rw[e]at hb;exact aJ _ hb
 .rw[e]at hb;unfold frs at hb;rw[List.filterMap_cons,hf]at hb;exact hb
theorem Inv.stkFree(I:Inv X aa σ H s):∀b∈frs X.stack,H b=none:=λb hb=>by
 rcases YU.mp (I.stkSub b hb)with e|hb
 .rw[e];exact I.free
 .obtain⟨_,o,ho,_⟩:=I.ok.funs.mem hb;exact I.base.free b o ho (I.ok.frf b hb) λz=>I.ok.exfs b z hb
theorem Inv.step{g':Array GenState}{t':Nat}{d':Drawn}{ch:Ψ}(I:Inv X aa σ H s)
 (fg:∀b∈ch,(b∈X.ex\/X.s₀.heap.objs.size<=b)/\b≠X.env.locals/\(∀x c,X.env.cells.lookup x=some c->c≠b)/\∀p∈X.pn++aa,p.1≠b)
 (keep:∀b o,b≠X.env.locals->b∉X.fs->b∉ch->s.heap.get? b=some o->H b=none->h'.get? b=some o)
 (slot:∀b o,b≠X.env.locals->b∈X.fs->b∉ch->s.heap.get? b=some o->H b=none->∃sl,h'.get? b=some { o with slots:=sl })(free:∀b o,b∉ch->s.heap.get? b=some o->H b=none->H' b=none)
 (there:∀b o,b∉ch->s.heap.get? b=some o->∃o',h'.get? b=some o')
 (tups:∀b xs,H b=some (.tup xs)->H' b=some (.tup xs))(frzs:∀b o u,H b=some (.frz o u)->H' b=some (.frz o u))(tbls:∀b ps,H b=some (.tbl ps)->∃more,H' b=some (.tbl (ps++more)))
 (ns:∀m,s.heap.Ns X.env.locals m->h'.Ns X.env.locals m)(hok:HOk X.prog X.w H' h')(hg:AllBare g') :
  Inv X aa σ H' { s with heap:=h',gens:=g',drawn:=d',toks:=t' }:=by
 have neL:∀b o,X.s₀.heap.get? b=some o->b≠X.env.locals:=λb o e=>aQ (aR (aK e) I.ok.above);have jv:∀b o,X.s₀.heap.get? b=some o->b∉X.ex->b∉ch:=λb o e hx hb=>by
  rcases(fg b hb).1 with z|z
  .exact hx z
  .exact absurd (aR (aK e) z) (X9 _)
 have gh:∀x c,X.env.cells.lookup x=some c->∀v,s.heap.IsCell c v->h'.IsCell c v:=λx c e v hP=>by
  obtain⟨o,ho,hd⟩:=hP;have im:c∉ch:=λz=>(fg c z).2.2.1 x c e rfl;by_cases hc:c∈X.fs
  .obtain⟨sl,q⟩:=slot c o (I.cne x c e) hc im ho (I.freeC x c e);exact⟨_,q,hd⟩
  .exact⟨o,keep c o (I.cne x c e) hc im ho (I.freeC x c e),hd⟩
 refine⟨I.ok,I.os,hg,⟨λb o e n hb hx=>?_,λb o e n hb hx=>?_,λb o e n hx=>?_,λb o e hx=>?_,λb xs e=>tups b xs (I.base.tups b xs e),λb o xs e=>frzs b o xs (I.base.frzs b o xs e),λb ps e=>?_⟩,?_,λx c e=>?_,?_,λx c e=>?_,λp hp=>?_,hok,I.len⟩
 .exact keep b o (neL b o e) hb (jv b o e hx) (I.base.keep b o e n hb hx) (I.base.free b o e n hx)
 .obtain⟨sl,e1⟩:=I.base.slot b o e n hb hx;obtain⟨sl',e2⟩:=slot b _ (neL b o e) hb (jv b o e hx) e1 (I.base.free b o e n hx);exact⟨sl',e2⟩
 .obtain⟨o',e1⟩:=I.base.there b o e hx;exact free b o' (jv b o e hx) e1 (I.base.free b o e n hx)
 .obtain⟨o',e1⟩:=I.base.there b o e hx;exact there b o' (jv b o e hx) e1
 .obtain⟨m1,e1⟩:=I.base.tbls b ps e;obtain⟨m2,e2⟩:=tbls b _ e1;exact⟨m1++m2,by rw[e2,Array.append_assoc]⟩
 .obtain⟨m,hn,hl⟩:=I.loc;refine⟨m,ns m hn,λi x v e1 e2 e3=>?_⟩;obtain⟨u,r,l⟩:=hl i x v e1 e2 e3;refine⟨u,r,?_⟩;rcases l with l|⟨k,c,e,z⟩
  .exact .inl l
  .exact .inr ⟨k,c,e,gh x c e _ z⟩
 .obtain⟨v,z⟩:=I.cell x c e;exact⟨v,gh x c e v z⟩
 .obtain⟨m,⟨o,_,_,ho,_⟩,_⟩:=I.loc;exact free _ o (λz=>(fg _ z).2.1 rfl) ho I.free
 .obtain⟨v,o,ho,hd⟩:=I.cell x c e;exact free c o (λz=>(fg c z).2.2.1 x c e rfl) ho (I.freeC x c e)
 .obtain⟨e,n,ne,nf,d⟩:=I.pin p hp;have im:p.1∉ch:=λz=>(fg p.1 z).2.2.2 p hp rfl;exact⟨keep p.1 p.2 ne nf im e n,free p.1 p.2 im e n,ne,nf,d⟩
theorem Inv.un{t':Nat}(I:Inv X aa σ H s)(u:Un X.fs [] H H' s.heap h')(hok:HOk X.prog X.w H' h'):Inv X aa σ H' { s with heap:=h',toks:=t' }:=by
 obtain⟨m,⟨o,es,ep,ho,r⟩,_⟩:=id I.loc;obtain⟨sl,hL⟩:=u.any ho I.free (by simp);exact I.step (g':=s.gens) (d':=s.drawn) (ch:=[]) (λ_ z=>nomatch z) (λb o _ hb _ e n=>u.keep b o e n hb (by simp)) (λb o _ hb _ e n=>u.slot b o e n hb (by simp)) (λb o _ e n=>u.free b o e n (by simp)) (λb o _ e=>u.there b o e (by simp)) u.tups u.frzs u.tbls (λm' hm=>by
  obtain⟨o',mr,mw,di,r'⟩:=hm;rw[ho]at di;cases di;exact⟨_,mr,mw,hL,r'⟩) hok I.bare
theorem Inv.call{g':Array GenState}{t':Nat}{d':Drawn}{ch:Ψ}(I:Inv X aa σ H s)(u:Un (frs X.stack) ch H H' s.heap h')(hok:HOk X.prog X.w H' h')(hg:AllBare g')
 (fg:∀b∈ch,(b∈X.ex\/X.s₀.heap.objs.size<=b)/\b≠X.env.locals/\(∀x c,X.env.cells.lookup x=some c->c≠b)/\∀p∈X.pn++aa,p.1≠b) :
  Inv X aa σ H' { s with heap:=h',gens:=g',drawn:=d',toks:=t' }:=by
 obtain⟨m,⟨o,es,ep,ho,r⟩,_⟩:=id I.loc;obtain⟨sl,hL⟩:=u.any ho I.free λz=>(fg _ z).2.1 rfl;exact I.step (ch:=ch) fg (λb o hL hb hc e n=>u.keep b o e n (λz=>(YU.mp (I.stkSub b z)).elim hL hb) hc) (λb o _ _ hc e n=>u.any e n hc) (λb o hc e n=>u.free b o e n hc) (λb o hc e=>u.there b o e hc) u.tups u.frzs u.tbls (λm' hm=>by
  obtain⟨o',mr,mw,di,r'⟩:=hm;rw[ho]at di;cases di;exact⟨_,mr,mw,hL,r'⟩) hok hg
theorem Inv.turned{t':Nat}{it:Addr}(I:Inv X aa σ H s)(k:∀b o,b≠it->s.heap.get? b=some o->h'.get? b=some o)(hn:H it=none)(hL:it≠X.env.locals)
 (h1:it∈X.ex\/X.s₀.heap.objs.size<=it)(h2:∀x c,X.env.cells.lookup x=some c->c≠it)(h3:∀p∈X.pn++aa,p.1≠it):Inv X aa σ H { s with heap:=h',toks:=t' }:=by
 have ik:∀b u,H b=some u->b≠it:=λb u e z=>by rw[z,hn]at e;cases e
 refine I.step (g':=s.gens) (d':=s.drawn) (ch:=[it]) (λb hb=>?_) (λb o _ _ hc e _=>k b o (λz=>hc (by simp[z])) e) (λb o _ _ hc e _=>⟨o.slots,k b o (λz=>hc (by simp[z])) e⟩) (λ_ _ _ _ n=>n)
  (λb o hc e=>⟨o,k b o (λz=>hc (by simp[z])) e⟩) (λ_ _ e=>e) (λ_ _ _ e=>e) (λb ps e=>⟨#[],by rw[e];simp⟩) (λm hm=>?_) (λb u e=>?_) I.bare
 .have e:b=it:=by simpa using hb
  subst e;exact⟨h1,hL,h2,h3⟩
 .obtain⟨o,es,ep,ho,r⟩:=hm;exact⟨o,es,ep,k _ o (Ne.symm hL) ho,r⟩
 .refine(I.hok b u e).stay (λc v hc q=>k c v ?_ q) (λ_ q=>q) λ_ _ q=>q;rcases hc with z|z
  .rw[z];exact ik b u e
  .exact ik c _ z
theorem Inv.tok(I:Inv X aa σ H s)(t:Nat):Inv X aa σ H { s with toks:=t }:=I.un (h':=s.heap) (t':=t) Un.refl I.hok
theorem Inv.kept{t':Nat}(I:Inv X aa σ H s)(k:∀b u,s.heap.get? b=some u->h'.get? b=some u):Inv X aa σ H { s with heap:=h',toks:=t' }:=I.un (Un.kept k) (I.hok.kept k)
theorem Inv.laid{a:Addr}{o:HO}{t':Nat}(I:Inv X aa σ H s)(k:∀b u,s.heap.get? b=some u->h'.get? b=some u)(hp:s.heap.objs.size<=a)(new:fZ X.prog X.w (upd H a o) h' a o) :
  Inv X aa σ (upd H a o) { s with heap:=h',toks:=t' }:=I.un (Un.laid k hp (I.hok.fresh hp)) (I.hok.laid k hp new)
theorem Inv.write{x e:Addr}{o:HO}{t':Nat}(I:Inv X aa σ H s)(mu:Mut (H x))(he:e=x\/H e=some (.own x))(k:∀b u,b≠e->s.heap.get? b=some u->h'.get? b=some u)(h7:∃u,h'.get? e=some u)
 (new:fZ X.prog X.w (upd H x o) h' x o):Inv X aa σ (upd H x o) { s with heap:=h',toks:=t' }:=I.un (Un.write mu he k h7) (I.hok.write mu he k h7 new)
theorem Inv.pins_of{fR:Δ}(I:Inv X aa σ H s)(h:∀p∈fR,s.heap.get? p.1=some p.2/\H p.1=none/\p.1≠X.env.locals/\p.1∉X.fs/\∀v,p.2.data≠.cell v):Inv X fR σ H s :=
 ⟨I.ok,I.os,I.bare,I.base,I.loc,I.cell,I.free,I.freeC,λp hp=>(Y1.mp hp).elim (λz=>I.pin p (UH _ z)) (h p),I.hok,I.len⟩
theorem Pk{N:Φ}(hN:N.Nodup){i j:Nat}{x:Str}(a:N[i]?=some x)(b:N[j]?=some x):i=j:=by
 obtain⟨h1,e1⟩:=ao.mp a;obtain⟨h2,e2⟩:=ao.mp b;exact(List.getElem_inj hN).mp (e1.trans e2.symm)
theorem WT{M:Model}{A:Around}{E:Ε}{i:Nat}{x:Str}{v:V}{u:Value}{Q:Unit->Shared->Prop}(I:Inv X aa σ H s)(hN:X.N.Nodup)(hi:X.N[i]?=some x)(hx:Loc X.env.scope x)(r:RelV v u)
 (h:∀s',Inv X aa (σ.set i (some v)) H s'->(∃a,Heap.SameBut a s.heap s'.heap/\(a=X.env.locals\/X.env.cells.lookup x=some a))->Q () s')(hf:X.fn x=true\/X.env.scope.names.lookup x=some .local):wpAny M A (storeName X.env x u) Q E s:=by
 obtain⟨m,hn,hl⟩:=id I.loc;have lP:(X.env.scope.kind == .class || (X.env.scope.kind == .module&&X.env.locals != X.env.globals))=false:=by rw[I.ok.kind];rfl
 have hiσ:i<σ.length:=by rw[I.len];exact(ao.mp hi).1
 have cne:=I.cne;have dC:∀{a:Addr}{h':Heap},(∃o,s.heap.get? a=some o/\H a=none)->Heap.SameBut a s.heap h'->HOk X.prog X.w H h':=λ{a h'}ha hs b ob e=>by
  obtain⟨_,_,cc⟩:=ha;refine(I.hok b ob e).stay (λc w' hc q=>(hs.2 c ?_).trans q) (λ_ q=>q) λ_ _ q=>q;rintro rfl;rcases hc with rfl|hc
  .rw[cc]at e;cases e
  .rw[cc]at hc;cases hc
 rcases hx with hk|hk
 .refine wpAny_storeName_local hk hn (λh' hn' hs=>?_) lP;obtain⟨oL,_,_,hoL,_⟩:=id hn;refine h _ ⟨I.ok,I.os,I.bare,⟨λb o e n hb hx=>?_,λb o e n hb hx=>?_,I.base.free,λb o e hx=>?_,I.base.tups,I.base.frzs,I.base.tbls⟩,⟨_,hn',λj y v' e1 e2 e3=>?_⟩,λy c e=>?_,I.free,I.freeC,λp hp=>?_,dC ⟨oL,hoL,I.free⟩ hs,by simpa using I.len⟩ ⟨_,hs,.inl rfl⟩
  .exact(hs.2 b (aQ (aR (aK e) I.ok.above))).trans (I.base.keep b o e n hb hx)
  .obtain⟨sl,e1⟩:=I.base.slot b o e n hb hx;exact⟨sl,(hs.2 b (aQ (aR (aK e) I.ok.above))).trans e1⟩
  .obtain⟨o',e1⟩:=I.base.there b o e hx;exact⟨o',(hs.2 b (aQ (aR (aK e) I.ok.above))).trans e1⟩
  .by_cases hj:j=i
   .subst hj;rw[hi]at e1;cases e1;rw[Tu hiσ]at e2;cases e2;exact⟨u,r,.inl ⟨hk,by simp⟩⟩
   .rw[UP (Ne.symm hj)]at e2;obtain⟨u',r',q⟩:=hl j y v' e1 e2 e3;refine⟨u',r',?_⟩;rcases q with⟨k,e⟩|⟨k,c,e,z⟩
    .refine .inl ⟨k,?_⟩;have:y≠x:=λe=>hj (Pk hN e1 (e ▸ hi));simp[this,e]
    .exact .inr ⟨k,c,e,z.sameBut hs (cne y c e)⟩
  .obtain⟨w',z⟩:=I.cell y c e;exact⟨w',z.sameBut hs (cne y c e)⟩
  .obtain⟨e,n,ne,nf,d⟩:=I.pin p hp;exact⟨(hs.2 p.1 ne).trans e,n,ne,nf,d⟩
 .have i4:X.fn x=true:=by
   rcases hf with z|z
   .exact z
   .rw[z]at hk;cases hk
  obtain⟨c,hc⟩:=I.ok.has x (.inl hk);obtain⟨w',z⟩:=I.cell x c hc;refine wpAny_storeName_cell I.ok.kind hk hc z (λh' dm hs=>?_);obtain⟨oc,hoc,kS⟩:=id z;refine h { s with heap:=h' } ⟨I.ok,I.os,I.bare,⟨λb o e n hb hx=>?_,λb o e n hb hx=>?_,I.base.free,λb o e hx=>?_,I.base.tups,I.base.frzs,I.base.tbls⟩,⟨m,hn.sameBut hs (Ne.symm (cne x c hc)),λj y v' e1 e2 e3=>?_⟩,λy c' e=>?_,I.free,I.freeC,λp hp=>?_,dC ⟨oc,hoc,I.freeC x c hc⟩ hs,by simpa using I.len⟩ ⟨c,hs,.inr hc⟩
  .exact(hs.2 b (aQ (aR (aK e) (I.ok.cab x c i4 hc)))).trans (I.base.keep b o e n hb hx)
  .obtain⟨sl,e1⟩:=I.base.slot b o e n hb hx;exact⟨sl,(hs.2 b (aQ (aR (aK e) (I.ok.cab x c i4 hc)))).trans e1⟩
  .obtain⟨o',e1⟩:=I.base.there b o e hx;exact⟨o',(hs.2 b (aQ (aR (aK e) (I.ok.cab x c i4 hc)))).trans e1⟩
  .by_cases hj:j=i
   .subst hj;rw[hi]at e1;cases e1;rw[Tu hiσ]at e2;cases e2;exact⟨u,r,.inr ⟨.inl hk,c,hc,dm⟩⟩
   .rw[UP (Ne.symm hj)]at e2;obtain⟨u',r',q⟩:=hl j y v' e1 e2 e3;refine⟨u',r',?_⟩;rcases q with q|⟨k,c',e,z'⟩
    .exact .inl q
    .refine .inr ⟨k,c',e,z'.sameBut hs ?_⟩;rintro rfl;exact hj (Pk hN e1 (I.ok.inj _ _ _ e hc ▸ hi))
  .by_cases kb:c'=c
   .subst kb;exact⟨_,dm⟩
   .obtain⟨w2,z2⟩:=I.cell y c' e;exact⟨w2,z2.sameBut hs kb⟩
  .obtain⟨e,n,ne,nf,d⟩:=I.pin p hp;refine⟨(hs.2 p.1 ?_).trans e,n,ne,nf,d⟩;intro q;rw[q,hoc]at e;have q':oc=p.2:=Option.some.inj e;exact d w' (by rw[<- q'];exact kS)
theorem vf{M:Model}{A:Around}{E:Ε}{i:Nat}{x:Str}{v:V}{u:Value}{Q:Unit->Shared->Prop}(I:Inv X aa σ H s)(hN:X.N.Nodup)(hi:X.N[i]?=some x)(hx:Loc X.env.scope x)(r:RelV v u)
 (h:∀s',Inv X aa (σ.set i (some v)) H s'->Q () s')(hf:X.fn x=true\/X.env.scope.names.lookup x=some .local:=by first|exact .inl rfl|exact .inr rfl|assumption):wpAny M A (storeName X.env x u) Q E s :=
 WT I hN hi hx r (λs' I' _=>h s' I') hf
theorem Inv.call'{s':Shared}{ch:Ψ}(I:Inv X aa σ H s)(ho:s'.os=s.os)(u:Un (frs X.stack) ch H H' s.heap s'.heap)(hok:HOk X.prog X.w H' s'.heap)(hg:AllBare s'.gens)
 (fg:∀b∈ch,(b∈X.ex\/X.s₀.heap.objs.size<=b)/\b≠X.env.locals/\(∀x c,X.env.cells.lookup x=some c->c≠b)/\∀p∈X.pn++aa,p.1≠b):Inv X aa σ H' s':=by
 obtain⟨h',g',d',t',o'⟩:=s';have e:o'=s.os:=ho;subst e;exact I.call (g':=g') (t':=t') (d':=d') u hok hg fg
end
abbrev XK:=Value->Ξ->Hp->Prop
noncomputable abbrev St:=List (Option V)
abbrev VK:=V->Hp->Prop
abbrev TE:=St->Hp->VK->Prop
abbrev TT:=St->Hp->(Bool->Hp->Prop)->Prop
abbrev TA:=St->Hp->(Ζ->Hp->Prop)->Prop
structure Ends where
 nx:St->Hp->Prop
 rt:VK
 bk:St->Hp->Prop:=λ_ _=>False
 ct:St->Hp->Prop:=λ_ _=>False
abbrev TS:=Ends->St->Hp->Prop
def EP(X:Cx)(aa:Δ)(σ:St)(Q:VK)(u:Value)(s':Shared):Prop:=∃v H',Inv X aa σ H' s'/\RelV v u/\Q v H'
def TP(X:Cx)(aa:Δ)(σ:St)(Q:Bool->Hp->Prop)(b:Bool)(s':Shared):Prop:=∃H',Inv X aa σ H' s'/\Q b H'
def AP(X:Cx)(aa:Δ)(σ:St)(Q:Ζ->Hp->Prop)(us:Θ)(s':Shared):Prop:=∃vs H',Inv X aa σ H' s'/\Vals vs us/\Q vs H'
def SP(X:Cx)(aa:Δ)(D:Ends)(f:Flow)(s':Shared):Prop :=
 match f with
 |.next=>∃σ' H',Inv X aa σ' H' s'/\D.nx σ' H'
 |.brk=>∃σ' H',Inv X aa σ' H' s'/\D.bk σ' H'
 |.cont=>∃σ' H',Inv X aa σ' H' s'/\D.ct σ' H'
 |.ret u=>∃v σ' H',Inv X aa σ' H' s'/\RelV v u/\D.rt v H'
def PE(X:Cx)(e:Expr)(t:TE):Prop :=
 ∀(aa:Δ)(s:Shared)(σ:St)(H:Hp)(Q:VK),Inv X aa σ H s->t σ H Q->wpAny (model X.prog X.w) X.A (eval e X.env) (EP X aa σ Q) X.xe s
def PT(X:Cx)(e:Expr)(t:TT):Prop :=
 ∀(aa:Δ)(s:Shared)(σ:St)(H:Hp)(Q:Bool->Hp->Prop),Inv X aa σ H s->t σ H Q->wpAny (model X.prog X.w) X.A (isTrue e X.env (eval e X.env)) (TP X aa σ Q) X.xe s
def PW(X:Cx)(e:Expr)(t:TT):Prop :=
 ∀(cr:Sem Value)(aa:Δ)(s:Shared)(σ:St)(H:Hp)(Q:Bool->Hp->Prop),Inv X aa σ H s->t σ H Q->wpAny (model X.prog X.w) X.A (isTrue e X.env cr) (TP X aa σ Q) X.xe s
theorem PW.pt{X:Cx}{e:Expr}{t:TT}(h:PW X e t):PT X e t:=h _
def PA(X:Cx)(es:List Expr)(t:TA):Prop :=
 ∀(pos:Pos)(aa:Δ)(s:Shared)(σ:St)(H:Hp)(Q:Ζ->Hp->Prop),Inv X aa σ H s->t σ H Q->wpAny (model X.prog X.w) X.A (spliced (backTo pos (starEach es X.env))) (AP X aa σ Q) X.xe s
def PS(X:Cx)(st:Stmt)(t:TS):Prop :=
 ∀(aa:Δ)(s:Shared)(σ:St)(H:Hp)(D:Ends),Inv X aa σ H s->t D σ H->wpAny (model X.prog X.w) X.A (exec st X.env) (SP X aa D) X.xe s
def PSs(X:Cx)(st:List Stmt)(t:TS):Prop :=
 ∀(aa:Δ)(s:Shared)(σ:St)(H:Hp)(D:Ends),Inv X aa σ H s->t D σ H->wpAny (model X.prog X.w) X.A (execs st X.env) (SP X aa D) X.xe s
theorem thn{α:Type}{t:Sem α}{Q Q':α->Shared->Prop}{M:Model}{A:Around}{E:Ε}{s:Shared}(h:wpAny M A t Q E s)(hQ:∀a s,Q a s->Q' a s):wpAny M A t Q' E s:=wpAny_mono h hQ λ_ _ x=>x
section
variable{X:Cx}
def ag3(i:Nat):TE:=λσ H Q=>∃v,σ[i]?=some (some v)/\Q v H
def tC(v:V):TE:=λ_ H Q=>Q v H
theorem afM{i:Nat}{x:Str}{pos:Pos}(hN:X.N[i]?=some x)(hv:Vis X.env.scope x)(hd:(x==("__debug__":Str))=false:=by decide)(bg:(x==("__classdict__":Str))=false:=by decide):PE X (.Name x pos) (ag3 i):=by
 intro aa s σ H Q I h;obtain⟨v,e,h⟩:=h;obtain⟨m,hn,hl⟩:=I.loc;obtain⟨u,r,l⟩:=hl i x v hN e hv;have bu:EP X aa σ Q u s:=⟨v,H,I,r,h⟩;rcases l with⟨hk,hm⟩|⟨hk,c,hc,cS⟩
 .exact wpAny_Name (wpAny_loadName_local I.ok.kind hk hn hm bu) hd
 .rcases hk with hk|hk
  .exact wpAny_Name (wpAny_loadName_cell I.ok.kind hk hc cS bu) hd
  .exact wpAny_Name (wpAny_loadName_free I.ok.kind hk hc cS bu bg) hd
theorem aga{i j pos} : PE X (.Constant (.int i) j pos) (tC (.int i)):=λ_ _ _ H _ I h=>wpAny_Constant_int ⟨.int i,H,I.tok _,⟨_,rfl⟩,h⟩
theorem akh{b j pos} : PE X (.Constant (.bool b) j pos) (tC (.bl b)):=λ_ _ _ H _ I h=>Constant_bool ⟨.bl b,H,I,rfl,h⟩
theorem aey{j pos} : PE X (.Constant .none j pos) (tC .non):=λ_ _ _ H _ I h=>Constant_none ⟨.non,H,I,rfl,h⟩
theorem ae9{x j pos} : PE X (.Constant (.str x) j pos) (tC (.str x)):=λ_ _ _ H _ I h=>Calls.Constant_str ⟨.str x,H,I.tok _,⟨_,rfl⟩,h⟩
def Gl(X:Cx)(x:Str):Prop:=X.env.kindOf x=some .globalImplicit
theorem Gq{E:Ε}{aa:Δ}{s:Shared}{σ:St}{H:Hp}{x:Str}{u:Value}{pos:Pos}{Q:Ε}(I:Inv X aa σ H s)(hg:Gl X x)(hm:X.mg x=some u)(h:Q u s)
 (hd:(x==("__debug__":Str))=false:=by decide):wpAny (model X.prog X.w) X.A (eval (.Name x pos) X.env) Q E s :=
 Calls.Name_function_global I.ok.kind hg (Calls.loadGlobal_global (by rw[I.ok.glob];exact I.mod.glob.keeps I.bk) hm h) hd
theorem zB{E:Ε}{aa:Δ}{s:Shared}{σ:St}{H:Hp}{x:Str}{u:Value}{pos:Pos}{Q:Ε}(I:Inv X aa σ H s)(hg:Gl X x)(hm:X.mg x=none)(hv:bootBuiltins x=some u)(h:Q u s)
 (hn:x≠"__name__":=by decide)(hd:(x==("__debug__":Str))=false:=by decide):wpAny (model X.prog X.w) X.A (eval (.Name x pos) X.env) Q E s:=by
 obtain⟨mb,h1,h2⟩:=I.mod.blt;exact Calls.Name_function_global I.ok.kind hg (Calls.loadGlobal_builtin (by rw[I.ok.glob];exact I.mod.glob.keeps I.bk) hm (by rw[I.ok.blt];exact h1.keeps I.bk) ((h2 x hn).trans hv) h) hd
theorem Wm{x:Str}{v:V}{u:Value}{pos:Pos}(hg:Gl X x)(hm:X.mg x=some u)(r:RelV v u)(hd:(x==("__debug__":Str))=false:=by decide):PE X (.Name x pos) (tC v) :=
 λ_ _ _ H _ I h=>Gq I hg hm ⟨v,H,I,r,h⟩ hd
theorem abR{x:Str}{v:V}{u:Value}{pos:Pos}(hg:Gl X x)(hm:X.mg x=none)(hv:bootBuiltins x=some u)(r:RelV v u)(hn:x≠"__name__":=by decide)(hd:(x==("__debug__":Str))=false:=by decide):PE X (.Name x pos) (tC v) :=
 λ_ _ _ H _ I h=>zB I hg hm hv ⟨v,H,I,r,h⟩ hn hd
variable{a b:Expr}{ta tb:TE}{pos:Pos}
def PC(X:Cx)(op:CmpOp)(a b:Expr)(t:TE):Prop :=
 ∀(aa:Δ)(s:Shared)(σ:St)(H:Hp)(Q:VK),Inv X aa σ H s->t σ H Q ->
  wpAny (model X.prog X.w) X.A (eval a X.env) (λv s₁=>wpAny (model X.prog X.w) X.A (eval b X.env) (λu s₂=>wpAny (model X.prog X.w) X.A (compareOp op v u) (EP X aa σ Q) X.xe s₂) X.xe s₁) X.xe s
def tB(t:TE):TT:=λσ H Q=>t σ H λx H1=>∃c,x=.bl c/\Q c H1
theorem aau{op:CmpOp}{t:TE}(h:PC X op a b t)(h1:behindInMarks op b=false:=by rfl):PT X (.Compare a [op] [b] pos) (tB t):=by
 intro aa s σ H Q I hw;refine wpAny_isTrue_Compare1 (thn (h aa s σ H _ I hw) λv s1 h1=>thn h1 λu s2 h2=>thn h2 λc s3 hP=>?_) h1;obtain⟨x,H1,I1,r1,q1⟩:=hP;obtain⟨d,rfl,q⟩:=q1;cases r1;exact wpAny_truthy_bool ⟨H1,I1,q⟩
variable{tA jp:TT}{rest:List Expr}
def alR(t u:TT):TT:=λσ H Q=>t σ H λc H1=>if c=true then u σ H1 Q else Q false H1
def tOr(t u:TT):TT:=λσ H Q=>t σ H λc H1=>if c=true then Q true H1 else u σ H1 Q
def anA(t:TT):TT:=λσ H Q=>t σ H λc H1=>Q (!c) H1
theorem pw_and1(ha:PT X a tA):PW X (.BoolOp .And [a] pos) tA:=by
 intro wh aa s σ H Q I h;refine isTrue_and (thn (ha aa s σ H Q I h) λc s1 e=>?_);cases c with
 |true=>exact isTrue_and_nil e
 |false=>exact e
theorem pw_or1(ha:PT X a tA):PW X (.BoolOp .Or [a] pos) tA:=by
 intro wh aa s σ H Q I h;refine isTrue_or (thn (ha aa s σ H Q I h) λc s1 e=>?_);cases c with
 |false=>exact isTrue_or_nil e
 |true=>exact e
theorem pw_and(ha:PT X a tA)(hb:PW X (.BoolOp .And (b::rest) pos) jp):PW X (.BoolOp .And (a::b::rest) pos) (alR tA jp):=by
 intro wh aa s σ H Q I h;refine isTrue_and (thn (ha aa s σ H _ I h) λc s1 hP=>?_);obtain⟨H1,I1,q1⟩:=hP;cases c with
 |true=>exact hb wh aa s1 σ H1 Q I1 q1
 |false=>exact⟨H1,I1,q1⟩
theorem pw_or(ha:PT X a tA)(hb:PW X (.BoolOp .Or (b::rest) pos) jp):PW X (.BoolOp .Or (a::b::rest) pos) (tOr tA jp):=by
 intro wh aa s σ H Q I h;refine isTrue_or (thn (ha aa s σ H _ I h) λc s1 hP=>?_);obtain⟨H1,I1,q1⟩:=hP;cases c with
 |true=>exact⟨H1,I1,q1⟩
 |false=>exact hb wh aa s1 σ H1 Q I1 q1
theorem agt(ha:PT X a tA):PT X (.UnaryOp .Not a pos) (anA tA):=by
 intro aa s σ H Q I h;exact isTrue_not (ha aa s σ H (λc H1=>Q (!c) H1) I h)
def ak5(ta tb:TE):TE:=λσ H Q=>ta σ H λx H1=>∃c,x=.bl c/\if c=true then tb σ H1 Q else Q (.bl false) H1
def akd(ta:TE):TE:=λσ H Q=>ta σ H λx H1=>∃c,x=.bl c/\Q (.bl (!c)) H1
theorem afW{op}{t:TE}(h:PE X a t):PE X (.BoolOp op [a] pos) t:=λaa s σ H Q I hw=>BoolOp_one (h aa s σ H Q I hw)
theorem aej(ha:PE X a ta)(hb:PE X (.BoolOp .And (b::rest) pos) tb):PE X (.BoolOp .And (a::b::rest) pos) (ak5 ta tb):=by
 intro aa s σ H Q I h;refine BoolOp_and (thn (ha aa s σ H _ I h) λv s1 hP=>?_);obtain⟨x,H1,I1,r1,q1⟩:=hP;obtain⟨c,rfl,q1⟩:=q1;cases r1;refine wpAny_truthy_bool ?_;cases c with
 |true=>exact hb aa s1 σ H1 Q I1 q1
 |false=>exact⟨.bl false,H1,I1,rfl,q1⟩
theorem ae2(ha:PE X a ta):PE X (.UnaryOp .Not a pos) (akd ta):=by
 intro aa s σ H Q I h;refine UnaryOp_ (thn (ha aa s σ H _ I h) λv s1 hP=>?_);obtain⟨x,H1,I1,r1,q1⟩:=hP;obtain⟨c,rfl,q1⟩:=q1;cases r1;exact not_of (wpAny_truthy_bool ⟨.bl (!c),H1,I1,rfl,q1⟩)
def tIf(t:TT)(ta tb:TE):TE:=λσ H Q=>t σ H λc H1=>if c=true then ta σ H1 Q else tb σ H1 Q
theorem YM{c:Expr}(hc:PT X c tA)(ha:PE X a ta)(hb:PE X b tb):PE X (.IfExp c a b pos) (tIf tA ta tb):=by
 intro aa s σ H Q I h;refine wpAny_IfExp (thn (hc aa s σ H _ I h) λd s1 hP=>?_);obtain⟨H1,I1,q1⟩:=hP;cases d with
 |true=>exact ha aa s1 σ H1 Q I1 q1
 |false=>exact hb aa s1 σ H1 Q I1 q1
end
def SqL(K:Frag)(H:Hp)(a:Addr)(xs:Ζ):Prop :=
 Rd H a (.lst xs) \/
  ∃(o:Obj)(its:Array Value)(n:Nat),K.lookup a=some o/\o.cls=.type "list"/\o.dict=none/\o.data=.seq its n/\its.size<=sizeLine/\Vals xs its.toList
def SqT(K:Frag)(H:Hp)(a:Addr)(xs:Ζ):Prop :=
 Rd H a (.tup xs) \/
  ∃(o:Obj)(its:Array Value)(n:Nat),K.lookup a=some o/\o.cls=.type "tuple"/\o.data=.seq its n/\its.size<=sizeLine/\Vals xs its.toList
noncomputable def ana:Value->Option V
 |.none=>some .non
 |.bool b=>some (.bl b)
 |.int i _=>some (.int i)
 |.str x _=>some (.str x)
 |.bytes b _=>some (.byt b)
 |.float b _=>some (.flt b)
 |.ref a=>some (.ref a)
 |.type n=>some (.ty n)
 |_=>none
theorem RelV.abs{x:V}{u:Value}(r:RelV x u):ana u=some x:=by
 cases x with
 |non=>cases r;rfl
 |bl _=>cases r;rfl
 |int _=>obtain⟨t,rfl⟩:=r;rfl
 |str _=>obtain⟨t,rfl⟩:=r;rfl
 |byt _=>obtain⟨t,rfl⟩:=r;rfl
 |flt _=>obtain⟨t,rfl⟩:=r;rfl
 |ref _=>cases r;rfl
 |ty _=>cases r;rfl
theorem RelV.inj{x y:V}{u:Value}(r:RelV x u)(q:RelV y u):x=y:=Option.some.inj (r.abs.symm.trans q.abs)
theorem Vals.inj:∀{xs ys:Ζ}{us:Θ},Vals xs us->Vals ys us->xs=ys
 |_,_,_,.nil,.nil=>rfl
 |_,_,_,.cons r t,.cons r' t'=>by rw[r.inj r',Vals.inj t t']
section
variable{X:Cx}{aa:Δ}{σ:St}{H:Hp}{s:Shared}{a:Addr}{xs ys:Ζ}
theorem SqL.of{K:Frag}(h:H a=some (.lst xs)):SqL K H a xs:=.inl (.inl h)
theorem SqT.of{K:Frag}(h:H a=some (.tup xs)):SqT K H a xs:=.inl (.inl h)
theorem Inv.list(I:Inv X aa σ H s)(h:SqL X.K H a xs):∃its:Θ,Vals xs its/\PlainL s.heap a its.toArray/\xs.length<=sizeLine:=by
 rcases h with h|⟨o,its,n,hk,hc,hd,hs,hz,r⟩
 .obtain⟨z,its,n,r,e⟩:=h.ok I.hok;exact⟨its,r,⟨_,n,e,rfl,rfl,rfl⟩,z⟩
 .refine⟨its.toList,r,⟨o,n,I.kIn a o hk,hc,hd,by simpa using hs⟩,?_⟩;have e:=r.length;simp only[Array.length_toList]at e;exact aL (WG e) hz
theorem Inv.tuple(I:Inv X aa σ H s)(h:SqT X.K H a xs):∃its:Θ,Vals xs its/\IsTup s.heap a its.toArray/\xs.length<=sizeLine:=by
 rcases h with h|⟨o,its,n,hk,hc,hs,hz,r⟩
 .obtain⟨z,its,r,p⟩:=h.ok I.hok;exact⟨its,r,p,z⟩
 .refine⟨its.toList,r,⟨o,I.kIn a o hk,hc,n,by simpa using hs⟩,?_⟩;have e:=r.length;simp only[Array.length_toList]at e;exact aL (WG e) hz
theorem Inv.list_inj(I:Inv X aa σ H s)(h:SqL X.K H a xs)(h':SqL X.K H a ys):xs=ys:=by
 obtain⟨its,r,⟨o,n,e,_,_,d⟩,_⟩:=I.list h;obtain⟨its',r',⟨o',n',e',_,_,d'⟩,_⟩:=I.list h';rw[e]at e';cases e';rw[d]at d';injection d' with d1 _;have:its=its':=by simpa using ZH Array.toList d1
 subst this;exact r.inj r'
end
noncomputable abbrev Cx.wish(X:Cx)(E:Ε):Cx:={ X with xe:=E }
noncomputable abbrev Cx.nox(X:Cx):Cx:=X.wish λ_ _=>False
theorem Cx.Ok.wish{X:Cx}(ok:X.Ok)(E:Ε):(X.wish E).Ok :=
 ⟨ok.mod,ok.kind,ok.glob,ok.blt,ok.above,ok.inj,ok.has,ok.cab,ok.hd,ok.frames,ok.stk,ok.exf,ok.bs,ok.bsz,ok.noex,ok.exfs,ok.funs,ok.frf⟩
theorem Cx.Ok.unwish{X:Cx}{E:Ε}(ok:(X.wish E).Ok):X.Ok :=
 ⟨ok.mod,ok.kind,ok.glob,ok.blt,ok.above,ok.inj,ok.has,ok.cab,ok.hd,ok.frames,ok.stk,ok.exf,ok.bs,ok.bsz,ok.noex,ok.exfs,ok.funs,ok.frf⟩
section
variable{X:Cx}{aa:Δ}{σ:St}{H:Hp}{s:Shared}{E:Ε}
theorem Inv.wish(I:Inv X aa σ H s)(E:Ε):Inv (X.wish E) aa σ H s:=⟨I.ok.wish E,I.os,I.bare,I.base,I.loc,I.cell,I.free,I.freeC,I.pin,I.hok,I.len⟩
theorem Inv.unwish(I:Inv (X.wish E) aa σ H s):Inv X aa σ H s:=⟨I.ok.unwish,I.os,I.bare,I.base,I.loc,I.cell,I.free,I.freeC,I.pin,I.hok,I.len⟩
theorem SP.unwish{D:Ends}{f:Flow}{s':Shared}(h:SP (X.wish E) aa D f s'):SP X aa D f s':=by
 cases f with
 |next=>obtain⟨σ',H',I,q⟩:=h;exact⟨σ',H',I.unwish,q⟩
 |brk=>obtain⟨σ',H',I,q⟩:=h;exact⟨σ',H',I.unwish,q⟩
 |cont=>obtain⟨σ',H',I,q⟩:=h;exact⟨σ',H',I.unwish,q⟩
 |ret u=>obtain⟨v,σ',H',I,r,q⟩:=h;exact⟨v,σ',H',I.unwish,r,q⟩
theorem PSs.nox{st:List Stmt}{t:TS}(h:PSs X.nox st t):PSs X st t:=λaa s σ H D I hw =>
 wpAny_mono (h aa s σ H D (I.wish _) hw) (λ_ _ q=>q.unwish) λ_ _ z=>False.elim z
end
section
variable{X:Cx}{st:Stmt}{rest:List Stmt}{t u:TS}{e:Expr}{te:TE}{pos:Pos}
def akl:TS:=λD σ H=>D.nx σ H
def ah1(t u:TS):TS:=λD σ H=>t { D with nx:=u D } σ H
theorem acq:PSs X [] akl:=λ_ _ σ H _ I h=>wpAny_execs_nil ⟨σ,H,I,h⟩
theorem aa4(h1:PS X st t)(h2:PSs X rest u):PSs X (st::rest) (ah1 t u):=by
 intro aa s σ H D I h;refine wpAny_execs_cons (thn (h1 aa s σ H { D with nx:=u D } I h) λf s1 q=>?_);cases f with
 |next =>
  obtain⟨σ',H',I',q⟩:=q;exact h2 aa s1 σ' H' D I' q
 |ret v=>exact q
 |brk=>exact q
 |cont=>exact q
theorem abI(h1:PS X st t):PSs X [st] t:=by
 intro aa s σ H D I h;refine wpAny_execs_cons (thn (h1 aa s σ H D I h) λf s1 q=>?_);cases f with
 |next=>exact wpAny_execs_nil q
 |ret v=>exact q
 |brk=>exact q
 |cont=>exact q
theorem Inv.quiet{aa:Δ}{σ:St}{H:Hp}{s:Shared}(I:Inv X aa σ H s):interactive X.env=false:=by simp[interactive,I.ok.kind]
def ahu(te:TE):TS:=λD σ H=>te σ H λ_ H1=>D.nx σ H1
theorem xU(he:PE X e te)(hs:swapsWith e none pos.line X.env=pure false:=by rfl):PS X (.Expr e pos) (ahu te):=by
 intro aa s σ H D I h;exact wpAny_Expr_any (thn (he aa s σ H _ I h) λv s1 hP=>by obtain⟨x,H1,I1,r1,q1⟩:=hP;exact⟨σ,H1,I1,q1⟩) I.quiet hs
def alA(te:TE):TS:=λD σ H=>te σ H D.rt
theorem S5(he:PE X e te):PS X (.Return (some e) pos) (alA te):=by
 intro aa s σ H D I h;exact wpAny_Return_some (thn (he aa s σ H _ I h) λv s1 hP=>by obtain⟨x,H1,I1,r1,q1⟩:=hP;exact⟨x,σ,H1,I1,r1,q1⟩)
def amh(c:TT)(t u:TS):TS:=λD σ H=>c σ H λb H1=>if b=true then t D σ H1 else u D σ H1
theorem akk{c:Expr}{a b:List Stmt}{tc:TT}(hc:PT X c tc)(ha:PSs X a t)(hb:PSs X b u):PS X (.If c a b pos) (amh tc t u):=by
 intro aa s σ H D I h;refine wpAny_If (thn (hc aa s σ H _ I h) λd s1 hP=>?_);obtain⟨H1,I1,q1⟩:=hP;cases d with
 |true=>exact ha aa s1 σ H1 D I1 q1
 |false=>exact hb aa s1 σ H1 D I1 q1
def aeM:TS:=λ_ _ _=>False
theorem ZK:PS X st aeM:=λ_ _ _ _ _ _ h=>h.elim
end
abbrev TG:=V->St->Hp->(St->Hp->Prop)->Prop
abbrev TGs:=Ζ->St->Hp->(St->Hp->Prop)->Prop
def PG(X:Cx)(gp:Expr)(t:TG):Prop :=
 ∀(aa:Δ)(s:Shared)(σ:St)(H:Hp)(v:V)(u:Value)(Q:St->Hp->Prop),Inv X aa σ H s->RelV v u->t v σ H Q ->
  wpAny (model X.prog X.w) X.A (assign gp X.env u) (λ_ s'=>∃σ' H',Inv X aa σ' H' s'/\Q σ' H') X.xe s
def PGs(X:Cx)(ts:List Expr)(t:TGs):Prop :=
 ∀(aa:Δ)(s:Shared)(σ:St)(H:Hp)(vs:Ζ)(us:Θ)(Q:St->Hp->Prop),Inv X aa σ H s->Vals vs us->t vs σ H Q ->
  wpAny (model X.prog X.w) X.A (assignInOrder ((assignEach ts X.env).map (·.2)) us) (λ_ s'=>∃σ' H',Inv X aa σ' H' s'/\Q σ' H') X.xe s
abbrev afT:=V->V->V->Hp->(Hp->Prop)->Prop
def agL(X:Cx)(t:afT):Prop :=
 ∀(aa:Δ)(s:Shared)(σ:St)(H:Hp)(o i v:V)(ov iv u:Value)(Q:Hp->Prop),Inv X aa σ H s->RelV o ov->RelV i iv->RelV v u->t o i v H Q ->
  wpAny (model X.prog X.w) X.A (setItem ov iv u) (λ_ s'=>∃H',Inv X aa σ H' s'/\Q H') X.xe s
abbrev TIp:=V->V->Hp->VK->Prop
def PIp(X:Cx)(op:Operator)(t:TIp):Prop :=
 ∀(aa:Δ)(s:Shared)(σ:St)(H:Hp)(x y:V)(v u:Value)(Q:VK),Inv X aa σ H s->RelV x v->RelV y u->t x y H Q ->
  wpAny (model X.prog X.w) X.A (inplaceOp op v u) (EP X aa σ Q) X.xe s
section
variable{X:Cx}{pos:Pos}
def yS(i:Nat):TG:=λv σ H Q=>Q (σ.set i (some v)) H
theorem lR{i:Nat}{x:Str}(hN:X.N.Nodup)(hi:X.N[i]?=some x)(hx:Loc X.env.scope x)(hf:X.fn x=true\/X.env.scope.names.lookup x=some .local:=by first|exact .inl rfl|exact .inr rfl|assumption):PG X (.Name x pos) (yS i):=by
 intro aa s σ H v u Q I r h;exact wpAny_assign_Name (vf I hN hi hx r (λs' I'=>⟨_,H,I',h⟩) hf)
def ama:TGs:=λvs σ H Q=>vs=[]/\Q σ H
def ala(t:TG)(u:TGs):TGs:=λvs σ H Q=>∃v r,vs=v::r/\t v σ H λσ' H'=>u r σ' H' Q
theorem abv:PGs X [] ama:=by
 intro aa s σ H vs us Q I r h;obtain⟨e,h⟩:=h;subst e;cases r;exact assignInOrder_nil ⟨σ,H,I,h⟩
theorem aaG{e:Expr}{es:List Expr}{t:TG}{u:TGs}(h1:PG X e t)(h2:PGs X es u)
 (hs:(assignEach (e::es) X.env).map (·.2)=assign e X.env::(assignEach es X.env).map (·.2):=by rfl):PGs X (e::es) (ala t u):=by
 intro aa s σ H vs us Q I r h;obtain⟨v,vr,e1,h⟩:=h;subst e1;cases r with
 |cons r rr =>
  rw[hs];refine assignInOrder_cons (thn (h1 aa s σ H _ _ _ I r h) λ_ s1 hP=>?_);obtain⟨σ1,H1,I1,q1⟩:=hP;exact h2 aa s1 σ1 H1 _ _ Q I1 rr q1
def alQ(K:Frag)(n:Nat)(t:TGs):TG:=λv σ H Q=>∃a xs,v=.ref a/\SqT K H a xs/\xs.length=n/\t xs σ H Q
theorem ae0{es:List Expr}{k:Nat}{t:TGs}{n:Nat}(hc:X.calm=true)(h:PGs X es t)
 (hn:(assignEach es X.env).length=n:=by rfl)(b9:(assignEach es X.env).findIdx? (·.1)=none:=by rfl):PG X (.Tuple es k pos) (alQ X.K n t):=by
 intro aa s σ H v u Q I r hw;obtain⟨a,xs,e1,hq,hl,hw⟩:=hw;subst e1;cases r;obtain⟨its,rv,ht,hz⟩:=I.tuple hq;refine assign_Tuple_tuple (I.ok.hd hc) ht (by simp[hn,<- hl,rv.length]) b9 λh' hx=>?_;have I1:Inv X aa σ H { s with heap:=h' }:=I.kept (t':=s.toks) λb o e=>hx b o (aQ (aK e)) e;exact h aa _ σ H xs _ Q I1 (by simpa using rv) hw
def al6(to ti:TE)(t:afT):TG:=λv σ H Q=>to σ H λo H1=>ti σ H1 λi H2=>t o i v H2 λH3=>Q σ H3
theorem Zz{o i:Expr}{to ti:TE}{t:afT}(ho:PE X o to)(hi:PE X i ti)(hs:agL X t)
 (ha:∀v,assign (.Subscript o i pos) X.env v=(do
   let ov <- holding [v] (eval o X.env)
   let iv <- holding [v,ov] (eval i X.env)
   standAt pos
   holding [v,ov,iv] (setItem ov iv v)
   release [v,ov,iv] []):=by intro _;rfl):PG X (.Subscript o i pos) (al6 to ti t):=by
 intro aa s σ H v u Q I r h;rw[ha];refine ZU (wpAny_holding (thn (ho aa s σ H _ I h) λov s1 hP=>?_));obtain⟨x,H1,I1,r1,q1⟩:=hP;refine ZU (wpAny_holding (thn (hi aa s1 σ H1 _ I1 q1) λiv s2 hP=>?_));obtain⟨y,H2,I2,r2,q2⟩:=hP;refine ZU (wpAny_standAt (ZU (wpAny_holding (thn (hs aa s2 σ H2 x y v ov iv u _ I2 r1 r2 r q2) λ_ s3 hP=>?_))));obtain⟨H3,I3,q3⟩:=hP;exact wpAny_release ⟨σ,H3,I3,q3⟩
def abt(te:TE)(g:TG):TS:=λD σ H=>te σ H λx H1=>g x σ H1 D.nx
theorem T_{tg e:Expr}{te:TE}{g:TG}(he:PE X e te)(hg:PG X tg g)(hs:swapsWithSole [tg] e pos.line X.env=pure false:=by rfl)(hw:swappedStores [tg] e X.env=pure none:=by rfl)
 (h1:(assignEach [tg] X.env).map (·.2)=[assign tg X.env]:=by rfl):PS X (.Assign [tg] e pos) (abt te g):=by
 intro aa s σ H D I h;refine wpAny_Assign_stores (thn (he aa s σ H _ I h) λv s1 hP=>?_) hs hw;obtain⟨x,H1,I1,r1,q1⟩:=hP;rw[h1];exact thn (hg aa s1 σ H1 x v _ I1 r1 q1) λ_ s2 q=>q
theorem aah{i:Nat}{x:Str}{e:Expr}{te:TE}{br:Pos}(hN:X.N.Nodup)(hi:X.N[i]?=some x)(hx:Loc X.env.scope x)(he:PE X e te)(hs:swapsWith e (some (.Name x br)) pos.line X.env=pure false:=by rfl)(hf:X.fn x=true\/X.env.scope.names.lookup x=some .local:=by first|exact .inl rfl|exact .inr rfl|assumption) :
  PS X (.Assign [.Name x br] e pos) (abt te (yS i)):=by
 intro aa s σ H D I h;refine wpAny_Assign_Name (thn (he aa s σ H _ I h) λv s1 hP=>?_) hs;obtain⟨y,H1,I1,r1,q1⟩:=hP;exact vf I1 hN hi hx r1 (λs2 I2=>⟨_,H1,I2,q1⟩) hf
def anu(i j:Nat)(ta:TA):TS:=λD σ H=>ta σ H λvs H1=>∃v w,vs=[v,w]/\D.nx ((σ.set i (some v)).set j (some w)) H1
theorem ad9{i j:Nat}{x y:Str}{a b:Expr}{ta:TA}{px py pt:Pos}{kt k2 pt2}(hc:X.calm=true)(hN:X.N.Nodup)(hi:X.N[i]?=some x)(hj:X.N[j]?=some y)(hZ:i≠j)
 (hx:X.env.scope.names.lookup x=some .local)(hy:X.env.scope.names.lookup y=some .local)(ha:PA X [a,b] ta)
 (hw:swappedStores [.Tuple [.Name x px,.Name y py] kt pt] (.Tuple [a,b] k2 pt2) X.env=pure (some [x,y]))
 (hs:swapsWithSole [.Tuple [.Name x px,.Name y py] kt pt] (.Tuple [a,b] k2 pt2) pos.line X.env=pure false:=by rfl) :
  PS X (.Assign [.Tuple [.Name x px,.Name y py] kt pt] (.Tuple [a,b] k2 pt2) pos) (anu i j ta):=by
 intro aa s σ H D I h;rw[exec_Assign_arm];refine ZU (wpAny_standAt ?_);rw[hs];refine ZU (ZT ?_);rw[ZZ (by decide)];refine ZU (Tuple_ (thn (ha _ aa s σ H _ I h) λus s1 hP=>?_));obtain⟨vs,H1,I1,r1,q1⟩:=hP;obtain⟨v,w,e1,q1⟩:=q1;subst e1;obtain⟨u1,u2,rfl,rv,eS⟩ : ∃u1 u2,us=[u1,u2]/\RelV v u1/\RelV w u2:=by
  cases r1 with
  |cons p q =>
   cases q with
   |cons p' q' =>
    cases q';exact⟨_,_,rfl,p,p'⟩
 refine wpAny_newObj_type ?_ (by show 2<=sizeLine;decide);have I2:Inv X aa σ H1 { s1 with heap:=s1.heap.push { cls:=.type "tuple",data:=.seq [u1,u2].toArray } }:=I1.kept (t':=s1.toks) λb o e=>aH _ e;rw[hw];refine ZU (ZT ?_);show wpAny (model X.prog X.w) X.A (do rule "assign.swapped-stores"; let items <- unpackItems (.ref s1.heap.objs.size) 2 none;assignInOrder [λv=>bindName X.env y v,λv=>bindName X.env x v] items.reverse;pure Flow.next) _ _ _;refine ZU (wpAny_rule (ZU (unpackItems_tuple (items:=#[u1,u2]) (I.ok.hd hc) (IsTup.new s1.heap _) λh' hG=>?_)));have I3:=I2.kept (h':=h') (t':=s1.toks) λb o e=>hG b o (aQ (aK e)) e;show wpAny _ _ (assignInOrder [λv=>bindName X.env y v,λv=>bindName X.env x v] [u2,u1] >>= λ_=>pure Flow.next) _ _ _;refine ZU (assignInOrder_cons (wpAny_bindName (vf I3 hN hj (.inl hy) eS (λs2 I4=>?_) (.inr hy))));refine assignInOrder_cons (wpAny_bindName (vf I4 hN hi (.inl hx) rv (λs3 I5=>assignInOrder_nil (ZT ?_)) (.inr hx)));rw[List.set_comm _ _ (Ne.symm hZ)]at I5;exact⟨_,H1,I5,q1⟩
def anB(i:Nat)(te:TE)(ti:TIp):TS:=λD σ H=>∃x,σ[i]?=some (some x)/\te σ H λy H1=>ti x y H1 λz H2=>D.nx (σ.set i (some z)) H2
theorem aaD{i:Nat}{x:Str}{e:Expr}{te:TE}{op:Operator}{ti:TIp}{br:Pos}(hN:X.N.Nodup)(hi:X.N[i]?=some x)(hx:Loc X.env.scope x)(he:PE X e te)(ho:PIp X op ti)(hf:X.fn x=true\/X.env.scope.names.lookup x=some .local:=by first|exact .inl rfl|exact .inr rfl|assumption) :
  PS X (.AugAssign (.Name x br) op e pos) (anB i te ti):=by
 intro aa s σ H D I h;obtain⟨v,e1,h⟩:=h;obtain⟨m,hn,hl⟩:=I.loc;have vis:Vis X.env.scope x:=by rcases hx with k|k;exact .inl k;exact .inr (.inl k)
 obtain⟨u,r,l⟩:=hl i x v hi e1 vis;refine wpAny_AugAssign_Name ?_;have go:wpAny (model X.prog X.w) X.A (eval e X.env) (λw s₂=>wpAny (model X.prog X.w) X.A (inplaceOp op u w) (λr s₃=>wpAny (model X.prog X.w) X.A (storeName X.env x r) (λ_=>SP X aa D .next) X.xe s₃) X.xe s₂) X.xe s:=by
  refine thn (he aa s σ H _ I h) λw s1 hP=>?_;obtain⟨y,H1,I1,r1,q1⟩:=hP;refine thn (ho aa s1 σ H1 v y u w _ I1 r r1 q1) λz s2 hP=>?_;obtain⟨zv,H2,I2,r2,q2⟩:=hP;exact vf I2 hN hi hx r2 (λs3 I3=>⟨_,H2,I3,q2⟩) hf
 rcases l with⟨hk,hm⟩|⟨hk,c,hc,cS⟩
 .exact wpAny_loadName_local I.ok.kind hk hn hm go
 .rcases hk with hk|hk
  .exact wpAny_loadName_cell I.ok.kind hk hc cS go
  .rcases hx with k|k
   .have:X.env.scope.names.lookup x=some .free:=hk;rw[k]at this;cases this
   .have:X.env.scope.names.lookup x=some .free:=hk;rw[k]at this;cases this
def ipI(f:Int->Int->Int):TIp:=λx y H Q=>∃i j,x=.int i/\y=.int j/\Q (.int (f i j)) H
theorem Y8:PIp X .Add (ipI λi j=>i+j):=by
 intro aa s σ H x y v u Q I r1 r2 h;obtain⟨i,j,e1,e2,q⟩:=h;subst e1;subst e2;obtain⟨t,rfl⟩:=r1;obtain⟨t',rfl⟩:=r2;exact iadd_int ⟨.int _,H,I.tok _,⟨_,rfl⟩,q⟩
end
section
variable{X:Cx}{pos:Pos}
def aeb(c:TT)(tb:TS):TS:=λD σ H=>∃W:Nat->St->Hp->Prop,(∃m,W m σ H)/\∀m σ H,W m σ H ->
 c σ H λb H1=>if b=true then ∃N:St->Hp->Prop,(∀σ' H',N σ' H'->∃m',m'<m/\W m' σ' H')/\tb { D with nx:=N,ct:=N,bk:=D.nx } σ H1 else D.nx σ H1
theorem Yy{c:Expr}{b7:List Stmt}{tc:TT}{tb:TS}(hp:PassesOwn (model X.prog X.w) X.A X.env X.xe)(hc:PT X c tc)(hb:PSs X b7 tb):PS X (.While c b7 [] pos) (aeb tc tb):=by
 intro aa s σ H D I h;obtain⟨W,⟨m0,w0⟩,eR⟩:=h;refine wpAny_While (codeAny_whileLoop (λn s'=>∃σ' H',Inv X aa σ' H' s'/\W n σ' H') ?_ m0 ⟨σ,H,I,w0⟩);rintro n s1 ⟨σ1,H1,I1,w1⟩;refine wpAny_passesOwn hp (thn (hc aa s1 σ1 H1 _ I1 (eR n σ1 H1 w1)) λb s2 hP=>?_);obtain⟨H2,I2,q2⟩:=hP;cases b with
 |true =>
  obtain⟨N,hN,q2⟩:=q2;rw[ZY rfl];refine wpAny_passesOwn hp (thn (hb aa s2 σ1 H2 _ I2 q2) λf s3 q3=>?_);cases f with
  |next =>
   obtain⟨σ3,H3,I3,n3⟩:=q3;obtain⟨m',hm,w3⟩:=hN σ3 H3 n3;exact⟨m',hm,σ3,H3,I3,w3⟩
  |cont =>
   obtain⟨σ3,H3,I3,n3⟩:=q3;obtain⟨m',hm,w3⟩:=hN σ3 H3 n3;exact⟨m',hm,σ3,H3,I3,w3⟩
  |brk=>exact q3
  |ret v=>exact q3
 |false =>
  rw[ZZ bw];exact wpAny_execs_nil ⟨σ1,H2,I2,q2⟩
end
structure It where
 go:Nat->Hp->Prop
 yld:Nat->Hp->V->Hp->Prop
 stop:Nat->Hp->Prop
def Ey(X:Cx)(aa:Δ)(H:Hp)(b:Addr):Prop :=
 H b=none/\b≠X.env.locals/\b∉X.fs/\(b∈X.ex\/X.s₀.heap.objs.size<=b)/\(∀x c,X.env.cells.lookup x=some c->c≠b)/\∀p∈X.pn++aa,p.1≠b
theorem Inv.fpOk{X:Cx}{aa:Δ}{σ:St}{H H':Hp}{s:Shared}{b:Addr}(I:Inv X aa σ H s)(hb:s.heap.objs.size<=b)(hn:H' b=none):Ey X aa H' b:=by
 refine⟨hn,UT (aR I.lt hb),I.nofs hb,.inr (aL I.sz hb),λx c e z=>?_,λp hp z=>?_⟩
 .obtain⟨v,q⟩:=I.cell x c e;exact absurd (aR q.lt (by rw[z];exact hb)) (X9 _)
 .exact absurd (aR (aK (I.pin p hp).1) (by rw[z];exact hb)) (X9 _)
structure Turn(P:Program)(w:World)(K:Frag)(tg:Expr)(J:It)(fp:Ψ)(it:Addr)(tn:Nat->Heap->Prop):Prop where
 mem:it∈fp
 obj:∀i h,tn i h->∀b∈fp,∃o,h.get? b=some o/\∀v,o.data≠.cell v
 keep:∀i h h',tn i h->(∀b∈fp,∀o,h.get? b=some o->h'.get? b=some o)->tn i h'
 item:∀(X:Cx),X.prog=P->X.w=w->X.K=K->X.calm=true->∀(i:Nat)(aa:Δ)(s:Shared)(σ:St)(H:Hp)(E:Ε),Inv X aa σ H s->(∀b∈fp,Ey X aa H b)->tn i s.heap->J.go i H ->
  wpAny (model P w) X.A (pyNext (.ref it)) (λr s1=>∃u,r=some u /\
   wpAny (model P w) X.A (letOwnedTupleGo tg (.ref it) u) (λ_ s2=>∃x H',Inv X aa σ H' s2/\RelV x u/\J.yld i H x H'/\tn (i+1) s2.heap/\∀b∈fp,H' b=none) E s1) E s
 done:∀(X:Cx),X.prog=P->X.w=w->X.K=K->X.calm=true->∀(i:Nat)(aa:Δ)(s:Shared)(σ:St)(H:Hp)(E:Ε),Inv X aa σ H s->(∀b∈fp,Ey X aa H b)->tn i s.heap->J.stop i H ->
  wpAny (model P w) X.A (pyNext (.ref it)) (λr s1=>r=none/\Inv X aa σ H s1) E s
 self:∀(A:Around)(i:Nat)(s:Shared)(Q:Ε)(E:Ε),tn i s.heap->Q (.ref it) s->wpAny (model P w) A (pyIter (.ref it)) Q E s
abbrev TI:=St->Hp->(It->Hp->Prop)->Prop
def PIE(X:Cx)(aa:Δ)(σ:St)(tg:Expr)(R:It->Hp->Prop)(kK:Value)(s2:Shared):Prop :=
 ∃(it:Addr)(fp:Ψ)(tn:Nat->Heap->Prop)(J:It)(H':Hp),kK=.ref it/\Inv X aa σ H' s2/\Turn X.prog X.w X.K tg J fp it tn/\tn 0 s2.heap/\(∀b∈fp,Ey X aa H' b)/\R J H'
def PI(X:Cx)(tg iter:Expr)(wi:TI):Prop :=
 ∀(aa:Δ)(s:Shared)(σ:St)(H:Hp)(R:It->Hp->Prop),Inv X aa σ H s->wi σ H R ->
  wpAny (model X.prog X.w) X.A (eval iter X.env) (λv s1=>wpAny (model X.prog X.w) X.A (pyIter v) (PIE X aa σ tg R) X.xe s1) X.xe s
theorem Vf{M:Model}{A:Around}{E:Ε}{s:Shared}{tg:Expr}{it:Addr}{u:Value}{o:Obj}{n:String}{vs:Array Value}{Q:Unit->Shared->Prop}(ho:s.heap.get? it=some o)(hc:o.cls=.type n)(hd:o.data=.fields vs)
   (hn : ["enumerate","zip","dict_itemiterator","dict_reverseitemiterator","odict_iterator","itertools.zip_longest","itertools.pairwise"].contains n=false)(hQ:Q () s):wpAny M A (letOwnedTupleGo tg (.ref it) u) Q E s:=by
  unfold letOwnedTupleGo;cases tg<;>first
    |exact ZT hQ
    |(cases u<;>first
        |exact ZT hQ
        | (refine ZU (wpAny_load ho ?_)
           rw[hc,hd];show wpAny M A (if(["enumerate","zip","dict_itemiterator","dict_reverseitemiterator","odict_iterator","itertools.zip_longest","itertools.pairwise"].contains n&&vs[0]?==some (rawInt _))=true then _ else _) Q E s;rw[ZZ (by intro h;rw[hn,Bool.false_and]at h;cases h)];exact ZT hQ))
noncomputable def Itl(K:Frag)(a:Addr):It :=
 ⟨λi H=>∃xs x,SqL K H a xs/\xs[i]?=some x,λi H x H'=>H'=H/\∀xs,SqL K H a xs->xs[i]?=some x,λi H=>∃xs,SqL K H a xs/\xs.length<=i⟩
noncomputable def Itr(lo:Int)(n:Nat):It:=⟨λi _=>i<n,λi H x H'=>H'=H/\x=.int (lo+i),λi _=>n<=i⟩
theorem WY{P:Program}{w:World}{K:Frag}{tg:Expr}(a it:Addr):Turn P w K tg (Itl K a) [it] it (λi h=>h.IsListIter it a i) where
 mem:=by simp
 obj:=λi h st b hb=>by
  have e:b=it:=by simpa using hb
  subst e;obtain⟨o,e,c,d⟩:=st;exact⟨o,e,λv z=>by rw[d]at z;cases z⟩
 keep:=λi h h' st k=>st.at λo e=>k it (by simp) o e
 item:=by
  intro X hP hw hK hc i aa s σ H E I hf st hg;subst hP hw hK;obtain⟨xs,x,hq,hx⟩:=hg;obtain⟨its,rv,p,hz⟩:=I.list hq;obtain⟨u,hu,ru⟩:=rv.get hx;obtain⟨f0,f1,f2,f3,f4,f5⟩:=hf it (by simp);refine wpAny_pyNext_list_item st p.isList (x:=u) (by simpa using hu) λh' dv sb=>?_;have I1:Inv X aa σ H { s with heap:=h' }:=I.turned (t':=s.toks) (λb o hb e=>(sb.2 b hb).trans e) f0 f1 f3 f4 f5;obtain⟨o,e,c,d⟩:=id dv;exact⟨u,rfl,Vf (s:={ s with heap:=h' }) e c d (by decide) ⟨x,H,I1,ru,⟨rfl,λys hy=>by rw[I.list_inj hy hq];exact hx⟩,dv,λb hb=>(hf b hb).1⟩⟩
 done:=by
  intro X hP hw hK hc i aa s σ H E I hf st hg;subst hP hw hK;obtain⟨xs,hq,hx⟩:=hg;obtain⟨its,rv,p,hz⟩:=I.list hq;obtain⟨f0,f1,f2,f3,f4,f5⟩:=hf it (by simp);have hl:=rv.length;exact wpAny_pyNext_list_end (I.ok.hd hc) st p.isList (by simp;lia) λh' eb=>⟨rfl,I.turned (t':=s.toks) (λb o hb e=>eb b o hb e) f0 f1 f3 f4 f5⟩
 self:=λ_ _ _ _ _ st h=>wpAny_pyIter_listiter st h
theorem UL{P:Program}{w:World}{K:Frag}{tg:Expr}(it:Addr)(lo:Int)(n:Nat):Turn P w K tg (Itr lo n) [it] it (λi h=>IsRangeIter h it (lo+(i:Nat)*1) ((n:Int)-(i:Nat)) 1) where
 mem:=by simp
 obj:=λi h st b hb=>by
  have e:b=it:=by simpa using hb
  subst e;exact⟨_,st,λv z=>by
   have z':Data.fields _=Data.cell v:=z;cases z'⟩
 keep:=λi h h' st k=>k it (by simp) _ st
 item:=by
  intro X hP hw hK hc i aa s σ H E I hf st hg;subst hP hw hK;obtain⟨f0,f1,f2,f3,f4,f5⟩:=hf it (by simp);have W:=Walks.range (prog:=X.prog) (w:=X.w) (I.ok.hd hc) it lo 1 n;refine W.item i s _ _ hg st λv h' tk hv dv kk=>?_;obtain⟨t,rfl⟩:=hv;have I1:Inv X aa σ H { s with heap:=h',toks:=tk }:=I.turned (λb o hb e=>kk b o (by simpa using hb) e) f0 f1 f3 f4 f5;refine⟨_,rfl,Vf (s:={ s with heap:=h',toks:=tk }) (n:="range_iterator") dv rfl rfl (by decide) ⟨.int (lo+i),H,I1,⟨t,?_⟩,⟨rfl,rfl⟩,dv,λb hb=>(hf b hb).1⟩⟩;rw[Q1]
 done:=by
  intro X hP hw hK hc i aa s σ H E I hf st hg;subst hP hw hK;obtain⟨f0,f1,f2,f3,f4,f5⟩:=hf it (by simp);exact wpAny_pyNext_range_end (I.ok.hd hc) st (by have:n<=i:=hg;lia) λh' eb=>⟨rfl,I.turned (t':=s.toks) (λb o hb e=>eb b o hb e) f0 f1 f3 f4 f5⟩
 self:=λ_ _ _ _ _ st h=>wpAny_pyIter_rangeiter st h
section
variable{X:Cx}{tg:Expr}
def ajB(K:Frag)(tl:TE):TI:=λσ H R=>tl σ H λx H1=>∃a,x=.ref a/\(∃xs,SqL K H1 a xs)/\R (Itl K a) H1
theorem acj{l:Expr}{tl:TE}(hl:PE X l tl):PI X tg l (ajB X.K tl):=by
 intro aa s σ H R I h;refine thn (hl aa s σ H _ I h) λv s1 hP=>?_;obtain⟨x,H1,I1,r1,q1⟩:=hP;obtain⟨a,e,⟨xs,hq⟩,q⟩:=q1;subst e;cases r1;obtain⟨its,rv,p,hz⟩:=I1.list hq;refine wpAny_pyIter_list p.isList ?_;refine⟨s1.heap.objs.size,[s1.heap.objs.size],_,_,H1,rfl,I1.kept (t':=s1.toks) λb o e=>aH _ e,WY a _,⟨_,aW _ rfl,rfl,rfl⟩,λb hb=>?_,q⟩;have e:b=s1.heap.objs.size:=by simpa using hb
 subst e;exact I1.fpOk (aG _) (I1.hok.fresh (aG _))
theorem R5{aa:Δ}{σ:St}{H:Hp}{s:Shared}{R:It->Hp->Prop}{E:Ε}{lo hi:Int}{t u v:Tok}{tk:Nat}(I:Inv X aa σ H s)(h1 : -(2^62)<=lo)(h2:lo<2^62)(h3 : -(2^62)<=hi)(h4:hi<2^62)
 (q:R (Itr lo (hi-lo).toNat) H):wpAny (model X.prog X.w) X.A (pyIter (.ref s.heap.objs.size)) (PIE X aa σ tg R) E { s with heap:=s.heap.push { cls:=.type "range",data:=.fields #[.int lo t,.int hi u,.int 1 v] },toks:=tk }:=by
 refine wpAny_pyIter_range (IsRange.new ..) (small_one h1 h2 h3 h4) ?_;have I1:Inv X aa σ H { s with heap:=s.heap.push { cls:=.type "range",data:=.fields #[.int lo t,.int hi u,.int 1 v] },toks:=tk }:=I.kept λb o e=>aH _ e;refine⟨(s.heap.push { cls:=.type "range",data:=.fields #[.int lo t,.int hi u,.int 1 v] }).objs.size,[(s.heap.push { cls:=.type "range",data:=.fields #[.int lo t,.int hi u,.int 1 v] }).objs.size],_,_,H,rfl,
  I1.kept (t':=tk) λb o e=>aH _ e,UL _ lo (hi-lo).toNat,?_,λb hb=>?_,q⟩
 .have e1:lo+((0:Nat):Int)*1=lo:=by simp
  have e2:(((hi-lo).toNat:Nat):Int)-((0:Nat):Int)=Builtin.Range.rangeSize lo hi 1:=by rw[rangeSize_one];split<;>lia
  show IsRangeIter _ _ (lo+((0:Nat):Int)*1) ((((hi-lo).toNat:Nat):Int)-((0:Nat):Int)) 1;rw[e1,e2];exact aW _ rfl
 .have e:b=(s.heap.push { cls:=.type "range",data:=.fields #[.int lo t,.int hi u,.int 1 v] }).objs.size:=by simpa using hb
  subst e;exact I1.fpOk (aG _) (I1.hok.fresh (aG _))
def air(ta:TA):TI:=λσ H R=>ta σ H λvs H1=>∃j:Int,vs=[.int j]/\-(2^62)<=j/\j<2^62/\R (Itr 0 j.toNat) H1
def ahY(ta:TA):TI:=λσ H R=>ta σ H λvs H1=>∃i j:Int,vs=[.int i,.int j]/\(-(2^62)<=i/\i<2^62/\-(2^62)<=j/\j<2^62)/\R (Itr i (j-i).toNat) H1
theorem W4{a:Expr}{ta:TA}{p pos:Pos}(hg:Gl X "range")(hm:X.mg "range"=none)(ha:PA X [a] ta)(hs:starEach [a] X.env=[(false,eval a X.env)]:=by rfl):PI X tg (.Call (.Name "range" p) [a] [] pos) (air ta):=by
 intro aa s σ H R I h;refine Call_ (zB I hg hm boot_range (PyProof.Rows.callWith_type1 (thn (ha pos aa s σ H _ I h) λus s1 hP=>?_) hs rfl));obtain⟨vs,H1,I1,r1,q1⟩:=hP;obtain⟨j,e,q1,q2,q⟩:=q1;subst e;cases r1 with
 |cons r rr =>
  cases rr;obtain⟨t,rfl⟩:=r;exact call_range_1 (R5 I1 (XY (by decide)) (Q2 (by decide)) q1 q2 (by simpa using q))
theorem Xw{a b:Expr}{ta:TA}{p pos:Pos}(hg:Gl X "range")(hm:X.mg "range"=none)(ha:PA X [a,b] ta)(hs:starEach [a,b] X.env=[(false,eval a X.env),(false,eval b X.env)]:=by rfl)(eK:starEach [b] X.env=[(false,eval b X.env)]:=by rfl) :
  PI X tg (.Call (.Name "range" p) [a,b] [] pos) (ahY ta):=by
 intro aa s σ H R I h;refine Call_ (zB I hg hm boot_range (PyProof.Rows.callWith_type1 (thn (ha pos aa s σ H _ I h) λus s1 hP=>?_) (by rw[hs,eK]) (by rw[eK];rfl)));obtain⟨vs,H1,I1,r1,q1⟩:=hP;obtain⟨i,j,e,⟨q1,q2,q3,q4⟩,q⟩:=q1;subst e;cases r1 with
 |cons r rr =>
  cases rr with
  |cons r' rr =>
   cases rr;obtain⟨t,rfl⟩:=r;obtain⟨t',rfl⟩:=r';exact call_range_2 (R5 I1 q1 q2 q3 q4 q)
def alM(wi:TI)(g:TG)(tb:TS):TS:=λD σ H=>wi σ H λJ H1=>∃W:Nat->Nat->St->Hp->Prop,(∃m,W 0 m σ H1)/\∀i m σ H,W i m σ H ->
 (J.stop i H/\D.nx σ H)\/(J.go i H/\∃N:St->Hp->Prop,(∀σ' H',N σ' H'->∃m',m'<m/\W (i+1) m' σ' H')/\∀x H',J.yld i H x H'->g x σ H' λσ2 H2=>tb { D with nx:=N,ct:=N,bk:=D.nx } σ2 H2)
noncomputable def Je(fp:Ψ)(h:Heap):Δ:=fp.filterMap λb=>(h.get? b).map λo=>(b,o)
theorem pN{fp:Ψ}{h:Heap}{b:Addr}{o:Obj}(hb:b∈fp)(e:h.get? b=some o):(b,o)∈Je fp h:=List.mem_filterMap.mpr ⟨b,hb,by rw[e];rfl⟩
theorem W9{fp:Ψ}{h:Heap}{p:Addr×Obj}(hp:p∈Je fp h):p.1∈fp/\h.get? p.1=some p.2:=by
 obtain⟨b,hb,e⟩:=List.mem_filterMap.mp hp;cases q:h.get? b with
 |none=>rw[q]at e;cases e
 |some o =>
  rw[q]at e;have e':(b,o)=p:=Option.some.inj e;subst e';exact⟨hb,q⟩
theorem Inv.pinned{aa:Δ}{σ:St}{H:Hp}{s:Shared}{fp:Ψ}(I:Inv X aa σ H s)(hf:∀b∈fp,Ey X aa H b)(ho:∀b∈fp,∃o,s.heap.get? b=some o/\∀v,o.data≠.cell v):Inv X (aa++Je fp s.heap) σ H s :=
 I.pins_of λp hp=>(Y1.mp hp).elim (λz=>I.pin p (aP _ z)) λz=>by
  obtain⟨hb,e⟩:=W9 z;obtain⟨f0,f1,f2,_⟩:=hf p.1 hb;obtain⟨o,e',d⟩:=ho p.1 hb;rw[e]at e';cases e';exact⟨e,f0,f1,f2,d⟩
theorem Inv.unpinned{aa pl:Δ}{σ:St}{H:Hp}{s:Shared}(I:Inv X (aa++pl) σ H s):Inv X aa σ H s:=I.pins_of λp hp=>I.pin p (aP _ (UH _ hp))
theorem af8{iter:Expr}{b7:List Stmt}{wi:TI}{g:TG}{tb:TS}{pos:Pos}(hp:PassesOwn (model X.prog X.w) X.A X.env X.xe)(hc:X.calm=true)(hi:PI X tg iter wi)(hg:PG X tg g)(hb:PSs X b7 tb)
 (hs:∀x,foldedSetIterable iter X.env x=pure x:=by intro _;rfl):PS X (.For tg iter b7 [] pos) (alM wi g tb):=by
 intro aa s σ H D I h;refine wpAny_For (thn (hi aa s σ H _ I h) λv s1 h1=>thn h1 λkK s2 h2=>?_) hs;obtain⟨it,fp,tn,J,H2,e,I2,T,fI,f2,W,⟨m0,w0⟩,eR⟩:=h2;subst e

 have gu:∀{H':Hp},(∀b∈fp,H' b=none)->∀b∈fp,Ey X aa H' b:=λhn b hb=>⟨hn b hb,(f2 b hb).2⟩;refine codeAny_forLoop_any (λn s'=>∃i σ' H',Inv X aa σ' H' s'/\tn i s'.heap/\(∀b∈fp,H' b=none)/\W i n σ' H') ?_ m0 ⟨0,σ,H2,I2,fI,λb hb=>(f2 b hb).1,w0⟩;rintro n s3 ⟨i,σ3,H3,I3,g6,fr3,w3⟩;rcases eR i n σ3 H3 w3 with⟨stop,qn⟩|⟨go,N,hN,step⟩
 .refine wpAny_passesOwn hp (thn (T.done X rfl rfl rfl hc i aa s3 σ3 H3 X.xe I3 (gu fr3) g6 stop) λr s4 hP=>?_);obtain⟨hr,I4⟩:=hP;subst hr;exact wpAny_execs_nil ⟨σ3,H3,I4,qn⟩
 .refine wpAny_passesOwn hp (thn (T.item X rfl rfl rfl hc i aa s3 σ3 H3 X.xe I3 (gu fr3) g6 go) λr s4 hP=>?_);obtain⟨u,hr,h4⟩:=hP;subst hr;refine wpAny_passesOwn hp (thn h4 λ_ s5 hP=>?_);obtain⟨x,H5,I5,r5,y5,kq,fr5⟩:=hP;have I5':=I5.pinned (gu fr5) (T.obj _ _ kq);refine wpAny_passesOwn hp (thn (hg _ s5 σ3 H5 x u _ I5' r5 (step x H5 y5)) λ_ s6 hP=>?_);obtain⟨σ6,H6,I6,q6⟩:=hP;refine wpAny_passesOwn hp (thn (hb _ s6 σ6 H6 _ I6 q6) λf s7 q7=>?_);have again:∀{σ7:St}{H7:Hp},Inv X (aa++Je fp s5.heap) σ7 H7 s7->N σ7 H7->∃m,m<n/\∃i σ' H',Inv X aa σ' H' s7/\tn i s7.heap/\(∀b∈fp,H' b=none)/\W i m σ' H':=λ{σ7 H7}I7 n7=>by
   obtain⟨m',hm,w7⟩:=hN σ7 H7 n7;refine⟨m',hm,i+1,σ7,H7,I7.unpinned,T.keep _ _ _ kq λb hb o e=>(I7.pin (b,o) (aP _ (aP _ (pN hb e)))).1,λb hb=>?_,w7⟩;obtain⟨o,e,d⟩:=T.obj _ _ kq b hb;exact(I7.pin (b,o) (aP _ (aP _ (pN hb e)))).2.1
  cases f with
  |next=>obtain⟨σ7,H7,I7,n7⟩:=q7;exact again I7 n7
  |cont=>obtain⟨σ7,H7,I7,n7⟩:=q7;exact again I7 n7
  |brk=>obtain⟨σ7,H7,I7,q7⟩:=q7;exact⟨σ7,H7,I7.unpinned,q7⟩
  |ret v=>obtain⟨x7,σ7,H7,I7,r7,q7⟩:=q7;exact⟨x7,σ7,H7,I7.unpinned,r7,q7⟩
end
abbrev R2:=V->V->Hp->VK->Prop
def OpR(X:Cx)(f:Value->Value->Sem Value)(r:R2):Prop :=
 ∀(aa:Δ)(s:Shared)(σ:St)(H:Hp)(x y:V)(v u:Value)(Q:VK),Inv X aa σ H s->RelV x v->RelV y u->r x y H Q ->
  wpAny (model X.prog X.w) X.A (f v u) (EP X aa σ Q) X.xe s
def UnR(X:Cx)(f:Value->Sem Value)(r:V->Hp->VK->Prop):Prop :=
 ∀(aa:Δ)(s:Shared)(σ:St)(H:Hp)(x:V)(v:Value)(Q:VK),Inv X aa σ H s->RelV x v->r x H Q ->
  wpAny (model X.prog X.w) X.A (f v) (EP X aa σ Q) X.xe s
def jk(X:Cx)(f:Value)(r:Ζ->Hp->VK->Prop):Prop :=
 ∀(aa:Δ)(s:Shared)(σ:St)(H:Hp)(xs:Ζ)(us:Θ)(Q:VK),Inv X aa σ H s->Vals xs us->r xs H Q ->
  wpAny (model X.prog X.w) X.A (call f us) (EP X aa σ Q) X.xe s
def am0(X:Cx)(r:V->Hp->(Bool->Hp->Prop)->Prop):Prop :=
 ∀(aa:Δ)(s:Shared)(σ:St)(H:Hp)(x:V)(v:Value)(Q:Bool->Hp->Prop),Inv X aa σ H s->RelV x v->r x H Q ->
  wpAny (model X.prog X.w) X.A (truthy v) (TP X aa σ Q) X.xe s
def tOp(r:R2)(ta tb:TE):TE:=λσ H Q=>ta σ H λx H1=>tb σ H1 λy H2=>r x y H2 Q
def tUn(r:V->Hp->VK->Prop)(ta:TE):TE:=λσ H Q=>ta σ H λx H1=>r x H1 Q
def rI(C:Int->Int->Prop)(g:Int->Int->V):R2:=λx y H Q=>∃i j,x=.int i/\y=.int j/\C i j/\Q (g i j) H
def rI0(g:Int->Int->V):R2:=λx y H Q=>∃i j,x=.int i/\y=.int j/\Q (g i j) H
def rU(g:Int->V):V->Hp->VK->Prop:=λx H Q=>∃i,x=.int i/\Q (g i) H
section
variable{X:Cx}{a b c:Expr}{ta tb tc:TE}{pos:Pos}
theorem af0(ha:PE X a ta)(hb:PE X b tb){aa:Δ}{s:Shared}{σ:St}{H:Hp}{R:V->V->Hp->Prop}(I:Inv X aa σ H s)
 (h:ta σ H λx H1=>tb σ H1 λy H2=>R x y H2){Q:Ε}{f:Value->Value->Sem Value}
 (hf:∀v u s2 x y H2,Inv X aa σ H2 s2->RelV x v->RelV y u->R x y H2->wpAny (model X.prog X.w) X.A (f v u) Q X.xe s2) :
  wpAny (model X.prog X.w) X.A (eval a X.env) (λv s₁=>wpAny (model X.prog X.w) X.A (eval b X.env) (λu s₂=>wpAny (model X.prog X.w) X.A (f v u) Q X.xe s₂) X.xe s₁) X.xe s:=by
 refine thn (ha aa s σ H _ I h) λv s1 hP=>?_;obtain⟨x,H1,I1,r1,q1⟩:=hP;refine thn (hb aa s1 σ H1 _ I1 q1) λu s2 hP=>?_;obtain⟨y,H2,I2,r2,q2⟩:=hP;exact hf v u s2 x y H2 I2 r1 r2 q2
theorem ajr{op:Operator}{r:R2}(ho:OpR X (binaryOp op) r)(ha:PE X a ta)(hb:PE X b tb):PE X (.BinOp a op b pos) (tOp r ta tb):=by
 intro aa s σ H Q I h;exact wpAny_BinOp (af0 ha hb I h λv u s2 x y H2 I2 rx ry q=>ho aa s2 σ H2 x y v u Q I2 rx ry q)
theorem agz{op:UnaryOp}{r:V->Hp->VK->Prop}(ho:UnR X (unaryOp op) r)(ha:PE X a ta):PE X (.UnaryOp op a pos) (tUn r ta):=by
 intro aa s σ H Q I h;exact UnaryOp_ (thn (ha aa s σ H _ I h) λv s1 hP=>by obtain⟨x,H1,I1,r1,q1⟩:=hP;exact ho aa s1 σ H1 x v Q I1 r1 q1)
theorem BJ{op:Operator}{r:R2}(ho:OpR X (inplaceOp op) r){aa:Δ}{s:Shared}{σ:St}{H:Hp}{x y:V}{v u:Value}{Q:VK}(I:Inv X aa σ H s)
 (rx:RelV x v)(ry:RelV y u)(q:r x y H Q):wpAny (model X.prog X.w) X.A (inplaceOp op v u) (EP X aa σ Q) X.xe s:=ho aa s σ H x y v u Q I rx ry q
theorem opI{f:Value->Value->Sem Value}{C:Int->Int->Prop}{g:Int->Int->Int}
 (rule:∀(i j:Int)(t u:Tok)(s:Shared)(Q:Ε)(E:Ε),C i j->Q (.int (g i j) s.toks) { s with toks:=s.toks+1 }->wpAny (model X.prog X.w) X.A (f (.int i t) (.int j u)) Q E s) :
  OpR X f (rI C λi j=>.int (g i j)):=by
 intro aa s σ H x y v u Q I rx ry h;obtain⟨i,j,rfl,rfl,hc,q⟩:=h;obtain⟨t,rfl⟩:=rx;obtain⟨t',rfl⟩:=ry;exact rule i j t t' s _ _ hc ⟨.int (g i j),H,I.tok _,⟨_,rfl⟩,q⟩
theorem ai9{f:Value->Value->Sem Value}{g:Int->Int->Int}
 (rule:∀(i j:Int)(t u:Tok)(s:Shared)(Q:Ε)(E:Ε),Q (.int (g i j) s.toks) { s with toks:=s.toks+1 }->wpAny (model X.prog X.w) X.A (f (.int i t) (.int j u)) Q E s) :
  OpR X f (rI0 λi j=>.int (g i j)):=by
 intro aa s σ H x y v u Q I rx ry h;obtain⟨i,j,rfl,rfl,q⟩:=h;obtain⟨t,rfl⟩:=rx;obtain⟨t',rfl⟩:=ry;exact rule i j t t' s _ _ ⟨.int (g i j),H,I.tok _,⟨_,rfl⟩,q⟩
theorem ac7{f:Value->Value->Sem Value}{g:Int->Int->Bool}
 (rule:∀(i j:Int)(t u:Tok)(s:Shared)(Q:Ε)(E:Ε),Q (.bool (g i j)) s->wpAny (model X.prog X.w) X.A (f (.int i t) (.int j u)) Q E s) :
  OpR X f (rI0 λi j=>.bl (g i j)):=by
 intro aa s σ H x y v u Q I rx ry h;obtain⟨i,j,rfl,rfl,q⟩:=h;obtain⟨t,rfl⟩:=rx;obtain⟨t',rfl⟩:=ry;exact rule i j t t' s _ _ ⟨.bl (g i j),H,I,rfl,q⟩
def akI(i j:Int):Prop:=0<=j/\j<=1000000/\i.natAbs<2^64
def ade(i j:Int):Prop:=(-(2^64)<i/\i<2^64)\/(-(2^64)<j/\j<2^64)
theorem ade.ok{i j:Int}(h:ade i j):IntMulOk i j:=by
 rcases h with⟨h1,h2⟩|⟨h1,h2⟩
 .exact .of_left (intBits_le_64 h1 h2)
 .exact .of_right (intBits_le_64 h1 h2)
theorem ae4:OpR X (binaryOp .Add) (rI0 λi j=>.int (i+j)):=ai9 λ_ _ _ _ _ _ _ q=>add_int q
theorem aeA:OpR X (binaryOp .Sub) (rI0 λi j=>.int (i-j)):=ai9 λ_ _ _ _ _ _ _ q=>sub_int q
theorem afB:OpR X (binaryOp .Mult) (rI ade λi j=>.int (i*j)):=opI λ_ _ _ _ _ _ _ hc q=>mul_int q hc.ok
theorem agr:OpR X (binaryOp .Mod) (rI (λ_ j=>0<j) λi j=>.int (i%j)):=opI λi j _ _ _ _ _ hc q=>by
 have h1:(0:Int)<j:=hc;exact mod_int' (WS hc) (by rw[Int.fmod_eq_emod_of_nonneg i (XY hc)];exact q)
theorem aef:OpR X (binaryOp .Pow) (rI akI λi j=>.int (i^j.toNat)):=opI λ_ _ _ _ _ _ _ hc q=>pow_int_small hc.1 hc.2.1 hc.2.2 q
theorem unI{f:Value->Sem Value}{g:Int->Int}
 (rule:∀(i:Int)(t:Tok)(s:Shared)(Q:Ε)(E:Ε),Q (.int (g i) s.toks) { s with toks:=s.toks+1 }->wpAny (model X.prog X.w) X.A (f (.int i t)) Q E s) :
  UnR X f (rU λi=>.int (g i)):=by
 intro aa s σ H x v Q I rx h;obtain⟨i,rfl,q⟩:=h;obtain⟨t,rfl⟩:=rx;exact rule i t s _ _ ⟨.int (g i),H,I.tok _,⟨_,rfl⟩,q⟩
theorem afX:UnR X (unaryOp .USub) (rU λi=>.int (-i)):=unI λ_ _ _ _ _ q=>neg_int q
end
noncomputable def abg:V->V->Bool
 |.non,.non=>true|.non,.int _=>true|.int _,.non=>true|.non,.bl _=>true|.bl _,.non=>true|.non,.str _=>true|.str _,.non=>true
 |.int _,.int _=>true|.bl _,.bl _=>true|.str _,.str _=>true|.byt _,.byt _=>true
 |.int _,.str _=>true|.str _,.int _=>true|.bl _,.str _=>true|.str _,.bl _=>true
 |_,_=>false
def rEq:R2:=λx y H Q=>abg x y=true/\Q (.bl (decide (x=y))) H
def rNe:R2:=λx y H Q=>abg x y=true/\Q (.bl (!decide (x=y))) H
theorem V8{i j:Int} : decide (V.int i=V.int j)=(i==j):=by
 rw[Bool.eq_iff_iff];simp
theorem aae{i j:Bool} : decide (V.bl i=V.bl j)=(i==j):=by
 rw[Bool.eq_iff_iff];simp
theorem Vo{i j:Str} : decide (V.str i=V.str j)=(i==j):=by
 rw[Bool.eq_iff_iff];simp
theorem Wh{i j:Array UInt8} : decide (V.byt i=V.byt j)=(i.toList==j.toList):=by
 rw[Bool.eq_iff_iff];cases i;cases j;simp
section
variable{X:Cx}{a b c:Expr}{ta tb tc:TE}{pos:Pos}
theorem cX{aa:Δ}{σ:St}{H:Hp}{s:Shared}{Q:VK}{k k':Bool}(I:Inv X aa σ H s)(q:Q (.bl k) H)(e:k=k'):EP X aa σ Q (.bool k') s:=by
 subst e;exact⟨.bl k,H,I,rfl,q⟩
theorem akV:OpR X (compareOp .Eq) rEq:=by
 intro aa s σ H x y v u Q I rx ry h;obtain⟨hs,q⟩:=h;cases x with
 |non =>
  cases rx;cases y with
  |non=>cases ry;exact PySem.EqNone.eq_none_none (cX I q (by simp))
  |bl j=>cases ry;exact PySem.EqNone.eq_none_bool (cX I q (by simp))
  |int j=>obtain⟨t',rfl⟩:=ry;exact PySem.EqNone.eq_none_int (cX I q (by simp))
  |str j=>obtain⟨t',rfl⟩:=ry;exact PySem.EqNone.eq_none_str (cX I q (by simp))
  |_=>exact absurd (show false=true from hs) bw
 |bl i =>
  cases rx;cases y with
  |non=>cases ry;exact PySem.EqNone.eq_bool_none (cX I q (by simp))
  |bl j=>cases ry;exact eq_bool (cX I q aae)
  |str j=>obtain⟨t',rfl⟩:=ry;exact PySem.EqMixed.eq_bool_str (cX I q (by simp))
  |_=>exact absurd (show false=true from hs) bw
 |int i =>
  obtain⟨t,rfl⟩:=rx;cases y with
  |non=>cases ry;exact PySem.EqNone.eq_int_none (cX I q (by simp))
  |int j=>obtain⟨t',rfl⟩:=ry;exact eq_int (cX I q V8)
  |str j=>obtain⟨t',rfl⟩:=ry;exact PySem.EqMixed.eq_int_str (cX I q (by simp))
  |_=>exact absurd (show false=true from hs) bw
 |str i =>
  obtain⟨t,rfl⟩:=rx;cases y with
  |non=>cases ry;exact PySem.EqNone.eq_str_none (cX I q (by simp))
  |bl j=>cases ry;exact PySem.EqMixed.eq_str_bool (cX I q (by simp))
  |int j=>obtain⟨t',rfl⟩:=ry;exact PySem.EqMixed.eq_str_int (cX I q (by simp))
  |str j=>obtain⟨t',rfl⟩:=ry;exact eq_str (cX I q Vo)
  |_=>exact absurd (show false=true from hs) bw
 |byt i =>
  obtain⟨t,rfl⟩:=rx;cases y with
  |byt j=>obtain⟨t',rfl⟩:=ry;exact PySem.W.eq_bytes (cX I q Wh)
  |_=>exact absurd (show false=true from hs) bw
 |_=>cases y<;>exact absurd (show false=true from hs) bw
theorem ak7:OpR X (compareOp .NotEq) rNe:=by
 intro aa s σ H x y v u Q I rx ry h;obtain⟨hs,q⟩:=h;cases x with
 |non =>
  cases rx;cases y with
  |non=>cases ry;exact PySem.EqNone.ne_none_none (cX I q (by simp))
  |bl j=>cases ry;exact PySem.EqNone.ne_none_bool (cX I q (by simp))
  |int j=>obtain⟨t',rfl⟩:=ry;exact PySem.EqNone.ne_none_int (cX I q (by simp))
  |str j=>obtain⟨t',rfl⟩:=ry;exact PySem.EqNone.ne_none_str (cX I q (by simp))
  |_=>exact absurd (show false=true from hs) bw
 |bl i =>
  cases rx;cases y with
  |non=>cases ry;exact PySem.EqNone.ne_bool_none (cX I q (by simp))
  |bl j=>cases ry;exact ne_bool (cX I q (ZH not aae))
  |str j=>obtain⟨t',rfl⟩:=ry;exact PySem.EqMixed.ne_bool_str (cX I q (by simp))
  |_=>exact absurd (show false=true from hs) bw
 |int i =>
  obtain⟨t,rfl⟩:=rx;cases y with
  |non=>cases ry;exact PySem.EqNone.ne_int_none (cX I q (by simp))
  |int j=>obtain⟨t',rfl⟩:=ry;exact ne_int (cX I q (ZH not V8))
  |str j=>obtain⟨t',rfl⟩:=ry;exact PySem.EqMixed.ne_int_str (cX I q (by simp))
  |_=>exact absurd (show false=true from hs) bw
 |str i =>
  obtain⟨t,rfl⟩:=rx;cases y with
  |non=>cases ry;exact PySem.EqNone.ne_str_none (cX I q (by simp))
  |bl j=>cases ry;exact PySem.EqMixed.ne_str_bool (cX I q (by simp))
  |int j=>obtain⟨t',rfl⟩:=ry;exact PySem.EqMixed.ne_str_int (cX I q (by simp))
  |str j=>obtain⟨t',rfl⟩:=ry;exact ne_str (cX I q (ZH not Vo))
  |_=>exact absurd (show false=true from hs) bw
 |byt i =>
  obtain⟨t,rfl⟩:=rx;cases y with
  |byt j=>obtain⟨t',rfl⟩:=ry;exact PySem.W.ne_bytes (cX I q (ZH not Wh))
  |_=>exact absurd (show false=true from hs) bw
 |_=>cases y<;>exact absurd (show false=true from hs) bw
theorem akY:OpR X (compareOp .Lt) (rI0 λi j=>.bl (decide (i<j))):=ac7 λ_ _ _ _ _ _ _ q=>lt_int q
theorem akG:OpR X (compareOp .LtE) (rI0 λi j=>.bl (decide (i<=j))):=ac7 λ_ _ _ _ _ _ _ q=>le_int q
theorem aij:OpR X (compareOp .Gt) (rI0 λi j=>.bl (decide (j<i))):=ac7 λ_ _ _ _ _ _ _ q=>gt_int q
theorem ahy:OpR X (compareOp .GtE) (rI0 λi j=>.bl (decide (j<=i))):=ac7 λ_ _ _ _ _ _ _ q=>ge_int q
theorem afv:OpR X (compareOp .Is) (λx y H Q=>y=.non/\Q (.bl (decide (x=.non))) H):=by
 intro aa s σ H x y v u Q I rx ry h;obtain⟨rfl,q⟩:=h;cases ry;refine is_none_gen (cX I q ?_);cases x<;>first
  |(cases rx;rfl)
  |(obtain⟨t,rfl⟩:=rx;rfl)
theorem acQ:OpR X (compareOp .IsNot) (λx y H Q=>y=.non/\Q (.bl (!decide (x=.non))) H):=by
 intro aa s σ H x y v u Q I rx ry h;obtain⟨rfl,q⟩:=h;cases ry;refine isnot_none_gen (cX I q ?_);cases x<;>first
  |(cases rx;rfl)
  |(obtain⟨t,rfl⟩:=rx;rfl)
theorem aaj(b:Expr){op:CmpOp}(h:op≠.In:=by decide)(h2:op≠.NotIn:=by decide):behindInMarks op b=false:=by
 have e1:(op==CmpOp.In)=false:=by cases op<;>first|rfl|exact absurd rfl h
 have e2:(op==CmpOp.NotIn)=false:=by cases op<;>first|rfl|exact absurd rfl h2
 cases b<;>simp[behindInMarks,e1,e2]
theorem acR{op:CmpOp}{r:R2}(ho:OpR X (compareOp op) r)(ha:PE X a ta)(hb:PE X b tb)(hm:behindInMarks op b=false):PE X (.Compare a [op] [b] pos) (tOp r ta tb):=by
 intro aa s σ H Q I h;exact wpAny_Compare1 (af0 ha hb I h λv u s2 x y H2 I2 rx ry q=>ho aa s2 σ H2 x y v u Q I2 rx ry q) hm
def adW(t:TE):TT:=λσ H Q=>t σ H λx H'=>∃k,x=.bl k/\Q k H'
theorem adF{op:CmpOp}{r:R2}(ho:OpR X (compareOp op) r)(ha:PE X a ta)(hb:PE X b tb)(hm:behindInMarks op b=false):PT X (.Compare a [op] [b] pos) (adW (tOp r ta tb)):=by
 intro aa s σ H Q I h;refine wpAny_isTrue_Compare1 (thn (ha aa s σ H _ I h) λv s1 ⟨x,H1,I1,r1,q1⟩=>thn (hb aa s1 σ H1 _ I1 q1) λu s2 ⟨y,H2,I2,r2,q2⟩ =>
  thn (ho aa s2 σ H2 x y v u _ I2 r1 r2 q2) λc s3 ⟨z,H3,I3,r3,k,e,q3⟩=>?_) hm
 subst e;cases r3;exact wpAny_truthy_bool ⟨H3,I3,q3⟩
def Ud(r r':R2)(ta tb tc:TE):TE:=λσ H Q=>ta σ H λx H1=>tb σ H1 λy H2=>r x y H2 λz H3=>∃k,z=.bl k /\
 (if k=true then tc σ H3 λw' H4=>r' y w' H4 Q else Q (.bl false) H3)
theorem Zr{op dt:CmpOp}{r r':R2}(ho:OpR X (compareOp op) r)(di:OpR X (compareOp dt) r')(ha:PE X a ta)(hb:PE X b tb)(hc:PE X c tc)
 (hm:lastMarks [op,dt] [b,c]=false:=by with_unfolding_all rfl):PE X (.Compare a [op,dt] [b,c] pos) (Ud r r' ta tb tc):=by
 intro aa s σ H Q I h;refine Compare_chain (thn (ha aa s σ H _ I h) λv s1 ⟨x,H1,I1,r1,q1⟩=>chain_link (thn (hb aa s1 σ H1 _ I1 q1) λu s2 ⟨y,H2,I2,r2,q2⟩ =>
  thn (ho aa s2 σ H2 x y v u _ I2 r1 r2 q2) λd s3 ⟨z,H3,I3,r3,k,e,q3⟩=>?_)) hm
 subst e;cases r3;refine wpAny_truthy_bool ?_;cases k with
 |false=>exact ite_ff ⟨.bl false,H3,I3,rfl,q3⟩
 |true=>exact ite_tt (chain_last (thn (hc aa s3 σ H3 _ I3 q3) λw' s4 hP=>by obtain⟨z',H4,I4,r4,q4⟩:=hP;exact di aa s4 σ H4 y z' u w' Q I4 r2 r4 q4))
theorem aac{op dt:CmpOp}{r r':R2}(ho:OpR X (compareOp op) r)(di:OpR X (compareOp dt) r')(ha:PE X a ta)(hb:PE X b tb)(hc:PE X c tc)
 (hm:lastMarks [op,dt] [b,c]=false:=by with_unfolding_all rfl):PT X (.Compare a [op,dt] [b,c] pos) (adW (Ud r r' ta tb tc)):=by
 intro aa s σ H Q I h;refine isTrue_chain (thn (ha aa s σ H _ I h) λv s1 ⟨x,H1,I1,r1,q1⟩=>test_link (thn (hb aa s1 σ H1 _ I1 q1) λu s2 ⟨y,H2,I2,r2,q2⟩ =>
  thn (ho aa s2 σ H2 x y v u _ I2 r1 r2 q2) λd s3 ⟨z,H3,I3,r3,k,e,q3⟩=>?_)) hm
 subst e;cases r3;refine wpAny_truthy_bool ?_;cases k with
 |false =>
  obtain⟨k',e',q'⟩:=q3;cases e';exact ite_ff ⟨H3,I3,q'⟩
 |true =>
  refine ite_tt (test_last (thn (hc aa s3 σ H3 _ I3 q3) λw' s4 ⟨z',H4,I4,r4,q4⟩=>thn (di aa s4 σ H4 y z' u w' _ I4 r2 r4 q4) λd' s5 hP=>?_));obtain⟨z2,H5,I5,r5,k2,e2,q5⟩:=hP;subst e2;cases r5;exact wpAny_truthy_bool ⟨H5,I5,q5⟩
def ag2(K:Frag)(x:V)(H:Hp)(k:Bool):Prop :=
 match x with
 |.non=>k=false
 |.bl b=>k=b
 |.int i=>k=(i != 0)
 |.str y=>y.length<=sizeLine/\k=((y.length:Int) != 0)
 |.byt y=>y.size<=sizeLine/\k=((y.size:Int) != 0)
 |.ref p=>(∃xs,SqL K H p xs/\k = !xs.isEmpty)\/(∃xs,SqT K H p xs/\k = !xs.isEmpty)\/∃ar,H p=some (.dK ar)/\k = !kvs.isEmpty
 |_=>False
theorem Um{κ:Type}{ar:List (κ×V)}{vs:List (κ×Value)}(r:KV ar vs):(!vs.isEmpty) = !kvs.isEmpty:=by
 cases r<;>rfl
theorem Hv{xs:Ζ}{its:Θ}(r:Vals xs its):(!its.toArray.isEmpty) = !xs.isEmpty:=by
 cases r<;>simp
theorem wW:(sizeLine:Nat)<2^63:=by rw[sizeLine_eq];decide
theorem af3:am0 X (λx H Q=>∃k,ag2 X.K x H k/\Q k H):=by
 intro aa s σ H x v Q I rx h;obtain⟨k,e,q⟩:=h;have hl:=wW;have hs:sizeLine=16777216:=sizeLine_eq;cases x with
 |non =>
  cases rx;have e':k=false:=e;subst e';exact truthy_none ⟨H,I,q⟩
 |bl b =>
  cases rx;have e':k=b:=e;subst e';exact wpAny_truthy_bool ⟨H,I,q⟩
 |int i =>
  obtain⟨t,rfl⟩:=rx;have e':k=(i != 0):=e;subst e';exact PySem.P.truthy_int ⟨H,I,q⟩
 |str y =>
  obtain⟨t,rfl⟩:=rx;obtain⟨hy,e'⟩ : y.length<=sizeLine/\k=((y.length:Int) != 0):=e;subst e';exact PySem.P.truthy_str (by lia) ⟨H,I.tok _,q⟩
 |byt y =>
  obtain⟨t,rfl⟩:=rx;obtain⟨hy,e'⟩ : y.size<=sizeLine/\k=((y.size:Int) != 0):=e;subst e';exact PySem.W.truthy_bytes (aL hy (by decide)) ⟨H,I.tok _,q⟩
 |ref p =>
  cases rx;have e':(∃xs,SqL X.K H p xs/\k = !xs.isEmpty)\/(∃xs,SqT X.K H p xs/\k = !xs.isEmpty)\/∃ar,H p=some (.dK ar)/\k = !kvs.isEmpty:=e;rcases e' with⟨xs,hx,e'⟩|⟨xs,hx,e'⟩|⟨ar,hx,e'⟩
  .subst e';obtain⟨its,r,pl,hz⟩:=I.list hx;have aS:=r.length;exact wpAny_truthy_list pl.isList (by simp only[aX];lia) ⟨H,I.tok _,by rw[Hv r];exact q⟩
  .subst e';obtain⟨its,r,pl,hz⟩:=I.tuple hx;have aS:=r.length;exact truthy_tuple pl (by simp only[aX];lia) ⟨H,I.tok _,by rw[Hv r];exact q⟩
  .subst e';obtain⟨hz,hS,vs,r,m⟩ : ar.length<=sizeLine/\(p==sysModules)=false/\∃vs,KV ar vs/\s.heap.DictOf (iQ X.prog X.w) p vs:=I.hok p _ hx;have aS:ar.length=vs.length:=Paired.length r;exact wpAny_truthy_dict hS m (by lia) ⟨H,I.tok _,by rw[Um r];exact q⟩
 |_=>exact(show False from e).elim
theorem Yn(ha:PE X a ta)(he:∀cr,isTrue a X.env cr=(do let v <- cr;standAt a.pos;holding [v] (truthy v))) :
  PT X a (λσ H Q=>ta σ H λx H'=>∃k,ag2 X.K x H' k/\Q k H'):=by
 intro aa s σ H Q I h;exact isTrue_plain (thn (ha aa s σ H _ I h) λv s1 hP=>by obtain⟨x,H1,I1,r1,q1⟩:=hP;exact af3 aa s1 σ H1 x v Q I1 r1 q1) (he _)
theorem Sx:OpR X (binaryOp .Add) (λx y H Q=>∃i j,x=.str i/\y=.str j/\i.length+j.length<=sizeLine/\Q (.str (i++j)) H):=by
 intro aa s σ H x y v u Q I rx ry h;obtain⟨i,j,rfl,rfl,hz,q⟩:=h;obtain⟨t,rfl⟩:=rx;obtain⟨t',rfl⟩:=ry;exact add_str (λt' tk=>⟨.str (i++j),H,I.tok _,⟨_,rfl⟩,q⟩) hz
theorem vals1{x:V}{us:Θ}(r:Vals [x] us):∃u,us=[u]/\RelV x u:=by
 cases r with
 |cons r1 r2=>cases r2;exact⟨_,rfl,r1⟩
theorem Yr:jk X (.builtin "abs") (λxs H Q=>∃i,xs=[.int i]/\Q (.int (if i<0 then -i else i)) H):=by
 intro aa s σ H xs us Q I r h;obtain⟨i,rfl,q⟩:=h;obtain⟨u,rfl,t,rfl⟩:=vals1 r;exact call_abs_int λu tk=>⟨.int (if i<0 then -i else i),H,I.tok _,⟨_,rfl⟩,q⟩
theorem WW:jk X (.type "int") (λxs H Q=>(∃i,xs=[.int i]/\Q (.int i) H)\/∃k,xs=[.bl k]/\Q (.int (if k then 1 else 0)) H):=by
 intro aa s σ H xs us Q I r h;rcases h with⟨i,rfl,q⟩|⟨k,rfl,q⟩
 .obtain⟨u,rfl,t,rfl⟩:=vals1 r;exact call_int_int ⟨.int i,H,I,⟨_,rfl⟩,q⟩
 .obtain⟨u,rfl,r1⟩:=vals1 r;cases r1;exact call_int_bool ⟨.int (if k then 1 else 0),H,I.tok _,⟨_,rfl⟩,q⟩
end
structure Tc(h:Heap)(x dx C:Addr)(mA:Str->Ω):Prop where
 obj:h.get? x=some (instObj C dx)
 ns:h.Ns1 dx mA
 ne:dx≠x
theorem W3{h:Heap}{dx:Addr}{mA:Str->Ω}(n:h.Ns1 dx mA):∃od,h.get? dx=some od/\∀name,lookIn name od=some (mA name):=by
 obtain⟨o,es,ep,ho,hd,hk,_,hm⟩:=n;refine⟨o,ho,λname=>?_⟩;have e:=hm name;unfold nsFind findBy at e;rw[<- Array.find?_toList]at e;unfold lookIn;rw[hd];dsimp only;split
 .rename_i y q
  rw[q]at e;exact ZH some e
 .rename_i q
  rw[q]at e;have a:es.toList.any (·.refKey)=false:=by
   rw[List.any_eq_false];intro y hy;obtain⟨z,t,gS⟩:=hk y (Array.mem_toList_iff.mp hy);simp[DictEntry.refKey,gS]
  have a':¬es.toList.any (·.refKey)=true:=by rw[a];exact bw
  rw[ZZ a'];exact ZH some e
theorem Tc.look{h:Heap}{x dx C:Addr}{mA:Str->Ω}(I:Tc h x dx C mA):∃od,PySem.W.InstAt h x (instObj C dx) C (some od)/\∀name,lookIn name od=some (mA name) :=
 let⟨od,ho,hl⟩:=W3 I.ns
 ⟨od,⟨I.obj,rfl,rfl,ho⟩,hl⟩
section
variable{prog:Program}{w:World}{A:Around}{E:Ε}{s:Shared}{K:Frag}{x dx C f:Addr}{mA:Str->Ω}{name:Str}{v:Value}
theorem get_map{mm:Bool}{Q:Ε}(X:K.In s.heap)(I:Tc s.heap x dx C mA)(hg:plainGet K C name=true)(hh:hasDictIn K C=true)
 (ha:findIn K (.ref C) name=some none)(hv:mA name=some v)(kN:handedIn v=true)(h:Q v { s with toks:=s.toks+1 }) :
  wpAny (model prog w) A (getAttr (.ref x) name mm) Q E s:=by
 obtain⟨od,J,hl⟩:=I.look;exact PySem.W.get_value X J (plainGet_of hg).1 (PySem.W.findObj_own hh ha rfl (by rw[hl,hv])) kN h
theorem Zf{pl:Sem Bool}{Q:Value×Θ->Shared->Prop}(X:K.In s.heap)(I:Tc s.heap x dx C mA)(hg:plainGet K C name=true)
 (hf:findIn K (.ref C) name=some (some (.ref f)))(ht:isFn K (.ref f)=true)(hv:mA name=none)(h:Q (.ref f,[.ref x]) s) :
  wpAny (model prog w) A (getMethod (.ref x) name pl) Q E s:=by
 obtain⟨od,J,hl⟩:=I.look;exact PySem.W.method_fn X J (plainGet_of hg).1 (plainGet_of hg).2 hf (beq_iff_eq.mp ht) (by show(lookIn name od).map (·.isSome)=some false;rw[hl,hv];rfl) h
theorem acz{ns:Φ}{Q:Unit->Shared->Prop}(X:K.In s.heap)(I:Tc s.heap x dx C mA)
 (hs:findIn K (.ref C) "__setattr__"=some (some (.builtin "object.__setattr__")))(hp:plainOver K C=true)(ht:takerIn K C name=some none)(hh:hasDictIn K C=true)
 (hw:PySem.Within mA ns)(hsz:ns.length<=sizeLine)
 (h:∀h',Tc h' x dx C (λy=>if y=name then some v else mA y)->Heap.SameBut dx s.heap h'->Q () { s with heap:=h',toks:=s.toks+2 }) :
  wpAny (model prog w) A (setAttr (.ref x) name v) Q E s:=by
 obtain⟨od,J,hl⟩:=I.look;refine PySem.W.set_plain X J hs (PySem.W.osa_open (s:={ s with toks:=s.toks+1 }) (r:=none) X J hp ht λb=>?_);obtain⟨cd,hc,bv⟩:=PySem.W.any_some hh;have hx:s.heap.get? x=some ⟨.ref C,some dx,.plain,#[]⟩:=I.obj;refine ZU (ZT (ZU (ZU (wpAny_loadPart hx (ZU (PySem.W.Looks.here (s:={ s with toks:=s.toks+1 }) (PySem.W.looks_clsIn X hc) ?_))))));rw[bv];refine ZT (a:=some dx) (ZU (ZT (ZU ?_)));refine wpAny_nsSet1 (s:={ s with toks:=s.toks+1 }) I.ns λh' hU eK=>?_;obtain⟨oD,esD,epD,hoD,hdD,hcD⟩:=hU.count (PySem.Within.cons name v hw);refine ZU (wpAny_lookBehind hoD (by rw[hdD];exact pastItsLine_dict (aL hcD (by rw[List.length_cons];exact Nat.succ_le_succ hsz))) ?_);exact ZT (h _ ⟨(eK.2 _ (Ne.symm I.ne)).trans I.obj,hU,I.ne⟩ eK)
theorem Zn{R:Result->Shared->Prop}{vs:Θ}{kw:List (Str×Value)}(X:K.In s.heap)(hm:makesIn K C=true)
 (hi:findIn K (.ref C) "__init__"=some (some (.ref f)))(hf:PySem.W.typeIn K (.ref f)=some (.type "function"))
 (h:codeAny (model prog w) (A.under (.builtin "type.__call__" ⟨.ref C::vs,kw⟩)) (.call (.ref f) ⟨.ref (s.heap.objs.size+1)::vs,kw⟩) (PySem.W.InitBack (s.heap.objs.size+1) R)
   { s with heap:=(s.heap.push emptyDict).push (instObj C s.heap.objs.size) }) :
  codeAny (model prog w) A (.call (.ref C) ⟨vs,kw⟩) R s:=by
 obtain⟨hh,g,d,t,os⟩:=s;exact PySem.W.make_core (PySem.W.makes_of X hm) (PySem.W.looks_findIn X hi) (λself=>PySem.W.bind_fn X self hf) (.inl rfl) h
end
noncomputable def uU(f:Str)(v:V):List (Str×V)->List (Str×V)
 |[]=>[(f,v)]
 |(g,x)::r=>if g=f then(g,v)::r else(g,x)::uU f v r
theorem Ei(f g:Str)(v:V):∀fs:List (Str×V),(uU f v fs).lookup g=if g=f then some v else fs.lookup g
 |[]=>by
  show List.lookup g [(f,v)]=_;by_cases h:g=f
  .have hb:(g==f)=true:=beq_iff_eq.mpr h;simp only[List.lookup,hb,ZY h]
  .have hb:(g==f)=false:=beq_eq_false_iff_ne.mpr h;simp only[List.lookup,hb,ZZ h]
 |(k,x)::r=>by
  have ih:=Ei f g v r;rw[show uU f v ((k,x)::r)=(if k=f then(k,v)::r else(k,x)::uU f v r)from rfl];by_cases hk:k=f
  .rw[ZY hk];by_cases h:g=k
   .have hb:(g==k)=true:=beq_iff_eq.mpr h;simp only[List.lookup,hb,ZY (h.trans hk)]
   .have hb:(g==k)=false:=beq_eq_false_iff_ne.mpr h;simp only[List.lookup,hb,ZZ (λe:g=f=>h (e.trans hk.symm))]
  .rw[ZZ hk];by_cases h:g=k
   .have hb:(g==k)=true:=beq_iff_eq.mpr h;simp only[List.lookup,hb,ZZ (λe:g=f=>hk (h.symm.trans e))]
   .have hb:(g==k)=false:=beq_eq_false_iff_ne.mpr h;simp only[List.lookup,hb];exact ih
theorem Dh(f:Str)(v:V):∀fs:List (Str×V),f∈(uU f v fs).map (·.1)/\∀g,g∈fs.map (·.1)->g∈(uU f v fs).map (·.1)
 |[]=>⟨by simp[uU],λg h=>by simp at h⟩
 |(k,x)::r=>by
  obtain⟨i1,i2⟩:=Dh f v r;rw[show uU f v ((k,x)::r)=(if k=f then(k,v)::r else(k,x)::uU f v r)from rfl];by_cases hk:k=f
  .rw[ZY hk];subst hk;exact⟨by simp,λg h=>by simpa using h⟩
  .rw[ZZ hk];refine⟨?_,λg h=>?_⟩
   .rw[List.map_cons];exact aJ _ i1
   .rw[List.map_cons]at h ⊢;rcases YU.mp h with e|e
    .exact YU.mpr (.inl e)
    .exact aJ _ (i2 g e)
theorem Em(f:Str)(v:V):∀fs:List (Str×V),(uU f v fs).length<=fs.length+1
 |[]=>by simp[uU]
 |(k,x)::r=>by
  have ih:=Em f v r;rw[show uU f v ((k,x)::r)=(if k=f then(k,v)::r else(k,x)::uU f v r)from rfl];by_cases hk:k=f
  .rw[ZY hk,List.length_cons,List.length_cons];exact Xs _
  .rw[ZZ hk,List.length_cons,List.length_cons];exact Nat.succ_le_succ ih
theorem yF.some_of{v:V}{o:Ω}(r:yF (some v) o):∃u,o=some u/\RelV v u:=by
 cases o with
 |none=>exact(show False from r).elim
 |some u=>exact⟨u,rfl,r⟩
theorem yF.none_of{o:Ω}(r:yF none o):o=none:=by
 cases o with
 |none=>rfl
 |some u=>exact(show False from r).elim
theorem Xz{v:V}{u:Value}(r:RelV v u):handedIn u=true:=by
 cases v with
 |non=>cases(show u=Value.none from r);rfl
 |bl b=>cases(show u=Value.bool b from r);rfl
 |int i=>obtain⟨t,e⟩:=(show ∃t,u=Value.int i t from r);cases e;rfl
 |str x=>obtain⟨t,e⟩:=(show ∃t,u=Value.str x t from r);cases e;rfl
 |byt b=>obtain⟨t,e⟩:=(show ∃t,u=Value.bytes b t from r);cases e;rfl
 |flt b=>obtain⟨t,e⟩:=(show ∃t,u=Value.float b t from r);cases e;rfl
 |ref a=>cases(show u=Value.ref a from r);rfl
 |ty n=>cases(show u=Value.type n from r);rfl
section
variable{P:Program}{w:World}{H H':Hp}{h h':Heap}{a C dx:Addr}{fs fs':List (Str×V)}
theorem GP(hok:HOk P w H h)(e:H a=some (.ins C dx fs)):∃mA,Tc h a dx C mA/\(∀f,yF (fs.lookup f) (mA f))/\PySem.Within mA (fs.map (·.1))/\fs.length<=1000/\H dx=some (.own a):=by
 obtain⟨d,z,ne,ob,mA,n,r,q⟩:=(show fZ P w H h a (.ins C dx fs)from hok a _ e);exact⟨mA,⟨ob,n,ne⟩,r,q,z,d⟩
end
structure Cls(K:Frag)(C:Addr):Prop where
 pg:plainGet K C Str.empty=true
 hd:hasDictIn K C=true
 po:plainOver K C=true
 sa:findIn K (.ref C) "__setattr__"=some (some (.builtin "object.__setattr__"))
theorem Cls.get{K:Frag}{C:Addr}(c:Cls K C)(f:Str):plainGet K C f=true:=c.pg
def cA(K:Frag)(C:Addr)(f:Str):Prop:=findIn K (.ref C) f=some none
theorem cA.taker{K:Frag}{C:Addr}{f:Str}(n:cA K C f):takerIn K C f=some none:=by
 unfold takerIn;rw[show findIn K (.ref C) f=some none from n]
 rfl
structure Meth(K:Frag)(C:Addr)(m:Str)(f:Addr):Prop where
 at_:findIn K (.ref C) m=some (some (.ref f))
 fn:isFn K (.ref f)=true
 kp:keepIn K (.ref f)=true
section
variable{X:Cx}{aa:Δ}{σ:St}{H:Hp}{s:Shared}{a C dx:Addr}{fs:List (Str×V)}{f:Str}{v:V}{A:Around}{E:Ε}
theorem Ur{b:Bool}{Q:Ε}(I:Inv X aa σ H s)(e:H a=some (.ins C dx fs))(c:Cls X.K C)(n:cA X.K C f)(l:fs.lookup f=some v)
 (h:∀u s',Inv X aa σ H s'->RelV v u->Q u s'):wpAny (model X.prog X.w) A (getAttr (.ref a) f b) Q E s:=by
 obtain⟨mA,O,r,_,_,_⟩:=GP I.hok e;obtain⟨u,hu,ru⟩:=yF.some_of (v:=v) (o:=mA f) (by rw[<- l];exact r f);exact get_map I.kIn O (c.get f) c.hd n hu (Xz ru) (h u _ (I.tok _) ru)
theorem Hx{m:Str}{g:Addr}{pl:Sem Bool}{Q:Value×Θ->Shared->Prop}(I:Inv X aa σ H s)(e:H a=some (.ins C dx fs))(c:Cls X.K C)(k:Meth X.K C m g)(l:fs.lookup m=none)
 (h:Q (.ref g,[.ref a]) s):wpAny (model X.prog X.w) A (getMethod (.ref a) m pl) Q E s:=by
 obtain⟨mA,O,r,_,_,_⟩:=GP I.hok e;have hn:mA m=none:=yF.none_of (by rw[<- l];exact r m);exact Zf I.kIn O (c.get m) k.at_ k.fn hn h
theorem TX{y:V}{u:Value}{Q:Unit->Shared->Prop}(I:Inv X aa σ H s)(e:H a=some (.ins C dx fs))(c:Cls X.K C)(n:cA X.K C f)(hl:fs.length<1000)(ry:RelV y u)
 (h:∀s',Inv X aa σ (upd H a (.ins C dx (uU f y fs))) s'->Q () s'):wpAny (model X.prog X.w) A (setAttr (.ref a) f u) Q E s:=by
 obtain⟨mA,O,r,wi,_,ho⟩:=GP I.hok e;have hz:(fs.map (·.1)).length<=sizeLine:=by rw[ak,sizeLine_eq];exact aL (Y2 hl) (by decide)
 refine acz I.kIn O c.sa c.po n.taker c.hd wi hz λh' O' sb=>h _ ?_;have hd:∃o,h'.get? dx=some o:=by obtain⟨o,_,_,e',_⟩:=O'.ns;exact⟨o,e'⟩
 refine I.write (x:=a) (e:=dx) (by rw[e];exact True.intro) (.inr ho) (λb q hb z=>(sb.2 b hb).trans z) hd ?_;refine⟨by rw[cF O.ne];exact ho,?_,O.ne,O'.obj,_,O'.ns,λg=>?_,λg hg=>?_⟩
 .have:=Em f y fs;lia
 .show yF ((uU f y fs).lookup g) (if g=f then some u else mA g);rw[Ei];by_cases q:g=f
  .rw[ZY q,ZY q];exact ry
  .rw[ZZ q,ZZ q];exact r g
 .by_cases q:g=f
  .rw[q];exact(Dh f y fs).1
  .refine(Dh f y fs).2 g (wi g λz=>hg ?_);show(if g=f then some u else mA g)=none;rw[ZZ q];exact z
theorem Inv.made(I:Inv X aa σ H s):Inv X aa σ (upd (upd H s.heap.objs.size (.own (s.heap.objs.size+1))) (s.heap.objs.size+1) (.ins C s.heap.objs.size []))
  { s with heap:=(s.heap.push emptyDict).push (instObj C s.heap.objs.size) }:=by
 have e1:(s.heap.push emptyDict).get? s.heap.objs.size=some emptyDict:=aW s.heap rfl;have e2:((s.heap.push emptyDict).push (instObj C s.heap.objs.size)).get? (s.heap.objs.size+1)=some (instObj C s.heap.objs.size):=by
  have:=aW (s.heap.push emptyDict) (o:=instObj C s.heap.objs.size) rfl;rwa[Heap.size_push]at this
 have e3:(s.heap.push emptyDict).Ns s.heap.objs.size (λ_=>none):=⟨emptyDict,#[],_,e1,rfl,(λe he=>absurd he (by simp)),λ_=>rfl⟩;have I1:=I.laid (a:=s.heap.objs.size) (o:=.own (s.heap.objs.size+1)) (h':=s.heap.push emptyDict) (t':=s.toks) (λb u q=>aH _ q) (aG _) ⟨_,e1⟩;refine I1.laid (a:=s.heap.objs.size+1) (o:=.ins C s.heap.objs.size []) (t':=s.toks) (λb u q=>aH _ q) (WG (Heap.size_push _ _)) ?_;have ne:s.heap.objs.size≠s.heap.objs.size+1:=aQ (X1 _);refine⟨by rw[cF ne,cM],aZ _,ne,e2,λ_=>none,(Heap.Ns1.of_empty e3).at λo q=>aH _ q,λ_=>True.intro,λy hy=>absurd rfl hy⟩
theorem adz{prog:Program}{w:World}{env:Env}{e:Expr}{f:Str}{pos:Pos}{s:Shared}{Q:Ε}(hb:attributeBase e f env (eval e env)=eval e env)
 (h:wpAny (model prog w) A (eval e env) (λo s₁=>wpAny (model prog w) A (getAttr o f true) Q E s₁) E s):wpAny (model prog w) A (eval (.Attribute e f pos) env) Q E s :=
 Attribute_any_ h (by rw[arm_eval_Attribute,hb])
end
def alO(K:Frag)(ta:TE)(f:Str):TE:=λσ H Q=>ta σ H λx H1=>∃a C dx fs v,x=.ref a/\H1 a=some (.ins C dx fs)/\Cls K C/\cA K C f/\fs.lookup f=some v/\Q v H1
def amV(K:Frag)(ta tv:TE)(f:Str):TS:=λD σ H=>tv σ H λy H1=>ta σ H1 λx H2=>∃a C dx fs,x=.ref a/\H2 a=some (.ins C dx fs)/\Cls K C/\cA K C f/\fs.length<1000 /\
 D.nx σ (upd H2 a (.ins C dx (uU f y fs)))
section
variable{X:Cx}{o e aE:Expr}{f:Str}{pos br az:Pos}{ta tv:TE}
theorem ZR(he:PE X e ta)(hb:attributeBase e f X.env (eval e X.env)=eval e X.env):PE X (.Attribute e f pos) (alO X.K ta f):=by
 intro aa s σ H Q I h;refine adz hb (thn (he aa s σ H _ I h) λu s1 h=>?_);obtain⟨x,H1,I1,rx,a,C,dx,fs,v,rfl,ea,c,n,l,q⟩:=h;obtain rfl:u=Value.ref a:=rx;exact Ur I1 ea c n l λu' s2 I2 ru=>⟨v,H1,I2,ru,q⟩
theorem aeJ(ha:PE X o ta)(hv:PE X aE tv)(hs:swapsWith aE (some (.Attribute o f br)) pos.line X.env=pure false):PS X (.Assign [.Attribute o f br] aE pos) (amV X.K ta tv f):=by
 intro aa s σ H D I h;refine plainObj_wpAny_Assign_Attribute (thn (hv aa s σ H _ I h) λu s1 ⟨y,H1,I1,ry,q⟩=>thn (ha aa s1 σ H1 _ I1 q) λov s2 h=>?_) hs;obtain⟨x,H2,I2,rx,a,C,dx,fs,rfl,ea,c,n,l,q2⟩:=h;obtain rfl:ov=Value.ref a:=rx;exact TX I2 ea c n l ry λs3 I3=>⟨σ,_,I3,q2⟩
end
section
variable{X:Cx}{aa:Δ}{σ:St}{H:Hp}{s:Shared}{A:Around}{E:Ε}{Q:Ε}{c:Value}{b:Bool}
inductive Dk(K:Frag)(H:Hp):V->Value->Prop where
 |non:Dk K H .non (.type "NoneType")
 |bl (x:Bool):Dk K H (.bl x) (.type "bool")
 |int (i:Int):Dk K H (.int i) (.type "int")
 |str (x:Str):Dk K H (.str x) (.type "str")
 |flt (x:UInt64):Dk K H (.flt x) (.type "float")
 |lst {a:Addr}{xs:Ζ} (e:H a=some (.lst xs)):Dk K H (.ref a) (.type "list")
 |frz {a:Addr}{o:Obj}{xs:Ζ} (e:H a=some (.frz o (.lst xs))):Dk K H (.ref a) (.type "list")
 |tup {a:Addr}{xs:Ζ} (e:H a=some (.tup xs)):Dk K H (.ref a) (.type "tuple")
 |dK {a:Addr}{ar:List (Key×V)} (e:H a=some (.dK ar)):Dk K H (.ref a) (.type "dict")
 |ins {a C dx:Addr}{fs:List (Str×V)} (e:H a=some (.ins C dx fs)) (cl:Cls K C) (ha:findIn K (.ref C) "__class__"=some (some (.builtin "object.__class__")))
   (hn:specialIn K (.builtin "object.__class__") "__get__"=some (some (.builtin "getset_descriptor.__get__"))) (htk:PySem.W.takesIn K (.builtin "object.__class__")=some true)
   (hm:mroIn K C (.type "object")=some true):Dk K H (.ref a) (.ref C)
theorem XF{x:V}{u t:Value}(I:Inv X aa σ H s)(rx:RelV x u)(ty:Dk X.K H x t)(e:kitOne X.K t c=some b)(h:∀tk,Q (.bool b) { s with toks:=tk }) :
  wpAny (model X.prog X.w) A (call (.builtin "isinstance") [u,c]) Q E s:=by
 cases ty with
 |non=>cases(show u=Value.none from rx);exact kia_one PySem.W.kitx_none I.kIn True.intro e (λz=>nomatch z) h
 |bl y=>cases(show u=Value.bool y from rx);exact kia_one PySem.W.kitx_bool I.kIn True.intro e (λz=>nomatch z) h
 |int i=>obtain⟨t,q⟩:=(show ∃t,u=Value.int i t from rx);cases q;exact kia_one PySem.W.kitx_int I.kIn True.intro e (λz=>nomatch z) h
 |str y=>obtain⟨t,q⟩:=(show ∃t,u=Value.str y t from rx);cases q;exact kia_one PySem.W.kitx_str I.kIn True.intro e (λz=>nomatch z) h
 |flt y=>obtain⟨t,q⟩:=(show ∃t,u=Value.float y t from rx);cases q;exact kia_one PySem.W.kitx_float I.kIn True.intro e (λz=>nomatch z) h
 |@lst a xs ea =>
  cases(show u=Value.ref a from rx);obtain⟨_,_,n,_,h1⟩:=(show fZ X.prog X.w H s.heap a (.lst xs)from I.hok a _ ea);exact kia_one kitx_list I.kIn ⟨_,h1,rfl⟩ e (λz=>nomatch z) h
 |@frz a ob xs ea =>
  cases(show u=Value.ref a from rx);obtain⟨_,_,_,n,_,h1⟩:=(show fZ X.prog X.w H s.heap a (.frz ob (.lst xs))from I.hok a _ ea);exact kia_one kitx_list I.kIn ⟨_,h1,rfl⟩ e (λz=>nomatch z) h
 |@tup a xs ea =>
  cases(show u=Value.ref a from rx);obtain⟨_,_,_,p⟩:=(show fZ X.prog X.w H s.heap a (.tup xs)from I.hok a _ ea);obtain⟨o,h1,h2,_⟩:=p;exact kia_one kitx_tuple I.kIn ⟨o,h1,h2⟩ e (λz=>nomatch z) h
 |@dK a ar ea =>
  cases(show u=Value.ref a from rx);obtain⟨_,_,vs,_,p⟩:=(show fZ X.prog X.w H s.heap a (.dK ar)from I.hok a _ ea);obtain⟨o,es,ep,h1,h2,_⟩:=p;exact kia_one PySem.W.kitx_dict I.kIn ⟨o,h1,h2.1⟩ e (λz=>nomatch z) h
 |@ins a C dx fs ea cl ha hn htk hm =>
  cases(show u=Value.ref a from rx);obtain⟨mA,O,_⟩:=GP I.hok ea;obtain⟨od,J,_⟩:=O.look;exact kia_one (PySem.W.kitx_own (cl.get _) cl.hd ha hn htk hm) I.kIn J e (λz=>nomatch z) h
end
structure fD(k:Nat)(A:Around):Prop where
 hd:A.handled=none
 dp:A.depth+3*k+5<recursionLimit
 un:A.units+16*k+200<cLine
theorem fD.mono{j k:Nat}{A:Around}(r:fD k A)(h:j<=k):fD j A:=⟨r.hd,by have:=r.dp;lia,by have:=r.un;lia⟩
theorem fD.md{k n:Nat}{A:Around}(h:fD n A)(e:k<=n:=by decide):fD k A:=h.mono e
theorem fD.deeper{k:Nat}{A:Around}(r:fD (k+1) A)(env:Env):fD k (A.deeper env) :=
 ⟨r.hd,by have:=r.dp;show A.depth+1+3*k+5<_;lia,by have:=r.un;show A.units+3+16*k+200<_;lia⟩
theorem UG{A:Around}{C:Addr}{us:Θ}{kw:List (Str×Value)} : (A.under (.builtin "type.__call__" ⟨.ref C::us,kw⟩)).depth=A.depth+1:=by
 first|rfl|simp[Around.under,Code.weight,Code.isCreation,Code.isGuard,Code.isCaller,Code.frames,Code.isFrame,guardIds]
theorem Te{A:Around}{C:Addr}{us:Θ}{kw:List (Str×Value)} : (A.under (.builtin "type.__call__" ⟨.ref C::us,kw⟩)).units=A.units+1:=by
 first|rfl|simp[Around.under,Code.cUnits,Code.frames,Code.isFrame]
theorem fD.make{k:Nat}{A:Around}(r:fD (k+1) A)(C:Addr)(us:Θ)(kw:List (Str×Value)):fD k (A.under (.builtin "type.__call__" ⟨.ref C::us,kw⟩)) :=
 ⟨r.hd,by have:=r.dp;rw[UG];lia,by have:=r.un;rw[Te];lia⟩
theorem fD.depth{k:Nat}{A:Around}(r:fD k A):A.depth<recursionLimit:=by have:=r.dp;lia
theorem fD.units{k:Nat}{A:Around}(r:fD k A):A.units+64<cLine:=by have:=r.un;lia
def aeB:TA:=λ_ H Q=>Q [] H
def ak6(ta:TE)(tr:TA):TA:=λσ H Q=>ta σ H λx H1=>tr σ H1 λxs H2=>Q (x::xs) H2
section
variable{X:Cx}{e:Expr}{es:List Expr}{te:TE}{t:TA}{pos:Pos}
theorem OJ:PA X [] aeB:=λ_ _ _ _ H Q I h=>Calls.spliced_nil ⟨[],H,I,.nil,h⟩
theorem oJ(ha:PE X e te)(hr:PA X es t)(hs:starEach (e::es) X.env=(false,eval e X.env)::starEach es X.env:=by rfl):PA X (e::es) (ak6 te t):=by
 intro pos aa s σ H Q I h;rw[hs];show wpAny _ _ (spliced ((false,eval e X.env)::backTo pos (starEach es X.env))) _ _ s;refine Calls.spliced_cons (thn (ha aa s σ H _ I h) λu s1 hP=>?_);obtain⟨x,H1,I1,r1,q1⟩:=hP;exact thn (hr pos aa s1 σ H1 _ I1 q1) λus s2 hP=>by obtain⟨xs,H2,I2,r2,q2⟩:=hP;exact⟨x::xs,H2,I2,.cons r1 r2,q2⟩
def alj(t:TA):TE:=λσ H Q=>t σ H λxs H1=>xs.length<=sizeLine/\∀p,H1 p=none->Q (.ref p) (upd H1 p (.tup xs))
def amc(t:TA):TE:=λσ H Q=>t σ H λxs H1=>xs.length<=sizeLine/\∀p,H1 p=none->Q (.ref p) (upd H1 p (.lst xs))
theorem aeh{x1}(h:PA X es t):PE X (.Tuple es x1 pos) (alj t):=by
 intro aa s σ H Q I hq;refine wpAny_Tuple_spliced (thn (h pos aa s σ H _ I hq) λus s1 ⟨xs,H1,I1,r,z,q⟩=>⟨by rw[<- r.length];exact z,?_⟩);have hf:H1 s1.heap.objs.size=none:=I1.hok.fresh (aG _);refine⟨.ref s1.heap.objs.size,upd H1 s1.heap.objs.size (.tup xs),I1.laid (t':=s1.toks) (λb u e=>aH _ e) (aG _) ?_,rfl,q _ hf⟩;exact⟨z,us,r,⟨_,aW _ rfl,rfl,_,rfl⟩⟩
theorem aft(h:PA X es t):PE X (.List es pos) (amc t):=by
 intro aa s σ H Q I hq;refine wpAny_List_spliced (thn (h pos aa s σ H _ I hq) λus s1 ⟨xs,H1,I1,r,z,q⟩=>⟨by rw[<- r.length];exact z,?_⟩);have hf:H1 s1.heap.objs.size=none:=I1.hok.fresh (aG _);refine⟨.ref s1.heap.objs.size,upd H1 s1.heap.objs.size (.lst xs),I1.laid (t':=s1.toks) (λb u e=>aH _ e) (aG _) ?_,rfl,q _ hf⟩;exact⟨z,us,0,r,aW _ rfl⟩
end
abbrev Sp:=Ζ->Hp->VK->XK->Prop
abbrev CXT:=List Env->Hp->Shared->XK->Value->Shared->Prop
structure Qg(P:Program)(w:World)(K:Frag)(mg:Str->Ω)(base:Heap)(A:Around)(outer:List Env)(s:Shared)(H:Hp):Prop where
 frames:A.frames=some outer
 mod:Mod K mg base
 bs:∀b o,base.get? b=some o->s.heap.get? b=some o/\H b=none
 bsz:base.objs.size<=s.heap.objs.size
 funs:s.heap.FunFrames base outer
 frf:∀b∈frs outer,H b=none
 hok:HOk P w H s.heap
 bare:AllBare s.gens
def CE(outer:List Env)(P:Program)(w:World)(H:Hp)(s:Shared)(Q:VK)(u:Value)(s':Shared):Prop :=
 ∃v H',s'.os=s.os/\AllBare s'.gens/\Un (frs outer) [] H H' s.heap s'.heap/\HOk P w H' s'.heap/\RelV v u/\Q v H'
def CR(CX:CXT)(outer:List Env)(P:Program)(w:World)(H:Hp)(s:Shared)(Q:VK)(E:XK)(r:Result)(s':Shared):Prop :=
 match r with
 |.ok (.ret u)=>CE outer P w H s Q u s'
 |.ok _=>False
 |.error e=>CX outer H s E e s'
structure cj(P:Program)(w:World)(K:Frag)(mg:Str->Ω)(base:Heap)(CX:CXT)(k:Nat)(f:Addr)(fd:FuncData)(ps:Φ)(sp:Sp):Prop where
 len:∀vs H Q E,sp vs H Q E->vs.length=ps.length
 run:∀(A:Around)(outer:List Env)(s:Shared)(H:Hp)(args:Args)(us:Θ)(vs:Ζ)(Q:VK)(E:XK),fD k A->Qg P w K mg base A outer s H->BindsTo s fd args (ps.zip us)->Vals vs us->sp vs H Q E ->
  codeAny (model P w) A (.call (.ref f) args) (CR CX outer P w H s Q E) s
theorem cj.imp{P:Program}{w:World}{K:Frag}{mg:Str->Ω}{base:Heap}{CX:CXT}{k:Nat}{f:Addr}{fd:FuncData}{ps:Φ}{sp sp':Sp}(F:cj P w K mg base CX k f fd ps sp)
 (h:∀vs H Q E,sp' vs H Q E->sp vs H Q E):cj P w K mg base CX k f fd ps sp' :=
 ⟨λvs H Q E q=>F.len vs H Q E (h _ _ _ _ q),λA outer s H args us vs Q E hr he hb hv hs=>F.run A outer s H args us vs Q E hr he hb hv (h _ _ _ _ hs)⟩
theorem Qg.make{P:Program}{w:World}{K:Frag}{mg:Str->Ω}{base:Heap}{A:Around}{outer:List Env}{s:Shared}{H:Hp}(e:Qg P w K mg base A outer s H)(C:Addr)(us:Θ)(kw:List (Str×Value)) :
  Qg P w K mg base (A.under (.builtin "type.__call__" ⟨.ref C::us,kw⟩)) outer s H:=⟨by first|exact e.frames|(simpa[Around.under,Code.envs,Code.isFrame,pushEnvs]using e.frames),e.mod,e.bs,e.bsz,e.funs,e.frf,e.hok,e.bare⟩
section
variable{X:Cx}{aa:Δ}{σ:St}{H:Hp}{s s':Shared}
theorem Inv.env0(I:Inv X aa σ H s):Qg X.prog X.w X.K X.mg X.base X.A X.stack s H :=
 ⟨I.ok.frames,I.ok.mod,I.bs,aL I.ok.bsz I.sz,I.stack,I.stkFree,I.hok,I.bare⟩
theorem Inv.after{Q:VK}{u:Value}(I:Inv X aa σ H s)(h:CE X.stack X.prog X.w H s Q u s'):EP X aa σ Q u s':=by
 obtain⟨v,H',os,bare,un,hok,r,q⟩:=h;obtain⟨hh,g,d,t,os'⟩:=s';obtain rfl:os'=s.os:=os;exact⟨v,H',I.call (h':=hh) (g':=g) (d':=d) (t':=t) (ch:=[]) un hok bare (λb z=>absurd z (by simp)),r,q⟩
end
def akt(sp:Sp)(c6:Ζ)(E:XK)(t:TA):TE:=λσ H Q=>t σ H λvs H1=>sp (vs++c6) H1 Q E
def adO(C:Addr)(m:Str)(sp:Sp)(c6:Ζ)(E:XK)(ta:TE)(t:TA):TE:=λσ H Q=>ta σ H λx H1=>∃a dx fs,x=.ref a/\H1 a=some (.ins C dx fs)/\fs.lookup m=none /\
 t σ H1 λvs H2=>sp (x::(vs++c6)) H2 Q E
def ajt(C:Addr)(sp:Sp)(c6:Ζ)(E:XK)(t:TA):TE:=λσ H Q=>t σ H λvs H1=>∀x dx,H1 x=none->H1 dx=none->dx≠x ->
 sp (.ref x::(vs++c6)) (upd (upd H1 dx (.own x)) x (.ins C dx [])) (λv H2=>v=.non/\Q (.ref x) H2) E
def Binds(K:Frag)(fd:FuncData)(ps:Φ)(ds:Θ):Prop :=
 ∀(s:Shared)(us:Θ),K.In s.heap->(us++ds).length=ps.length->BindsTo s fd ⟨us,[]⟩ (ps.zip (us++ds))
theorem Binds.all{K:Frag}{fd:FuncData}{ps:Φ}(h:∀us:Θ,us.length=ps.length->bindArgs fd ⟨us,[]⟩=pure (ps.zip us)):Binds K fd ps []:=λs us _ hl=>by
 rw[List.append_nil]at hl ⊢;exact .of_eq (h us hl)
def Passes(CX:CXT)(X:Cx)(E:XK):Prop:=∀(aa:Δ)(σ:St)(H:Hp)(s:Shared)(e:Value)(s':Shared),Inv X aa σ H s->CX X.stack H s E e s'->X.xe e s'
section
variable{X:Cx}{CX:CXT}{k:Nat}{f C:Addr}{fd:FuncData}{ps:Φ}{sp:Sp}{c6:Ζ}{ds:Θ}{E:XK}{x m:Str}{p pos am:Pos}{e o:Expr}{es:List Expr}{ta:TE}{t:TA}
theorem LQ{aa:Δ}{σ:St}{H:Hp}{s:Shared}{Q:VK}{us:Θ}{vs:Ζ}(F:cj X.prog X.w X.K X.mg X.base CX k f fd ps sp)(hr:fD k X.A)(hb:Binds X.K fd ps ds)(hd:Vals c6 ds)(hx:Passes CX X E)
 (I:Inv X aa σ H s)(r:Vals vs us)(h:sp (vs++c6) H Q E):wpAny (model X.prog X.w) X.A (call (.ref f) us) (EP X aa σ Q) X.xe s:=by
 have r2:Vals (vs++c6) (us++ds):=r.append hd;have hl:(us++ds).length=ps.length:=by rw[<- r2.length];exact F.len _ _ _ _ h
 refine wpAny_call (codeAny_mono (F.run X.A X.stack s H ⟨us,[]⟩ (us++ds) (vs++c6) Q E hr I.env0 (hb s us I.kIn hl) r2 h) λr s' hq=>?_);cases r with
 |error e=>exact hx aa σ H s e s' I hq
 |ok fl =>
  cases fl with
  |ret u=>exact I.after hq
  |next=>exact False.elim hq
  |brk=>exact False.elim hq
  |cont=>exact False.elim hq
theorem acK(F:cj X.prog X.w X.K X.mg X.base CX k f fd ps sp)(hr:fD k X.A)(hg:Gl X x)(hm:X.mg x=some (.ref f))(hk:keepIn X.K (.ref f)=true)(hb:Binds X.K fd ps ds)(hd:Vals c6 ds)(hx:Passes CX X E)
 (ha:PA X (e::es) t)(ce:(x==("__debug__":Str))=false:=by decide)(he:starEach (e::es) X.env=(false,eval e X.env)::starEach es X.env:=by rfl)(bi:(backTo pos (starEach es X.env)).any (·.1)=false:=by rfl) :
  PE X (.Call (.Name x p) (e::es) [] pos) (akt sp c6 E t):=by
 intro aa s σ H Q I h;refine wpAny_Call_Name_kw (Gq I hg hm ?_ ce);refine callWith_K (h₀:=X.base) I.ok.mod.kin hk (thn (ha pos aa s σ H _ I h) λus s1 ⟨vs,H1,I1,r,q⟩=>⟨I1.kIn,?_⟩) he bi;exact LQ F hr hb hd hx I1 r q
theorem adE{pl:Sem Bool}(he:PE X o ta)(c:Cls X.K C)(hm:Meth X.K C m f)(F:cj X.prog X.w X.K X.mg X.base CX k f fd ps sp)(hr:fD k X.A)(hb:Binds X.K fd ps ds)(hd:Vals c6 ds)(hx:Passes CX X E)(ha:PA X (e::es) t)
 (b9:starEach (e::es) X.env=(false,eval e X.env)::starEach es X.env:=by rfl)(bi:(backTo pos (starEach es X.env)).any (·.1)=false:=by rfl)
 (ht:eval (.Call (.Attribute o m am) (e::es) [] pos) X.env=(do
   let ov <- eval o X.env
   standAt am.atName
   let(f,first) <- holding [ov] (getMethod ov m pl)
   callWith pos f first (backTo pos (starEach (e::es) X.env)) (backToKw pos (keywordEach [] X.env))):=by rfl) :
  PE X (.Call (.Attribute o m am) (e::es) [] pos) (adO C m sp c6 E ta t):=by
 intro aa s σ H Q I h;refine methodCall_KW (pl:=pl) (thn (he aa s σ H _ I h) λu s1 hP=>?_) ht;obtain⟨x,H1,I1,rx,a,dx,fs,ex,ea,l,q⟩:=hP;subst ex;obtain rfl:u=Value.ref a:=rx;refine Hx I1 ea c hm l ?_;refine callWith_K (first:=[.ref a]) (h₀:=X.base) I.ok.mod.kin hm.kp (thn (ha pos aa s1 σ H1 _ I1 q) λus s2 ⟨vs,H2,I2,r,q2⟩=>⟨I2.kIn,?_⟩) b9 bi;exact LQ (us:=.ref a::us) (vs:=.ref a::vs) F hr hb hd hx I2 (.cons rfl r) q2
theorem YK{pl:Sem Bool}(he:PE X o ta)(c:Cls X.K C)(hm:Meth X.K C m f)(F:cj X.prog X.w X.K X.mg X.base CX k f fd ps sp)(hr:fD k X.A)(hb:Binds X.K fd ps ds)(hd:Vals c6 ds)(hx:Passes CX X E)
 (ht:eval (.Call (.Attribute o m am) [] [] pos) X.env=(do
   let ov <- eval o X.env
   standAt am.atName
   let(f,first) <- holding [ov] (getMethod ov m pl)
   callWith pos f first (backTo pos (starEach [] X.env)) (backToKw pos (keywordEach [] X.env))):=by rfl) :
  PE X (.Call (.Attribute o m am) [] [] pos) (adO C m sp c6 E ta aeB):=by
 intro aa s σ H Q I h;refine methodCall_KW (pl:=pl) (thn (he aa s σ H _ I h) λu s1 hP=>?_) ht;obtain⟨x,H1,I1,rx,a,dx,fs,ex,ea,l,q⟩:=hP;subst ex;obtain rfl:u=Value.ref a:=rx;refine Hx I1 ea c hm l ?_;exact PySem.W.callWith_K0 (first:=[.ref a]) I1.kIn hm.kp (LQ (us:=[.ref a]) (vs:=[.ref a]) F hr hb hd hx I1 (.cons rfl .nil) q)
structure Mk(K:Frag)(C f:Addr):Prop where
 makes:makesIn K C=true
 init:findIn K (.ref C) "__init__"=some (some (.ref f))
 fn:isFn K (.ref f)=true
 kp:keepIn K (.ref C)=true
theorem YL{aa:Δ}{σ:St}{H:Hp}{s:Shared}{Q:VK}{us:Θ}{vs:Ζ}(M:Mk X.K C f)(F:cj X.prog X.w X.K X.mg X.base CX k f fd ps sp)(hr:fD (k+1) X.A)(hb:Binds X.K fd ps ds)(hd:Vals c6 ds)
 (hx:Passes CX X E)(I:Inv X aa σ H s)(r:Vals vs us)
 (h:∀x dx,H x=none->H dx=none->dx≠x->sp (.ref x::(vs++c6)) (upd (upd H dx (.own x)) x (.ins C dx [])) (λv H2=>v=.non/\Q (.ref x) H2) E) :
  wpAny (model X.prog X.w) X.A (call (.ref C) us) (EP X aa σ Q) X.xe s:=by
 have hq:=h (s.heap.objs.size+1) s.heap.objs.size (I.hok.fresh (Xs _)) (I.hok.fresh (aG _)) (aQ (X1 _));have I2:=Inv.made (C:=C) I;have r2:Vals (V.ref (s.heap.objs.size+1)::(vs++c6)) (Value.ref (s.heap.objs.size+1)::(us++ds)):=.cons rfl (r.append hd);have hl:(Value.ref (s.heap.objs.size+1)::us++ds).length=ps.length:=by
  have e:=r2.length;rw[F.len _ _ _ _ hq]at e;exact e.symm
 refine wpAny_call (Zn (f:=f) I.kIn M.makes M.init (beq_iff_eq.mp M.fn) (codeAny_mono (F.run _ X.stack _ _ ⟨Value.ref (s.heap.objs.size+1)::us,[]⟩ (Value.ref (s.heap.objs.size+1)::(us++ds)) _ _ E (hr.make C us [])
  (I2.env0.make C us []) (hb _ (Value.ref (s.heap.objs.size+1)::us) I2.kIn hl) r2 hq) λr s' dA=>?_))
 cases r with
 |error e=>exact hx aa σ _ _ e s' I2 dA
 |ok fl =>
  cases fl with
  |ret u =>
   obtain⟨v,H',I3,rv,ev,q3⟩:=I2.after dA;subst ev;exact⟨rv,⟨V.ref (s.heap.objs.size+1),H',I3,rfl,q3⟩⟩
  |next=>exact False.elim dA
  |brk=>exact False.elim dA
  |cont=>exact False.elim dA
theorem ace(M:Mk X.K C f)(F:cj X.prog X.w X.K X.mg X.base CX k f fd ps sp)(hr:fD (k+1) X.A)(hg:Gl X x)(hm:X.mg x=some (.ref C))(hb:Binds X.K fd ps ds)(hd:Vals c6 ds)(hx:Passes CX X E)
 (ha:PA X (e::es) t)(ce:(x==("__debug__":Str))=false:=by decide)(he:starEach (e::es) X.env=(false,eval e X.env)::starEach es X.env:=by rfl)(bi:(backTo pos (starEach es X.env)).any (·.1)=false:=by rfl) :
  PE X (.Call (.Name x p) (e::es) [] pos) (ajt C sp c6 E t):=by
 intro aa s σ H Q I h;refine wpAny_Call_Name_kw (Gq I hg hm ?_ ce);refine callWith_K (h₀:=X.base) I.ok.mod.kin M.kp (thn (ha pos aa s σ H _ I h) λus s1 ⟨vs,H1,I1,r,q⟩=>⟨I1.kIn,?_⟩) he bi;exact YL M F hr hb hd hx I1 r q
end
structure bL(N P:Φ)(sc:Scope):Prop where
 kind:sc.kind=.function
 co:sc.isCoroutine=false
 gen:sc.isGenerator=false
 nd:N.Nodup
 pre:N.take P.length=P
 par:∀x∈P,sc.names.lookup x=some .local\/sc.names.lookup x=some .cell
 nofree:∀y∈sc.names,y.2≠.free
theorem Kw{kindOf:Str->Option NameKind}{x:Str} : ∀{binds:List (Str×Value)}{m:Str->Ω},(∀v,(x,v)∉binds)->bindL kindOf binds m x=m x
 |[],_,_=>rfl
 |(n,v)::r,m,h=>by
  unfold bindL;rw[Kw λw hw=>h w (aJ _ hw)];split
  .have:x≠n:=by rintro rfl;exact h v aO
   simp[this]
  .rfl
theorem Ke{kindOf:Str->Option NameKind}{x:Str} : ∀{binds:List (Str×Value)}{m:Str->Ω},(∀v,(x,v)∉binds)->bindC kindOf binds m x=m x
 |[],_,_=>rfl
 |(n,v)::r,m,h=>by
  unfold bindC;rw[Ke λw hw=>h w (aJ _ hw)];split
  .rfl
  .have:x≠n:=by rintro rfl;exact h v aO
   simp[this]
theorem Kh{kindOf:Str->Option NameKind}{x:Str}{v:Value} : ∀{P:Φ}{vs:Θ}{i:Nat}{m:Str->Ω},P.Nodup->P[i]?=some x->vs[i]?=some v->kindOf x=some .local ->
  bindL kindOf (P.zip vs) m x=some v
 |[],_,_,_,_,h,_,_=>by simp at h
 |_::_,[],_,_,_,_,h,_=>by simp at h
 |p::P,w::vs,0,m,nd,h1,h2,hk=>by
  simp at h1 h2;subst h1;subst h2;show bindL kindOf ((p,w)::P.zip vs) m p=_;unfold bindL;rw[Kw λv hv=>(List.nodup_cons.mp nd).1 (VQ hv).1,ZY hk];simp
 |p::P,w::vs,i+1,m,nd,h1,h2,hk=>by
  show bindL kindOf ((p,w)::P.zip vs) m x=_;unfold bindL;exact Kh (i:=i) (List.nodup_cons.mp nd).2 (by simpa using h1) (by simpa using h2) hk
theorem Ka{kindOf:Str->Option NameKind}{x:Str}{v:Value} : ∀{P:Φ}{vs:Θ}{i:Nat}{m:Str->Ω},P.Nodup->P[i]?=some x->vs[i]?=some v->kindOf x≠some .local ->
  bindC kindOf (P.zip vs) m x=some v
 |[],_,_,_,_,h,_,_=>by simp at h
 |_::_,[],_,_,_,_,h,_=>by simp at h
 |p::P,w::vs,0,m,nd,h1,h2,hk=>by
  simp at h1 h2;subst h1;subst h2;show bindC kindOf ((p,w)::P.zip vs) m p=_;unfold bindC;rw[Ke λv hv=>(List.nodup_cons.mp nd).1 (VQ hv).1,ZZ hk];simp
 |p::P,w::vs,i+1,m,nd,h1,h2,hk=>by
  show bindC kindOf ((p,w)::P.zip vs) m x=_;unfold bindC;exact Ka (i:=i) (List.nodup_cons.mp nd).2 (by simpa using h1) (by simpa using h2) hk
noncomputable def start(N:Φ)(vs:Ζ):St:=vs.map some++List.replicate (N.length-vs.length) none
def Ob(CX:CXT)(P:Program)(w:World)(K:Frag)(mg:Str->Ω)(base:Heap)(N:Φ)(ai:Str)(scope:Scope)(f:Addr)(cd:Value)(A:Around)(outer:List Env)(s:Shared)(H:Hp)(E:XK):Cx where
 prog:=P
 w:=w
 K:=K
 mg:=mg
 base:=base
 A:=A.deeper (envOfC ai scope s.heap.objs.size f cd)
 N:=N
 s₀:=s
 H₀:=H
 env:=envOfC ai scope s.heap.objs.size f cd
 outer:=outer
 stack:=envOfC ai scope s.heap.objs.size f cd::outer
 ex:=[]
 calm:=true
 fn:=λ_=>true
 pn:=[]
 xe:=λe s'=>wpAny (model P w) (A.deeper (envOfC ai scope s.heap.objs.size f cd)) (leaving (envOfC ai scope s.heap.objs.size f cd) e) (λ_ ku=>CX outer H s E e ku) (λe' ku=>CX outer H s E e' ku) s'
theorem R7{sc:Scope}{n:Nat}{x:Str}(h:sc.names.lookup x=some .cell):∃c,(cellsFrom n sc.names []).lookup x=some c:=by
 have q:=PySem.W.cellsFrom_some sc.names n [] (.inl h);exact Option.isSome_iff_exists.mp q
theorem XH{CX:CXT}{P:Program}{w:World}{K:Frag}{mg:Str->Ω}{base:Heap}{N ps:Φ}{ai:Str}{scope:Scope}{f:Addr}{cd:Value}{A:Around}{outer:List Env}{s s1:Shared}{H:Hp}{E:XK}{us:Θ}{vs:Ζ}
 (S:bL N ps scope)(hd:A.handled=none)(e0:Qg P w K mg base A outer s H)(hl:vs.length=ps.length)(r:Vals vs us)
 (x:InCallC s s.heap.objs.size (bindL (envOfC ai scope s.heap.objs.size f cd).kindOf (ps.zip us) λ_=>none) (cellsFrom (s.heap.objs.size+1) scope.names []) (bindC (envOfC ai scope s.heap.objs.size f cd).kindOf (ps.zip us) λ_=>none) s1) :
  Inv (Ob CX P w K mg base N ai scope f cd A outer s H E) [] (start N vs) H s1:=by
 have bi:ps.length<=N.length:=by have:=ZH List.length S.pre;rw[aY]at this;lia
 obtain⟨h1,tk,rfl,hk⟩:=x.done;have ie:∀b:Addr,b∉(Ob CX P w K mg base N ai scope f cd A outer s H E).ex:=λb z=>absurd (show b∈([] : Ψ)from z) (by simp);refine⟨⟨e0.mod,S.kind,rfl,rfl,aG _,λy z c h1 h2=>?_,λy hy=>?_,λy c _ h=>?_,λ_=>hd,Around.frames_deeper e0.frames,.inr ⟨rfl,rfl⟩,λb z=>absurd z (ie b),e0.bs,e0.bsz,λb _ _=>ie b,λb z=>absurd z (ie b),e0.funs,e0.frf⟩,
  rfl,e0.bare,Un.kept hk,⟨_,x.toInCall.ns,λi y v h1 h2 h3=>?_⟩,λy c h=>⟨_,x.cell y c h⟩,e0.hok.fresh (aG _),λy c h=>?_,λp hp=>absurd (show p∈([] : Δ)from hp) (by simp),e0.hok.kept hk,?_⟩
 .exact name_of_addr x.apart (PySem.mem_of_lookup h1) (PySem.mem_of_lookup h2)
 .have hy:scope.names.lookup y=some .cell\/scope.names.lookup y=some .free:=hy;rcases hy with hy|hy
  .exact R7 hy
  .exact absurd rfl (S.nofree _ (PySem.mem_of_lookup hy))
 .exact Y2 (x.above y c (PySem.mem_of_lookup h))
 .have hi:i<vs.length:=by
   unfold start at h2;by_cases hi:i<vs.length
   .exact hi
   .rw[aD (by simpa using hi)]at h2;rw[X0]at h2;split at h2<;>cases h2
  have ha:vs[i]?=some v:=by
   unfold start at h2;rw[aF (by simpa using hi),aq]at h2;cases e:vs[i]? with
   |none=>rw[e]at h2;cases h2
   |some a=>rw[e]at h2;cases h2;rfl
  obtain⟨u,hu,rv⟩:=r.get ha;have hp:ps[i]?=some y:=by
   rw[<- S.pre,List.getElem?_take_of_lt (aR hi (WG hl))];exact h1
  have ndP:ps.Nodup:=by rw[<- S.pre];exact S.nd.sublist (List.take_sublist _ _)
  refine⟨u,rv,?_⟩;rcases S.par y (aC hp)with k|k
  .exact .inl ⟨k,Kh ndP hp hu k⟩
  .obtain⟨c,e⟩:=R7 (n:=s.heap.objs.size+1) k;refine .inr ⟨.inl k,c,e,?_⟩;have q:=x.cell y c e;rw[Ka ndP hp hu (by show scope.names.lookup y≠_;rw[k];decide)]at q;exact q
 .exact e0.hok.fresh (Y2 (x.above y c (PySem.mem_of_lookup h)))
 .unfold start;show _=N.length;rw[aA,ak,aN];lia
theorem ajA{CX:CXT}{P:Program}{w:World}{K:Frag}{mg:Str->Ω}{base:Heap}{k:Nat}{f:Addr}{name ai:Str}{eT:Arguments}{b7:List Stmt}{scope:Scope}{dV kV bE pm ag ct oc:Value}{an od:Ξ}
 {dQ:Array (Ω)}{N ps:Φ}{sp:Sp}(lk:K.lookup f=some ⟨oc,od,.func (PySem.W.fnOf name ai eT b7 scope dV kV bE pm an ag ct),dQ⟩)(bg:codeIn K ag ai=true)(S:bL N ps scope)
 (len:∀vs H Q E,sp vs H Q E->vs.length=ps.length)
 (cf:∀(A:Around)(outer:List Env)(s:Shared)(H:Hp)(vs:Ζ)(Q:VK)(E:XK),fD k (A.deeper (envOfC ai scope s.heap.objs.size f ag))->sp vs H Q E ->
   ∃t,PSs (Ob CX P w K mg base N ai scope f ag A outer s H E) b7 t/\t { nx:=λ_ H'=>Q .non H',rt:=Q } (start N vs) H) :
  cj P w K mg base CX (k+1) f (PySem.W.fnOf name ai eT b7 scope dV kV bE pm an ag ct) ps sp:=by
 refine⟨len,λA outer s H args us vs Q E hr e0 hb r f7=>?_⟩;have hl:=len _ _ _ _ f7;have KX:K.In s.heap:=e0.mod.kin.keeps λb o e=>(e0.bs b o e).1;have lim:s.heap.NoLimit:=e0.mod.nolimit.keeps λb o e=>(e0.bs b o e).1;have ci:∀y∈ps.zip us,scope.names.lookup y.1=some .local\/(scope.names.lookup y.1=some .cell/\((cellsFrom (s.heap.objs.size+1) scope.names []).lookup y.1).isSome=true):=λ⟨n,v⟩ hy=>by
  rcases S.par n (VQ hy).1 with q|q
  .exact .inl q
  .exact .inr ⟨q,PySem.W.cellsFrom_some _ _ _ (.inl q)⟩
 refine codeAny_call_function hr.depth (KX _ _ lk) rfl S.co S.gen rfl (PySem.W.codeRec_of KX bg) (hb _ _ _ _ ?_);refine wpAny_newFunctionEnv_cells S.kind ci λenv he s1 x=>?_;subst he;refine⟨lim.keeps x.toInCall.keep,codeAny_func ?_⟩;obtain⟨t,ht,hq⟩:=cf A outer s H vs Q E (hr.deeper _) f7;have I:Inv (Ob CX P w K mg base N ai scope f ag A outer s H E) [] (start N vs) H s1:=XH S hr.hd e0 hl r x;refine wpAny_mono (ht [] s1 (start N vs) H _ I hq) (λfl s' hs=>?_) λe s' hs=>hs;have bu:∀{σ':St}{H':Hp}{v:V}{u:Value},Inv (Ob CX P w K mg base N ai scope f ag A outer s H E) [] σ' H' s'->RelV v u->Q v H'->CE outer P w H s Q u s' :=
  λ{σ' H' v u}J rv q=>⟨v,H',J.os,J.bare,J.base,J.hok,rv,q⟩
 cases fl with
 |ret u =>
  obtain⟨v,σ',H',J,rv,q⟩:=hs;exact bu J rv q
 |next =>
  obtain⟨σ',H',J,q⟩:=hs;exact bu (v:=V.non) (u:=Value.none) J rfl q
 |brk =>
  obtain⟨_,_,_,q⟩:=hs;exact False.elim q
 |cont =>
  obtain⟨_,_,_,q⟩:=hs;exact False.elim q
section
variable{X:Cx}{x:Str}{p pos:Pos}{e:Expr}{es:List Expr}{t:TA}{id T:String}{r:Ζ->Hp->VK->Prop}
def tCB(r:Ζ->Hp->VK->Prop)(t:TA):TE:=λσ H Q=>t σ H λvs H1=>r vs H1 Q
theorem Qo(hc:jk X (.builtin id) r)(hg:Gl X x)(hm:X.mg x=none)(hv:bootBuiltins x=some (.builtin id))(ha:PA X (e::es) t)(hn:x≠"__name__":=by decide)(ce:(x==("__debug__":Str))=false:=by decide)
 (he:starEach (e::es) X.env=(false,eval e X.env)::starEach es X.env:=by rfl)(bi:(backTo pos (starEach es X.env)).any (·.1)=false:=by rfl):PE X (.Call (.Name x p) (e::es) [] pos) (tCB r t):=by
 intro aa s σ H Q I h;refine wpAny_Call_Name_kw (zB I hg hm hv ?_ hn ce);exact PyProof.Rows.callWith_builtin1 (thn (ha pos aa s σ H _ I h) λus s1 hP=>by obtain⟨vs,H1,I1,r1,q1⟩:=hP;exact hc aa s1 σ H1 vs us Q I1 r1 q1) he bi
theorem W5(hc:jk X (.type T) r)(hg:Gl X x)(hm:X.mg x=none)(hv:bootBuiltins x=some (.type T))(ha:PA X (e::es) t)(hn:x≠"__name__":=by decide)(ce:(x==("__debug__":Str))=false:=by decide)
 (he:starEach (e::es) X.env=(false,eval e X.env)::starEach es X.env:=by rfl)(bi:(backTo pos (starEach es X.env)).any (·.1)=false:=by rfl):PE X (.Call (.Name x p) (e::es) [] pos) (tCB r t):=by
 intro aa s σ H Q I h;refine wpAny_Call_Name_kw (zB I hg hm hv ?_ hn ce);exact PyProof.Rows.callWith_type1 (thn (ha pos aa s σ H _ I h) λus s1 hP=>by obtain⟨vs,H1,I1,r1,q1⟩:=hP;exact hc aa s1 σ H1 vs us Q I1 r1 q1) he bi
end
end L2
namespace HT
open PySem PyProof.Rows
section
variable{prog:Program}{w:World}{A:Around}{E:Ε}{s:Shared}
noncomputable def sIx(n d:Nat):Option Int->Nat
 |none=>d
 |some v=>if v<0 then(v+(n:Int)).toNat else min v.toNat n
theorem xX(n d k:Nat):sIx n d (some (k:Int))=min k n:=by
 show(if(k:Int)<0 then((k:Int)+(n:Int)).toNat else min (k:Int).toNat n)=min k n;rw[ZZ (Int.not_lt_of_ge (Wp _)),Zyv]
theorem aeI(n d:Nat)(hd:d<=n)(o:Option Int):sIx n d o<=n:=by
 cases o with
 |none=>exact hd
 |some v =>
  show(if v<0 then(v+(n:Int)).toNat else min v.toNat n)<=n;by_cases hv:v<0
  .rw[ZY hv];lia
  .rw[ZZ hv];exact Nat.min_le_right _ _
end
end HT
namespace L2
open PySem PySem.Spec PyProof.Rows
abbrev TO:=St->Hp->(Option Int->Hp->Prop)->Prop
def PO(X:Cx)(e:Option Expr)(t:TO):Prop :=
 ∀(aa:Δ)(s:Shared)(σ:St)(H:Hp)(Q:Option Int->Hp->Prop),Inv X aa σ H s->t σ H Q ->
  wpAny (model X.prog X.w) X.A (evalPart e X.env) (λu s'=>∃o H',Inv X aa σ H' s'/\IsPart u o/\Q o H') X.xe s
def ac0:TO:=λ_ H Q=>Q none H
def ahs(t:TE):TO:=λσ H Q=>t σ H λx H1=>∃i,x=.int i/\Q (some i) H1
theorem intsAre_of{ns:List Int} : ∀{us:Θ},Vals (ns.map V.int) us->IntsAre us ns:=by
 induction ns with
 |nil=>intro us r;rw[List.map_nil]at r;cases r;exact .nil
 |cons n ns ih =>
  intro us r;rw[List.map_cons]at r;cases r with
  |cons r1 r2 =>
   obtain⟨t,e⟩:=r1;subst e;exact .cons n t (ih r2)
section
variable{X:Cx}{e:Expr}{te:TE}{lo hi:Option Expr}{tl th:TO}{pos p2:Pos}
theorem abN:PO X none ac0:=by
 intro aa s σ H Q I h;rw[evalPart_none];exact ZT ⟨none,H,I,.none,h⟩
theorem ady(h:PE X e te):PO X (some e) (ahs te):=by
 intro aa s σ H Q I hw;rw[evalPart_some];refine thn (h aa s σ H _ I hw) λu s1 hP=>?_;obtain⟨x,H1,I1,r1,q1⟩:=hP;obtain⟨i,rfl,q⟩:=q1;obtain⟨t,rfl⟩:=r1;exact⟨some i,H1,I1,.int i t,q⟩
def SlR(X:Cx)(r:V->Option Int->Option Int->Hp->VK->Prop):Prop :=
 ∀(aa:Δ)(s:Shared)(σ:St)(H:Hp)(x:V)(v vl vu:Value)(lo hi:Option Int)(sl:Addr)(Q:VK),Inv X aa σ H s->RelV x v->s.heap.IsSliceOf sl vl vu .none->IsPart vl lo->IsPart vu hi->r x lo hi H Q ->
  ∃T id,typeLookup (.type T) "__getitem__"=pure (some (.builtin id))/\s.TypeIs v T/\wpAny (model X.prog X.w) X.A (getItem v (.ref sl)) (EP X aa σ Q) X.xe s
theorem SlR.or{r r':V->Option Int->Option Int->Hp->VK->Prop}(h:SlR X r)(h':SlR X r'):SlR X (λx lo hi H Q=>r x lo hi H Q\/r' x lo hi H Q):=by
 intro aa s σ H x v vl vu lo hi sl Q I rx hs pl pu q;rcases q with q|q
 .exact h aa s σ H x v vl vu lo hi sl Q I rx hs pl pu q
 .exact h' aa s σ H x v vl vu lo hi sl Q I rx hs pl pu q
def tSl(r:V->Option Int->Option Int->Hp->VK->Prop)(te:TE)(tl th:TO):TE:=λσ H Q=>te σ H λx H1=>tl σ H1 λl H2=>th σ H2 λu H3=>r x l u H3 Q
theorem Yl{r:V->Option Int->Option Int->Hp->VK->Prop}(hr:SlR X r)(he:PE X e te)(hl:PO X lo tl)(hu:PO X hi th):PE X (.Subscript e (.Slice lo hi none p2) pos) (tSl r te tl th):=by
 intro aa s σ H Q I h;refine Subscript_ (thn (he aa s σ H _ I h) λv s1 hP=>?_);obtain⟨x,H1,I1,r1,q1⟩:=hP;refine wpAny_Slice (thn (hl aa s1 σ H1 _ I1 q1) λvl s2 ⟨l,H2,I2,pl,q2⟩=>thn (hu aa s2 σ H2 _ I2 q2) λvu s3 hP=>?_);obtain⟨u,H3,I3,pu,q3⟩:=hP;rw[evalPart_none];refine ZT ?_;have I4:Inv X aa σ H3 { s3 with heap:=s3.heap.push { cls:=.type "slice",data:=.fields #[vl,vu,.none] } }:=I3.kept (t':=s3.toks) λb ob q=>aH _ q;obtain⟨T,id,hT,ht,hg⟩:=hr aa { s3 with heap:=s3.heap.push { cls:=.type "slice",data:=.fields #[vl,vu,.none] } } σ H3 x v vl vu l u s3.heap.objs.size Q I4 r1 (Heap.IsSliceOf.new ..) pl pu q3;show wpAny (model X.prog X.w) X.A (subscriptTail e (.Slice lo hi none p2) v (.ref s3.heap.objs.size)) (EP X aa σ Q) X.xe { s3 with heap:=s3.heap.push { cls:=.type "slice",data:=.fields #[vl,vu,.none] } };exact tail_any (ops:=[.ref s3.heap.objs.size,v]) ht hT hg (by with_unfolding_all rfl)
noncomputable def Ww(xs:Ζ)(lo hi:Option Int):Ζ:=(xs.drop (HT.sIx xs.length 0 lo)).take (HT.sIx xs.length xs.length hi-HT.sIx xs.length 0 lo)
theorem RN(xs:Ζ)(lo hi:Option Int):(Ww xs lo hi).length<=xs.length:=by
 unfold Ww;rw[aY,TW];lia
end
noncomputable def ixN(n:Nat)(i:Int):Option Nat:=if 0<=i then(if i<n then some i.toNat else none)else if -(n:Int)<=i then some (i+n).toNat else none
def atI{α:Type}(xs:List α)(i:Int):Option α:=(ixN xs.length i).bind λj=>xs[j]?
theorem VD{n:Nat}{i:Int}{j:Nat}(h:ixN n i=some j):seqIndex? i n=some j/\j<n/\-(n:Int)<=i/\i<n:=by
 unfold ixN at h;by_cases h0:0<=i
 .rw[ZY h0]at h;by_cases h1:i<n
  .rw[ZY h1]at h;have e:i.toNat=j:=Option.some.inj h;exact⟨by rw[seqIndex_of h0 h1,e],by lia,by lia,h1⟩
  .rw[ZZ h1]at h;cases h
 .rw[ZZ h0]at h;by_cases h1 : -(n:Int)<=i
  .rw[ZY h1]at h;have e:(i+n).toNat=j:=Option.some.inj h;exact⟨by rw[seqIndex_neg (Q2 h0) h1,e],by lia,h1,by lia⟩
  .rw[ZZ h1]at h;cases h
theorem Mq{α:Type}{xs:List α}{i:Int}{v:α}(h:atI xs i=some v):∃j,seqIndex? i xs.length=some j/\xs[j]?=some v/\j<xs.length/\-(xs.length:Int)<=i/\i<xs.length:=by
 unfold atI at h;cases e:ixN xs.length i with
 |none=>rw[e]at h;cases h
 |some j =>
  rw[e]at h;obtain⟨h1,h2,h3,h4⟩:=VD e;exact⟨j,h1,h,h2,h3,h4⟩
def tU(b:Expr):Prop:=∀o i,subscripted b false o i=operate [o,i] (getItem o i)
def IxR(X:Cx)(r:R2):Prop :=
 ∀(aE bj:Expr)(aa:Δ)(s:Shared)(σ:St)(H:Hp)(x y:V)(v u:Value)(Q:VK),Inv X aa σ H s->RelV x v->RelV y u->r x y H Q ->
  subscripted bj false v u=operate [v,u] (getItem v u)->wpAny (model X.prog X.w) X.A (subscriptTail aE bj v u) (EP X aa σ Q) X.xe s
def MtR(X:Cx)(id:String)(r:V->Ζ->Hp->VK->Prop):Prop :=
 ∀(aa:Δ)(s:Shared)(σ:St)(H:Hp)(x:V)(xs:Ζ)(v:Value)(us:Θ)(Q:VK),Inv X aa σ H s->RelV x v->Vals xs us->r x xs H Q ->
  wpAny (model X.prog X.w) X.A (call (.builtin id) (v::us)) (EP X aa σ Q) X.xe s
section
variable{X:Cx}{a b:Expr}{ta tb:TE}{pos:Pos}
theorem IxR.or{r r':R2}(h:IxR X r)(h':IxR X r'):IxR X (λx y H Q=>r x y H Q\/r' x y H Q):=by
 intro aE bj aa s σ H x y v u Q I rx ry q hs;rcases q with q|q
 .exact h aE bj aa s σ H x y v u Q I rx ry q hs
 .exact h' aE bj aa s σ H x y v u Q I rx ry q hs
theorem Kd{r:R2}(hr:IxR X r)(ha:PE X a ta)(hb:PE X b tb)(hs:tU b):PE X (.Subscript a b pos) (tOp r ta tb):=by
 intro aa s σ H Q I h;exact Subscript_ (af0 ha hb I h λv u s2 x y H2 I2 rx ry q=>hr a b aa s2 σ H2 x y v u Q I2 rx ry q (hs _ _))
def ani(K:Frag):R2:=λx y H Q=>∃p xs i v,x=.ref p/\y=.int i/\SqL K H p xs/\atI xs i=some v/\Q v H
def alC(K:Frag):R2:=λx y H Q=>∃p xs i v,x=.ref p/\y=.int i/\SqT K H p xs/\atI xs i=some v/\Q v H
def amM:R2:=λx y H Q=>∃z i c,x=.str z/\y=.int i/\z.length<=sizeLine/\atI z.cps.toList i=some c/\Q (.str ⟨#[c]⟩) H
theorem yj:IxR X (ani X.K):=by
 intro aE bj aa s σ H x y v u Q I rx ry h hs;obtain⟨p,xs,i,z,rfl,rfl,hq,he,q⟩:=h;cases rx;obtain⟨t,rfl⟩:=ry;obtain⟨its,r,pl,hz⟩:=I.list hq;obtain⟨j,h1,h2,h3,h4,h5⟩:=Mq he;obtain⟨w,ew,eS⟩:=r.get h2;have hl:=r.length;have hn:=wW;have bu:EP X aa σ Q w s:=⟨z,H,I,eS,q⟩;by_cases h0:0<=i
 .have hj:i.toNat=j:=by
   rw[seqIndex_of h0 h5]at h1;exact Option.some.inj h1
  exact item_listR pl.isList h0 (by lia) (by rw[hj];simpa using ew) bu hs
 .have hj:(i+(its.toArray.size:Int)).toNat=j:=by
   rw[seqIndex_neg (Q2 h0) h4]at h1;rw[aX,<- hl];exact Option.some.inj h1
  exact subscriptTail_builtinR (x:=w) pl.isList.typeIs slot_list_getitem.lookup
   (wpAny_getItem_list_neg (Q:=λr s'=>r=w/\EP X aa σ Q r s') pl.isList (Q2 h0) (by rw[aX]<;>lia) (by lia) (by rw[hj];simpa using ew) ⟨rfl,bu⟩) hs
theorem aeS:IxR X (alC X.K):=by
 intro aE bj aa s σ H x y v u Q I rx ry h hs;obtain⟨p,xs,i,z,rfl,rfl,hq,he,q⟩:=h;cases rx;obtain⟨t,rfl⟩:=ry;obtain⟨its,r,pl,hz⟩:=I.tuple hq;obtain⟨j,h1,h2,h3,h4,h5⟩:=Mq he;obtain⟨w,ew,eS⟩:=r.get h2;have hl:=r.length;have hn:=wW;have bu:EP X aa σ Q w s:=⟨z,H,I,eS,q⟩;exact subscriptTail_builtinR (x:=w) pl.typeIs slot_tuple_getitem.lookup
  (getItem_tuple (j:=j) (Q:=λr s'=>r=w/\EP X aa σ Q r s') pl (by lia) (by lia) (by rw[aX,<- hl];exact h1) (by simpa using ew) ⟨rfl,bu⟩) hs
theorem afZ:IxR X amM:=by
 intro aE bj aa s σ H x y v u Q I rx ry h hs;obtain⟨z,i,c,rfl,rfl,hz,he,q⟩:=h;obtain⟨t,rfl⟩:=rx;obtain⟨t',rfl⟩:=ry;obtain⟨j,h1,h2,h3,h4,h5⟩:=Mq he;have hl:z.cps.toList.length=z.length:=by simp[Str.length]
 rw[hl]at h1 h4 h5;have hn:=wW;exact tail_any (typeIs_str s z t) slot_str_getitem.lookup (getItem_str (c:=c) (by
  have e1:decide (i < -(2^63:Int))=false:=Zp (by lia);have e2:decide (i>=2^63)=false:=Zp (by lia);rw[e1,e2,Bool.or_false]) (by rw[h1];simpa using h2) ⟨.str ⟨#[c]⟩,H,I.tok _,⟨_,rfl⟩,q⟩) hs
theorem Uc(its:Θ)(n j:Nat)(u:Value):Obj.mapSeq (·.setIfInBounds j u) { cls:=.type "list",data:=.seq its.toArray n }={ cls:=.type "list",data:=.seq (its.set j u).toArray n }:=by
 simp[Obj.mapSeq]
theorem Inv.lst{aa:Δ}{σ:St}{H:Hp}{s:Shared}{p:Addr}{xs:Ζ}(I:Inv X aa σ H s)(h:H p=some (.lst xs)) :
  ∃(its:Θ)(n:Nat),Vals xs its/\s.heap.get? p=some { cls:=.type "list",data:=.seq its.toArray n }/\xs.length<=sizeLine:=by
 obtain⟨z,its,n,r,e⟩:=I.hok p _ h;exact⟨its,n,r,e,z⟩
theorem Inv.lstUpd{aa:Δ}{σ:St}{H:Hp}{s:Shared}{p:Addr}{xs ys:Ζ}{its its':Θ}{n n':Nat}{f:Obj->Obj}(I:Inv X aa σ H s)(h:H p=some (.lst xs))
 (ho:s.heap.get? p=some { cls:=.type "list",data:=.seq its.toArray n })(hf:f { cls:=.type "list",data:=.seq its.toArray n }={ cls:=.type "list",data:=.seq its'.toArray n' })(r:Vals ys its')(hz:ys.length<=sizeLine)(t:Nat) :
  Inv X aa σ (upd H p (.lst ys)) { s with heap:=s.heap.update p f,toks:=t }:=by
 have e:(s.heap.update p f).get? p=some { cls:=.type "list",data:=.seq its'.toArray n' }:=by
  rw[Heap.get?_update_self f ho (by rw[hf]<;>rfl),hf]
 refine I.write (x:=p) (e:=p) (by rw[h];trivial) (.inl rfl) (λb u hb q=>(Heap.get?_update_other _ _ (Ne.symm hb)).trans q) ⟨_,e⟩ ?_;exact⟨hz,its',n',r,e⟩
def ajW:V->V->V->Hp->(Hp->Prop)->Prop:=λo i v H Q=>∃p xs k j,o=.ref p/\i=.int k/\H p=some (.lst xs)/\ixN xs.length k=some j/\Q (upd H p (.lst (xs.set j v)))
theorem set_list:agL X ajW:=by
 intro aa s σ H o i v ov iv u Q I ro ri rv h;obtain⟨p,xs,k,j,rfl,rfl,hp,hj,q⟩:=h;cases ro;obtain⟨t,rfl⟩:=ri;obtain⟨its,n,r,ho,hz⟩:=I.lst hp;obtain⟨h1,h2,h3,h4⟩:=VD hj;have hl:=r.length;have hn:=wW;have I':Inv X aa σ (upd H p (.lst (xs.set j v))) { s with heap:=s.heap.update p (Obj.mapSeq (·.setIfInBounds j u)) } :=
  I.lstUpd hp ho (Uc its n j u) (r.set rv j) (by rw[VS];exact hz) s.toks
 by_cases h0:0<=k
 .have hk:k.toNat=j:=by
   rw[seqIndex_of h0 h4]at h1;exact Option.some.inj h1
  exact PySem.W.ki_setAt ho h0 (by lia) (by rw[aX,<- hl];exact h4) (by rw[hk];exact⟨_,I',q⟩)
 .have hk:(k+(its.toArray.size:Int)).toNat=j:=by
   rw[seqIndex_neg (Q2 h0) h3]at h1;rw[aX,<- hl];exact Option.some.inj h1
  exact PySem.W.ki_setBack ho (Q2 h0) (by rw[aX,<- hl];exact h3) (by lia) (by rw[hk];exact⟨_,I',q⟩)
theorem Lj(lo hi:Option Int)(n:Nat):(sliceBounds lo hi none n).1=((HT.sIx n 0 lo:Nat):Int)/\(sliceBounds lo hi none n).2.1=((HT.sIx n n hi:Nat):Int)/\(sliceBounds lo hi none n).2.2=1:=by
 refine⟨?_,?_,rfl⟩
 .cases lo with
  |none=>simp[sliceBounds,HT.sIx]
  |some i =>
   simp only[sliceBounds,HT.sIx,Option.getD_none,show(1:Int)>0 by decide,if_true];by_cases h:i<0
   .simp only[h,if_true]<;>lia
   .simp only[h,if_false]<;>lia
 .cases hi with
  |none=>simp[sliceBounds,HT.sIx]
  |some i =>
   simp only[sliceBounds,HT.sIx,Option.getD_none,show(1:Int)>0 by decide,if_true];by_cases h:i<0
   .simp only[h,if_true]<;>lia
   .simp only[h,if_false]<;>lia
theorem J6(its:Θ)(lo hi:Option Int):slicePick its.toArray lo hi none=((its.drop (HT.sIx its.length 0 lo)).take (HT.sIx its.length its.length hi-HT.sIx its.length 0 lo)).toArray:=by
 obtain⟨h1,h2,h3⟩:=Lj lo hi its.toArray.size;unfold slicePick;rw[h1,h2,h3];simp only[sliceRange_one,pick_run,aX]<;>rfl
def amo(K:Frag):V->Option Int->Option Int->Hp->VK->Prop:=λx lo hi H Q=>∃a xs,x=.ref a/\SqL K H a xs/\∀p,H p=none->Q (.ref p) (upd H p (.lst (Ww xs lo hi)))
theorem adg:SlR X (amo X.K):=by
 intro aa s σ H x v vl vu lo hi sl Q I rx hs pl pu h;obtain⟨a,xs,rfl,hx,q⟩:=h;cases rx;obtain⟨its,r,ht,hz⟩:=I.list hx;have aS:=r.length;refine⟨"list",_,slot_list_getitem.lookup,ht.isList.typeIs,?_⟩;refine wpAny_getItem_list_slice ht.isList hs pl pu .none (by simp) ?_ (by rw[aX]<;>lia);rw[J6,<- aS];refine⟨.ref s.heap.objs.size,_,I.laid (t':=s.toks) (o:=.lst (Ww xs lo hi)) (λb ob q=>aH _ q) (aG _) ?_,rfl,q _ (I.hok.fresh (aG _))⟩;exact⟨aL (RN xs lo hi) hz,_,0,(r.drop (HT.sIx xs.length 0 lo)).take (HT.sIx xs.length xs.length hi-HT.sIx xs.length 0 lo),aW _ rfl⟩
noncomputable def eqV:V->V->Bool
 |.non,.non=>true
 |.bl a,.bl b=>a==b
 |.bl a,.int b=>(if a then 1 else 0)==b
 |.int a,.bl b=>a==(if b then 1 else 0)
 |.int a,.int b=>a==b
 |.str a,.str b=>a==b
 |_,_=>false
theorem M8:jk X (.builtin "len") (λxs H Q=>∃p ys,xs=[.ref p]/\(SqL X.K H p ys\/SqT X.K H p ys)/\Q (.int ys.length) H):=by
 intro aa s σ H xs us Q I r h;obtain⟨p,ys,rfl,hq,q⟩:=h;obtain⟨u,rfl,rx⟩:=vals1 r;cases rx;have hn:=wW;rcases hq with hq|hq
 .obtain⟨its,r',pl,hz⟩:=I.list hq;have aS:=r'.length;exact Calls.call_len_list pl.isList (by simp only[aX]<;>lia) ⟨.int ys.length,H,I.tok _,⟨s.toks+1,by rw[aX,aS]⟩,q⟩
 .obtain⟨its,r',pl,hz⟩:=I.tuple hq;have aS:=r'.length;exact len_tuple pl (by simp only[aX]<;>lia) ⟨.int ys.length,H,I.tok _,⟨s.toks+1,by rw[aX,aS]⟩,q⟩
theorem Ma:jk X (.builtin "len") (λxs H Q=>∃z,xs=[.str z]/\z.length<=sizeLine/\Q (.int z.length) H):=by
 intro aa s σ H xs us Q I r h;obtain⟨z,rfl,hz,q⟩:=h;obtain⟨u,rfl,t,rfl⟩:=vals1 r;have hn:=wW;exact len_str (by lia) ⟨.int z.length,H,I.tok _,⟨_,rfl⟩,q⟩
theorem K1:jk X (.type "list") (λxs H Q=>∃p ys,xs=[.ref p]/\(SqL X.K H p ys\/SqT X.K H p ys)/\∀l,H l=none->Q (.ref l) (upd H l (.lst ys))):=by
 intro aa s σ H xs us Q I r h;obtain⟨p,ys,rfl,hq,q⟩:=h;obtain⟨u,rfl,rx⟩:=vals1 r;cases rx;have bu:∀(its:Θ),Vals ys its->ys.length<=sizeLine->∀(h':Heap)(c':Nat),(∀b o',s.heap.get? b=some o'->h'.get? b=some o') ->
   h'.get? s.heap.objs.size=some { cls:=.type "list",dict:=none,data:=.seq its.toArray c',slots:=#[] }->EP X aa σ Q (.ref s.heap.objs.size) { s with heap:=h' }:=λits r' hz h' c' kp e =>
  ⟨.ref s.heap.objs.size,_,I.laid (t':=s.toks) kp (aG _) (show fZ X.prog X.w _ h' _ (.lst ys)from⟨hz,its,c',r',e⟩),rfl,q _ (I.hok.fresh (aG _))⟩
 rcases hq with hq|hq
 .obtain⟨its,r',pl,hz⟩:=I.list hq;have aS:=r'.length;obtain⟨o,ho,hc,n,hd⟩:=pl.isList;exact call_list_seq p (.inl rfl) ho hc hd (λh' c' kp e=>bu its r' hz h' c' kp e) (by simp only[aX]<;>lia)
 .obtain⟨its,r',pl,hz⟩:=I.tuple hq;have aS:=r'.length;obtain⟨o,ho,hc,n,hd⟩:=pl;exact call_list_seq p (.inr rfl) ho hc hd (λh' c' kp e=>bu its r' hz h' c' kp e) (by simp only[aX]<;>lia)
def tyV(K:Frag)(T:String)(x:V)(H:Hp):Prop:=match x with
 |.str _=>T="str"
 |.int _=>T="int"
 |.ref p=>(T="list"/\∃xs,SqL K H p xs)\/(T="tuple"/\∃o,K.lookup p=some o/\o.cls=.type "tuple"/\o.dict=none) \/
   (T="dict"/\(∃ar,H p=some (.dK ar)))\/(T="set"/\∃S n,H p=some (.set S n))
 |_=>False
theorem ae5{aa:Δ}{σ:St}{H:Hp}{s:Shared}{T:String}{x:V}{v:Value}(I:Inv X aa σ H s)(r:RelV x v)(ty:tyV X.K T x H) :
  s.TypeIs v T/\∀a,v=.ref a->∃ob,s.heap.get? a=some ob/\ob.dict=none:=by
 cases x with
 |str z =>
  obtain⟨t,rfl⟩:=r;cases(show T="str" from ty);exact⟨typeIs_str s z t,λ_ e=>nomatch e⟩
 |int i =>
  obtain⟨t,rfl⟩:=r;cases(show T="int" from ty);exact⟨typeIs_int s i t,λ_ e=>nomatch e⟩
 |ref p =>
  cases r;rcases ty with⟨rfl,xs,hq⟩|⟨rfl,o,hk,hc,hd⟩|⟨rfl,hk⟩|⟨rfl,S,n,hk⟩
  .obtain⟨its,_,pl,_⟩:=I.list hq;refine⟨pl.isList.typeIs,λa e=>?_⟩;cases e;obtain⟨o,n,e,c,hd,_⟩:=pl;exact⟨o,e,hd⟩
  .refine⟨⟨o,I.kIn p o hk,hc⟩,λa e=>?_⟩;cases e;exact⟨o,I.kIn _ o hk,hd⟩
  .have z:∃o,s.heap.get? p=some o/\o.ExactDict:=by
    obtain⟨ar,hk⟩:=hk;obtain⟨_,_,_,_,o,_,_,e,ex,_⟩:=I.hok p _ hk;exact⟨o,e,ex⟩
   obtain⟨o,e,ex⟩:=z;refine⟨⟨o,e,ex.1⟩,λa e2=>?_⟩;cases e2;exact⟨o,e,ex.2.1⟩
  .obtain⟨o,_,_,_,e,ex,_⟩:=I.hok p _ hk;refine⟨⟨o,e,ex.1⟩,λa e2=>?_⟩;cases e2;exact⟨o,e,ex.2.1⟩
 |_=>exact False.elim ty
def tBM(K:Frag)(T:String)(r:V->Ζ->Hp->VK->Prop)(to:TE)(t:TA):TE:=λσ H Q=>to σ H λx H1=>tyV K T x H1/\t σ H1 λxs H2=>r x xs H2 Q
variable{o e:Expr}{es:List Expr}{to:TE}{t:TA}{name:Str}{am af:Pos}{T id:String}{r:V->Ζ->Hp->VK->Prop}
theorem aas(pa:PlainAttrs T)(slot:Slot T name id)(ir:typeOf (.builtin id)=pure (.type "method_descriptor"))(hm:MtR X id r)(ho:PE X o to)(ha:PA X (e::es) t)
 (i7:attributeBase o name X.env (eval o X.env)=eval o X.env:=by rfl)
 (k9:((backTo af (starEach (e::es) X.env)).all (λx=>!x.1)&&(backToKw af (keywordEach [] X.env)).all (λx=>x.1.isSome)
   && decide ((e::es).length+([] : List Keyword).length+(if([] : List Keyword).isEmpty then 0 else 1)<30))=true:=by rfl)
 (iS:(am.endLine==af.line)=true:=by rfl)(hs:starEach (e::es) X.env=(false,eval e X.env)::starEach es X.env:=by rfl)(gE:(backTo af (starEach es X.env)).any (·.1)=false:=by rfl) :
  PE X (.Call (.Attribute o name am) (e::es) [] af) (tBM X.K T r to t):=by
 intro aa s σ H Q I h;refine wpAny_Call_method_late i7 k9 iS rfl (thn (ho aa s σ H _ I h) λv s1 hP=>?_);obtain⟨x,H1,I1,r1,ty,q1⟩:=hP;obtain⟨h1,h2⟩:=ae5 I1 r1 ty;refine⟨T,id,pa,slot,ir,h1,h2,?_⟩;have hA:=ha af aa s1 σ H1 _ I1 q1;rw[hs]at hA ⊢;refine Calls.callWith_builtin (by show(false || (backTo af (starEach es X.env)).any (·.1))=false;rw[gE]<;>rfl) (Calls.evalArgs_plain ?_);exact thn hA λus s2 hP=>by obtain⟨vs,H2,I2,r2,q2⟩:=hP;exact hm aa s2 σ H2 x vs v us Q I2 r1 r2 q2

end
def MtM(X:Cx)(id:String)(r:V->Ζ->Hp->VK->Prop):Prop :=
 ∀(aa:Δ)(s:Shared)(σ:St)(H:Hp)(x:V)(xs:Ζ)(v:Value)(us:Θ)(Q:VK),Inv X aa σ H s->RelV x v->Vals xs us->r x xs H Q ->
  wpAny (model X.prog X.w) X.A (call (.builtin id) (v::us)) (EP X aa σ Q) X.xe s
theorem Vals.one:∀{x:V}{us:Θ},Vals [x] us->∃u,us=[u]/\RelV x u
 |_,_,.cons r .nil=>⟨_,rfl,r⟩
theorem Vals.two{x y:V}{us:Θ}(h:Vals [x,y] us):∃u v,us=[u,v]/\RelV x u/\RelV y v:=by
 cases h with|cons r t=>cases t with|cons q t=>cases t;exact⟨_,_,rfl,r,q⟩
theorem Vals.rep{xs:Ζ}{us:Θ}(h:Vals xs us):∀k:Nat,Vals (List.replicate k xs).flatten (List.replicate k us).flatten
 |0=>.nil
 |k+1=>by
  rw[List.replicate_succ,List.replicate_succ,List.flatten_cons,List.flatten_cons];exact Vals.append h (Vals.rep h k)
theorem foldl_rep(its:Θ):∀(k:Nat)(acc:Θ),
  List.foldl (λx1 x2=>x1++x2) acc.toArray (List.replicate k its.toArray)=(acc++(List.replicate k its).flatten).toArray
 |0,acc=>by simp
 |k+1,acc=>by
  have e:acc.toArray++its.toArray=(acc++its).toArray:=by simp
  have e2:(acc++its)++(List.replicate k its).flatten=acc++(List.replicate (k+1) its).flatten:=by
   rw[List.replicate_succ,List.flatten_cons,WZ]
  rw[<- e2,<- foldl_rep its k (acc++its),<- e,List.replicate_succ,List.foldl_cons]
section
variable{X:Cx}{aa:Δ}{σ:St}{H:Hp}{s:Shared}{l b:Addr}{xs ys zs:Ζ}
theorem Inv.lset{its its':Θ}{n:Nat}{f:Array Value->Array Value}{t':Nat}(I:Inv X aa σ H s)(hH:H l=some (.lst xs))
 (e:s.heap.get? l=some { cls:=.type "list",data:=.seq its.toArray n })(hf:f its.toArray=its'.toArray)(hv:Vals ys its')(hz:ys.length<=sizeLine) :
  Inv X aa σ (upd H l (.lst ys)) { s with heap:=s.heap.update l (Obj.mapSeq f),toks:=t' }:=by
 have q:=PySem.IsL.update e f;rw[hf]at q;refine I.write (x:=l) (e:=l) (by rw[hH];exact trivial) (.inl rfl) (λb' u hb hu=>(Heap.get?_update_other s.heap (Obj.mapSeq f) (Ne.symm hb)).trans hu) ⟨_,q⟩ ?_;exact⟨hz,its',_,hv,q⟩
theorem Inv.lnew{its:Θ}{t':Nat}(I:Inv X aa σ H s)(hv:Vals ys its)(hz:ys.length<=sizeLine) :
  Inv X aa σ (upd H s.heap.objs.size (.lst ys)) { s with heap:=s.heap.push { cls:=.type "list",data:=.seq its.toArray },toks:=t' } :=
 I.laid (λ_ _ q=>aH _ q) (aG _) ⟨hz,its,0,hv,aW _ rfl⟩
theorem Inv.fresh(I:Inv X aa σ H s):H s.heap.objs.size=none:=I.hok.fresh (aG _)
theorem Inv.lstM(I:Inv X aa σ H s)(hH:H l=some (.lst xs)):xs.length<=sizeLine/\∃(its:Θ)(n:Nat),Vals xs its/\xs.length=its.length/\s.heap.get? l=some { cls:=.type "list",data:=.seq its.toArray n }:=by
 obtain⟨z,its,n,r,e⟩:=I.hok l _ hH;exact⟨z,its,n,r,r.length,e⟩
theorem Zg{n:Nat}(h:n<=sizeLine):Builtin.List.listTooLong n=false:=by
 unfold Builtin.List.listTooLong;exact Zp (Ts h)
end
section
variable{X:Cx}
def abb:V->Ζ->Hp->VK->Prop:=λx vs H Q=>∃l xs y,x=.ref l/\vs=[y]/\H l=some (.lst xs)/\xs.length<sizeLine/\Q .non (upd H l (.lst (xs++[y])))
theorem KJ:MtM X "list.append" abb:=by
 intro aa s σ H x vs v us Q I rx rv h;obtain⟨l,xs,y,rfl,rfl,hH,hz,q⟩:=h;cases rx;obtain⟨u,rfl,ru⟩:=rv.one;obtain⟨z,its,n,r,hl,e⟩:=I.lstM hH;refine call_meets F.slot_list_append ⟨_,e,rfl⟩ F.entry_list_append (F.args_list_append_2 _ _) (PySem.list_append l its.toArray n u (by rw[aX];lia)) ⟨e,?_⟩;refine⟨.non,_,I.lset (its':=its++[u]) hH e (by simp) (r.append (.cons ru .nil)) ?_,rfl,q⟩;rw[aA,List.length_singleton];exact hz
def anF:R2:=λx y H Q=>∃l b xs zs,x=.ref l/\y=.ref b/\H l=some (.lst xs)/\H b=some (.lst zs)/\xs.length+zs.length<=sizeLine/\∀p,H p=none->Q (.ref p) (upd H p (.lst (xs++zs)))
theorem afE:OpR X (binaryOp .Add) anF:=by
 intro aa s σ H x y v u Q I rx ry h;obtain⟨l,b,xs,zs,rfl,rfl,hH,hB,hz,q⟩:=h;cases rx;cases ry;obtain⟨z,its,n,r,hl,e⟩:=I.lstM hH;obtain⟨z2,io,n2,r2,hl2,e2⟩:=I.lstM hB;refine PySem.P.add_list e e2 ?_ (by rw[aX,aX];lia);have ea:its.toArray++io.toArray=(its++io).toArray:=by simp
 rw[ea];exact⟨.ref _,_,I.lnew (t':=s.toks) (r.append r2) (by rw[aA];omega),rfl,q _ I.fresh⟩
def anD:R2:=λx y H Q=>∃l k xs,x=.ref l/\y=.int k/\H l=some (.lst xs)/\-(2^63)<=k/\k<2^63/\xs.length*k.toNat<=sizeLine /\
 ∀p,H p=none->Q (.ref p) (upd H p (.lst (List.replicate k.toNat xs).flatten))
theorem len_rep{α:Type}(xs:List α)(k:Nat):(List.replicate k xs).flatten.length=k*xs.length:=by
 induction k with
 |zero=>simp
 |succ k ih=>rw[List.replicate_succ,List.flatten_cons,aA,ih,Nat.succ_mul,Nat.add_comm]
theorem afx:OpR X (binaryOp .Mult) anD:=by
 intro aa s σ H x y v u Q I rx ry h;obtain⟨l,k,xs,rfl,rfl,hH,h1,h2,hz,q⟩:=h;cases rx;obtain⟨t,rfl⟩:=ry;obtain⟨z,its,n,r,hl,e⟩:=I.lstM hH;have aS:its.toArray.size*k.toNat<=sizeLine:=by rw[aX,<- hl];exact hz
 have l4:¬its.toArray.size*k.toNat>(2^63-1)/8:=by
  have:(sizeLine:Nat)<=(2^63-1)/8:=by decide
  lia
 have k8:¬(!Builtin.List.listFitsIndex k)=true:=by
  rw[fitsIndex_both h1 h2];exact bw
 have iP:¬Builtin.List.listTooLong (its.toArray.size*k.toNat)=true:=by
  rw[Zg aS];exact bw
 have kU:List.foldl (λx1 x2=>x1++x2) #[] (List.replicate (if its.toArray.isEmpty=true then 0 else k.toNat) its.toArray)=(List.replicate k.toNat its).flatten.toArray:=by
  have f0:∀m:Nat,List.foldl (λx1 x2=>x1++x2) #[] (List.replicate m its.toArray)=(List.replicate m its).flatten.toArray:=λm=>by
   have:=foldl_rep its m [];rw[List.nil_append]at this;exact this
  rw[f0];cases its with
  |nil=>simp
  |cons a r'=>rw[ZZ (by simp)]
 refine wpAny_binaryOp_repeat_ref (T:="list") (U:="int") (by decide) ⟨_,e,rfl⟩ (λs'=>typeIs_int s' k t) noFill_list_mul F.fills_int_mul F.slot_int_rmul repeat_list F.slot_int_index.lookup
  (call_meets F.slot_int_rmul (typeIs_int s k t) F.entry_int_rmul (F.args_int_rmul_2 _ _) (int___rmul___int_list k t l its.toArray n)
   ⟨e,rfl,⟨_,e,rfl⟩,call_meets F.slot_list_mul ⟨_,e,rfl⟩ F.entry_list_mul (F.args_list_mul_2 _ _) (AutoListH.list___mul___list_int_3 l its.toArray n k t k8 l4 iP) ⟨e,?_⟩⟩)
 rw[kU];exact⟨.ref _,_,I.lnew (t':=s.toks) (r.rep k.toNat) (by rw[len_rep,TU];exact hz),rfl,q _ I.fresh⟩
end
end L2
namespace Att
open PySem PySem.W PySem.Calls PyProof.Rows
theorem Fz{P:Params}{h:Heap} : ∀(ns:List Int)(vs:Θ),WellAll P h vs (ns.map WData.int)->IntsAre vs ns:=by
 intro ns
 induction ns with
 |nil =>
  intro vs w;rw[List.map_nil]at w;cases w;exact .nil
 |cons n ns ih =>
  intro vs w;rw[List.map_cons]at w;cases w with
  |cons a b =>
   cases a;exact .cons _ _ (ih _ b)
theorem WR{l:OpenLaw}{n:Nat}(hn:l.most=some n){P:Params}{h:Heap}{args:List WData}{gm:Θ}
 (eI:l.row.toRowW.claim.pre args=true)(kL:WellAll P h gm args) :
  ∃a vs ns,gm=[Value.ref a]/\args=[WData.list (ns.map WData.int)]/\h.get? a=some { cls:=.type "list",data:=.seq vs.toArray }/\IntsAre vs ns/\ns.length<=n:=by
 have f8:WShape.hasAll [] args [.list .int]=true:=(pre_splitW eI).1;have hc:l.pre.holds [] { args:=args }=true:=(pre_splitW eI).2;obtain⟨d,r,rfl,h1,h2⟩:=hasAllW_cons f8;obtain rfl:=hasAllW_nil h2;obtain⟨xs,rfl,h3⟩:=hasW_list h1;obtain⟨ns,rfl⟩:=items_int h3;have aS:ns.length<=n:=by
  unfold OpenLaw.pre at hc;have h4:(WTm.not (.lt (.lit (.int (n:Int))) (.len (.arg 0)))).holds [] { args:=[.list (ns.map .int)] }=true:=by
   have h4:=(holds_andW hc).1;rw[hn]at h4;exact h4
  have h5:=condW_of h4 (w_not (w_lt w_lit (w_len_list (w_arg rfl))));rw[ak]at h5;refine VU λq=>?_;have q':(n:Int)<((ns.length:Nat):Int):=by omega
  first
   |(rw[Zs q']at h5;exact absurd h5 (by decide))
   |(simp at h5;omega)
 cases kL with
 |cons w1 w2 =>
  cases w2;cases w1 with
  |list ho gX=>exact⟨_,_,ns,rfl,rfl,ho,Fz ns _ gX,aS⟩
theorem Xk(l:OpenLaw)(args:List WData):l.row.toRowW.claim.post args (.bool true) args=true :=
 postW_of (r:=l.row.toRowW) (X:=(true==true))
  (show WShape.has [] (.bool true) .bool=true by first|rfl|decide|simp[WShape.has,WShape.arms,WShape.armsAll])
  (show(WTm.eq .res (.lit (.bool true))).value [] { args:=args,res:=some (.bool true),after:=args }=some (.bool (true==true))from w_eq_bool (w_res rfl) w_lit) rfl
theorem Qe{l:OpenLaw}{n:Nat}{q:Program}{loose:Φ}{XP:(Str->Ω)->Heap->Prop}{YP:World->Heap->Prop}{d:DefRec}
 (hn:l.most=some n)(i5:d.params.defaults=[])
 (call:∀(w:World)(s₀ s₁:Shared)(mg mb:Str->Ω)(fa:Addr)(o:Obj)(pm cd bE:Value)(a:Addr)(vs:Θ)(ns:List Int),
   Ground q loose [] XP w s₀ mg mb s₁.heap->YP w s₁.heap ->
   s₁.heap.get? fa=some o->o.data=.func (docDef d.name d.params d.body d.scope pm cd bE)->s₁.heap.CodeRec cd d.name->mg d.name=some (.ref fa) ->
   s₁.heap.get? a=some { cls:=.type "list",data:=.seq vs.toArray }->IntsAre vs ns->ns.length<=n->s₁.gens = #[] ->
   codeAny (model l.prog w) callerA (.call (.ref fa) ⟨[.ref a],[]⟩) (λr s'=>r=.ok (.ret (.bool true))/\OldK s₁.heap s'.heap/\s'.os=s₁.os/\AllBare s'.gens) s₁) :
  WalkO q loose XP YP l.row.toRowW d [] (λf vs=>PySem.call f vs):=by
 intro w s₀ s₁ mg mb G Y fa o pm cd bE dV kV ho hd bg hD gf hg args gm as eI hlay hrd kL hlo;obtain rfl:dV=.none:=Dflts.none hD i5;obtain rfl:kV=.none:=Dflts.noKw hD;obtain⟨a,vs,ns,rfl,rfl,gL,fe,aS⟩:=WR hn eI kL;refine enter_call (codeAny_mono (call w s₀ s₁ mg mb fa o pm cd bE a vs ns G Y ho (fd_plain hd) bg gf gL fe aS hg) λr s' hq=>?_);obtain⟨rfl,h2,h3,h4⟩:=hq;exact⟨.inl ⟨.bool true,.bool true,[],rfl,λ_=>rfl,.bool true,Xk l _,λ_=>⟨List.Pairwise.nil,λ_ hm=>(nomatch hm)⟩⟩,h2,h3,h4⟩
end Att
namespace L2
open PySem PySem.Spec PyProof.Rows
theorem Dq:∀{vs:Θ}{ns:List Int},IntsAre vs ns->Vals (ns.map V.int) vs
 |_,_,.nil=>.nil
 |_,_,.cons n t h=>.cons ⟨t,rfl⟩ (Dq h)
def Only(H:Hp):Prop:=∀b,H b=none\/∃o xs,H b=some (.frz o (.lst xs))
theorem Yb{P:Program}{w:World}{K:Frag}{mg mb:Str->Ω}{CX:CXT}{k:Nat}{fa a:Addr}{fd:FuncData}{x:Str}{sp:Sp}{s₁:Shared}{vs:Θ}{ns:List Int}
 (KX:K.In s₁.heap)(eh:s₁.heap.Ns mainGlobals mg)(hb:s₁.heap.Ns builtinsNs mb)(hbb:∀x:Str,x≠"__name__"->mb x=bootBuiltins x)(kX:s₁.heap.NoLimit)(hg:s₁.gens = #[])
 (ha:s₁.heap.get? a=some { cls:=.type "list",data:=.seq vs.toArray })(hi:IntsAre vs ns)(hl:ns.length<=sizeLine)(hr:fD k callerA)
 (F:∀base:Heap,K.In base->base.Ns mainGlobals mg->cj P w K mg base CX k fa fd [x] sp)(i6:∀(s:Shared)(u:Value),BindsTo s fd ⟨[u],[]⟩ [(x,u)])
 (f7:∀H:Hp,Only H->SqL K H a (ns.map V.int)->sp [.ref a] H (λv _=>v=.bl true) λ_ _ _=>False)
 (mf:∀H e s',CX [] H s₁ (λ_ _ _=>False) e s'->False) :
  codeAny (model P w) callerA (.call (.ref fa) ⟨[.ref a],[]⟩) (λr s'=>r=.ok (.ret (.bool true))/\OldK s₁.heap s'.heap/\s'.os=s₁.os/\AllBare s'.gens) s₁:=by
 have rv:=Dq hi;have kH:=hi.length

 have core:∀H:Hp,Only H->SqL K H a (ns.map V.int)->HOk P w H s₁.heap->(∀b,H b≠none->b=a)->(H a≠none->K.lookup a=none) ->
   codeAny (model P w) callerA (.call (.ref fa) ⟨[.ref a],[]⟩) (λr s'=>r=.ok (.ret (.bool true))/\OldK s₁.heap s'.heap/\s'.os=s₁.os/\AllBare s'.gens) s₁:=by
  intro H hO hS hok hA hK;have eC:∀{b:Addr}{o:Obj},s₁.heap.get? b=some o->H b=none->(Lx s₁.heap H).get? b=some o:=λe n=>aaU e n;have ie:∀{b:Addr}{o:Obj}{es:Array DictEntry}{ep:Nat},s₁.heap.get? b=some o->o.data=.dict es ep->H b=none:=λ{b o es ep}e d=>by
   cases q:H b with
   |none=>rfl
   |some u =>
    have e':b=a:=hA b (by rw[q];simp);subst e';rw[ha]at e;cases e;have d':Data.seq vs.toArray _=Data.dict es ep:=d;cases d'
  have js:∀{b:Addr}{m:Str->Ω},s₁.heap.Ns b m->(Lx s₁.heap H).Ns b m:=λ{b m}⟨o,es,ep,e,d,r⟩=>⟨o,es,ep,eC e (ie e d),d,r⟩;have hKb:K.In (Lx s₁.heap H):=λb o e=>eC (KX b o e) (by
   cases q:H b with
   |none=>rfl
   |some u =>
    have e':b=a:=hA b (by rw[q];simp);subst e';rw[hK (by rw[q];simp)]at e;cases e)
  have hM:Mod K mg (Lx s₁.heap H):=⟨hKb,js eh,⟨mb,js hb,hbb⟩,let⟨mc,h1,h2⟩:=kX;⟨mc,js h1,h2⟩⟩;have e0:Qg P w K mg (Lx s₁.heap H) callerA [] s₁ H:=⟨rfl,hM,λb o e=>abJ e,WG (Xo _ _),trivial,λb hb=>absurd (show b∈([] : Ψ)from hb) (by simp),hok,.of_eq hg⟩;refine codeAny_mono ((F _ hKb (js eh)).run callerA [] s₁ H ⟨[.ref a],[]⟩ [.ref a] [.ref a] _ _ hr e0 (i6 s₁ (.ref a)) (.cons rfl .nil) (f7 H hO hS)) λr s' h=>?_;cases r with
  |error e=>exact(mf H e s' h).elim
  |ok fl =>
   cases fl with
   |next=>exact False.elim h
   |brk=>exact False.elim h
   |cont=>exact False.elim h
   |ret u =>
    obtain⟨v,H',os,bare,un,hok',r',q⟩:=h;have q':v=.bl true:=q;subst q';obtain rfl:u=Value.bool true:=r';refine⟨rfl,OldK.of_keep λb o e=>?_,os,bare⟩;cases q:H b with
    |none=>exact un.keep b o e q (by intro z;exact absurd (show b∈([] : Ψ)from z) (by simp)) (by simp)
    |some u =>
     rcases hO b with z|⟨ob,xs,z⟩
     .rw[q]at z;cases z
     .have z2:=un.frzs b ob _ z;obtain⟨e1,_⟩:=hok b _ z;obtain⟨e2,_⟩:=hok' b _ z2;rw[e]at e1;cases e1;exact e2
 cases hk:K.lookup a with
 |some o =>

  have e:=KX a o hk;rw[ha]at e;cases e;refine core (λ_=>none) (λ_=>.inl rfl) (.inr ⟨_,vs.toArray,_,hk,rfl,rfl,rfl,by rw[aX,kH];exact hl,by simpa using rv⟩) (λb u z=>by have z':(none:Option HO)=some u:=z;cases z') (λb z=>absurd rfl z) λz=>absurd rfl z
 |none =>
  refine core (λb=>if b=a then some (.frz { cls:=.type "list",data:=.seq vs.toArray } (.lst (ns.map V.int)))else none) (λb=>?_) (.inl (.inr ⟨{ cls:=.type "list",data:=.seq vs.toArray },ZY rfl⟩)) (λb u z=>?_) (λb z=>?_) λ_=>hk
  .by_cases hb:b=a
   .exact .inr ⟨_,_,ZY hb⟩
   .exact .inl (ZZ hb)
  .by_cases hb:b=a
   .have z':=(ZY hb).symm.trans z;cases z';subst hb;exact⟨ha,by rw[ak];exact hl,vs,_,rv,ha⟩
   .have z':=(ZZ hb).symm.trans z;cases z'
  .by_cases hb:b=a
   .exact hb
   .exact absurd (ZZ hb) z
noncomputable abbrev KOf{K:Frag}{h:Heap}(_:K.In h):Frag:=K
theorem Wc{l:PySem.W.OpenLaw}{n k:Nat}{q:Program}{loose:Φ}{XP:(Str->Ω)->Heap->Prop}{YP:World->Heap->Prop}{d:DefRec}{K:Params->Frag}{CX:World->CXT}{sp:World->Sp}{x:Str}
 (hn:l.most=some n)(hU:n<=sizeLine)(i5:d.params.defaults=[])(hr:fD k callerA)
 (hY:∀(w:World)(h:Heap),YP w h->(K w.params).In h)
 (F:∀(w:World)(mg:Str->Ω)(fa:Addr)(h:Heap),(K w.params).In h->h.Ns mainGlobals mg->mg d.name=some (.ref fa) ->
   ∃fd:FuncData,(∀(s:Shared)(u:Value),BindsTo s fd ⟨[u],[]⟩ [(x,u)]) /\
    ∀base:Heap,(K w.params).In base->base.Ns mainGlobals mg->cj l.prog w (K w.params) mg base (CX w) k fa fd [x] (sp w))
 (f7:∀(w:World)(H:Hp)(a:Addr)(ns:List Int),ns.length<=n->Only H->SqL (K w.params) H a (ns.map V.int)->sp w [.ref a] H (λv _=>v=.bl true) λ_ _ _=>False)
 (mf:∀(w:World)(H:Hp)(s:Shared)(e:Value)(s':Shared),CX w [] H s (λ_ _ _=>False) e s'->False) :
  PySem.W.WalkO q loose XP YP l.row.toRowW d [] (λf vs=>PySem.call f vs):=by
 refine Att.Qe hn i5 λw s₀ s₁ mg mb fa o pm cd bE a vs ns G Y ho hd bg gf gL fe aS hg=>?_;have KX:=hY w _ Y;obtain⟨fd,hb,hF⟩:=F w mg fa _ KX G.T.g gf;exact Yb KX G.T.g G.T.b G.T.builtins G.T.nolimit hg gL fe (aL aS hU) hr hF hb (λH hO hS=>f7 w H a ns aS hO hS) λH e s'=>mf w H s₁ e s'
end L2

namespace L2
open PySem PySem.Spec PyProof.Rows
abbrev CX0:CXT:=λ_ _ _ _ _ _=>False
abbrev E0:XK:=λ_ _ _=>False
theorem PL{X:Cx} : Passes CX0 X E0:=λ_ _ _ _ _ _ _ h=>h.elim
structure Fun(K:Frag)(x ai:Str)(st:Stmt)(f:Addr)(fd:FuncData):Prop where
 ex:∃(oc:Value)(od:Ξ)(kV bE pm:Value)(an:Ξ)(ag ct:Value)(dQ:Array (Ω)),
  fd=PySem.W.fnOf x ai (iU st) (fL st) (bH st) .none kV bE pm an ag ct/\K.lookup f=some ⟨oc,od,.func fd,dQ⟩/\codeIn K ag ai=true
 kp:keepIn K (.ref f)=true
section
variable{P:Program}{w:World}{K:Frag}{mg:Str->Ω}{base:Heap}
theorem Fun.ok{x ai:Str}{st:Stmt}{f:Addr}{fd:FuncData}{N ps:Φ}{k:Nat}{sp:Sp}(F:Fun K x ai st f fd)(S:bL N ps (bH st))(len:∀vs H Q E,sp vs H Q E->vs.length=ps.length)
 (cf:∀(ag:Value)(A:Around)(outer:List Env)(s:Shared)(H:Hp)(vs:Ζ)(Q:VK)(E:XK),fD k (A.deeper (envOfC ai (bH st) s.heap.objs.size f ag))->sp vs H Q E ->
   ∃t,PSs (Ob CX0 P w K mg base N ai (bH st) f ag A outer s H E).nox (fL st) t/\t { nx:=λ_ H'=>Q .non H',rt:=Q } (start N vs) H):cj P w K mg base CX0 (k+1) f fd ps sp:=by
 obtain⟨oc,od,kV,bE,pm,an,ag,ct,dQ,rfl,lk,bg⟩:=F.ex;refine ajA lk bg S len λA outer s H vs Q E hr f7=>?_;obtain⟨t,h,q⟩:=cf ag A outer s H vs Q E hr f7;exact⟨t,h.nox,q⟩
theorem Yk{x ai:Str}{st:Stmt}{f:Addr}{oc:Value}{od an:Ξ}{dQ:Array (Ω)}{kV bE pm ag ct:Value}(l:K.lookup f=some ⟨oc,od,.func (PySem.W.fnOf x ai (iU st) (fL st) (bH st) .none kV bE pm an ag ct),dQ⟩)
 (c:codeIn K ag ai=true)(k:keepIn K (.ref f)=true):Fun K x ai st f (PySem.W.fnOf x ai (iU st) (fL st) (bH st) .none kV bE pm an ag ct):=⟨⟨oc,od,kV,bE,pm,an,ag,ct,dQ,rfl,l,c⟩,k⟩
end
theorem yM{A:Around}{k:Nat}(hr:fD k A):A.units+1<cLine:=Y3 (Nat.add_le_add_left (by decide:1<=64) _) hr.units
section
variable{X:Cx}
noncomputable def q_(sc:Scope)(x:Str):Bool:=(sc.names.lookup x).any λk=>k == .local || k == .cell || k == .free
theorem afJ{sc:Scope}{x:Str}(h:q_ sc x=true):Vis sc x:=by
 unfold q_ at h;unfold Vis;cases e:sc.names.lookup x with
 |none=>rw[e]at h;cases h
 |some k=>rw[e]at h;cases k<;>first|exact .inl rfl|exact .inr (.inl rfl)|exact .inr (.inr rfl)|cases h
theorem pv(i:Nat){x:Str}{pos:Pos}(hN:X.N[i]?=some x:=by rfl)(hv:q_ X.env.scope x=true:=by rfl)(hd:(x==("__debug__":Str))=false:=by decide)
 (bg:(x==("__classdict__":Str))=false:=by decide):PE X (.Name x pos) (ag3 i):=afM hN (afJ hv) hd bg
end
theorem amn{A B:Prop}(h:B):if false=true then A else B:=by
 rw[ZZ bw];exact h
theorem aml{A B:Prop}(h:A):if true=true then A else B:=by
 rw[ZY rfl];exact h
def Same(H H':Hp):Prop:=∀b o,H b=some o->H' b=some o
theorem Same.refl(H:Hp):Same H H:=λ_ _ h=>h
theorem Same.trans{H H1 H2:Hp}(a:Same H H1)(b:Same H1 H2):Same H H2:=λc o h=>b c o (a c o h)
theorem Same.free{H H':Hp}(e:Same H H'){l:Addr}(h:H' l=Option.none):H l=Option.none:=by
 cases q:H l with
 |none=>rfl
 |some o =>
  rw[e l o q]at h;cases h
theorem Same.seq{K:Frag}{H H':Hp}{a:Addr}{xs:Ζ}(e:Same H H')(h:SqL K H a xs):SqL K H' a xs:=by
 rcases h with(h|⟨o,h⟩)|h
 .exact .inl (.inl (e _ _ h))
 .exact .inl (.inr ⟨o,e _ _ h⟩)
 .exact .inr h
def Bd(i:Int):Prop:=i.natAbs<2^8000
theorem Bd.log2{i:Int}(h:Bd i):i.natAbs.log2<8000:=by
 by_cases h0:i.natAbs=0
 .rw[h0,Nat.log2_zero];exact T1 _
 .exact(Nat.log2_lt h0).mpr h
theorem Bd.bits{i:Int}(h:Bd i):Builtin.Int.intBits i<=2^20:=by
 have e:(2:Nat)^20=1048576:=by decide
 have:=h.log2;unfold Builtin.Int.intBits;split
 .exact aZ _
 .lia
section
variable{X:Cx}
theorem acN:OpR X (binaryOp .Mult) (rI (λi j=>Bd i/\Bd j) λi j=>.int (i*j)):=opI λ_ _ _ _ _ _ _ hc q=>mul_int q (.of_bits hc.1.bits hc.2.bits)
theorem aa6:OpR X (binaryOp .FloorDiv) (rI (λ_ j=>j≠0/\Bd j) λi j=>.int (i.fdiv j)):=opI λ_ _ _ _ _ _ _ hc q=>floordiv_int hc.1 q (.inl (PyProof.noPylong_of_log2 (by have:=hc.2.log2;exact Tk this (by decide))))
theorem QD:jk X (.builtin "isinstance") (λxs H Q=>∃x c cv t b,xs=[x,c]/\((∃T,c=.ty T/\cv=Value.type T)\/∃C,c=.ref C/\cv=Value.ref C)/\Dk X.K H x t/\kitOne X.K t cv=some b/\Q (.bl b) H):=by
 intro aa s σ H xs us Q I r h;obtain⟨x,c,cv,t,b,rfl,rc,ty,e,q⟩:=h;obtain⟨u,v,rfl,ru,rv⟩:=r.two;have e2:v=cv:=by
  rcases rc with⟨T,rfl,rfl⟩|⟨T,rfl,rfl⟩
  .exact rv
  .exact rv
 subst e2;exact XF I ru ty e λtk=>⟨.bl b,H,I.tok _,rfl,q⟩
theorem R9:jk X (.builtin "sorted") (λxs H Q=>∃l ns,xs=[.ref l]/\SqL X.K H l (ns.map V.int)/\ns.length<64/\∀(ms:List Int)p,H p=none->ms.Perm ns->ms.Pairwise (· <= ·)->Q (.ref p) (upd H p (.lst (ms.map V.int)))):=by
 intro aa s σ H xs us Q I r h;obtain⟨l,ns,rfl,hl,h64,q⟩:=h;obtain⟨u,rfl,ru⟩:=r.one;cases ru;obtain⟨its,rv,p,hz⟩:=I.list hl;have hI:=intsAre_of rv;have aS:its.length=ns.length:=by have:=rv.length;simpa using this.symm
 refine sorted_ints (vs:=its) p.isList hI (Y3 (WG aS) h64) λout ns' a1 a2 a3=>?_;obtain⟨e,he⟩:=sortedAll_at s.heap its out;have ka:H (s.heap.objs.size+1)=none:=I.hok.fresh (Xs _);refine⟨.ref _,_,I.laid (a:=s.heap.objs.size+1) (o:=.lst (ns'.map V.int)) (t':=s.toks) (λb u e=>sortedAll_old e) (Xs _) ?_,rfl,q ns' _ ka a2 a3⟩;refine⟨?_,out.toList,e,Dq a1,he⟩;rw[ak,a2.length_eq];rw[ak]at hz;exact hz
end
section
variable{prog:Program}{w:World}{A:Around}{E:Ε}{s:Shared}
theorem Kp{it t:Addr}{items:Array Value}(gN:t≠it):∀(n i:Nat)(s:Shared)(Q:Θ->Shared->Prop),s.heap.IsListIter it t i->PlainL s.heap t items->i+n<=items.size ->
  (∀h',h'.IsListIter it t (i+n)->Heap.SameBut it s.heap h'->Q ((items.toList.drop i).take n) { s with heap:=h' })->wpAny (model prog w) A (draw (.ref it) n) Q E s
 |0,i,s,Q,hit,_,_,hQ=>by
  show wpAny _ _ (pure []) Q E s;exact ZT (by simpa using hQ s.heap hit (Heap.SameBut.refl ..))
 |n+1,i,s,Q,hit,ht,hle,hQ=>by
  have fx:i<items.size:=by lia
  show wpAny _ _ (pyNext (.ref it) >>= _) Q E s;refine ZU (wpAny_pyNext_list_item hit ht.isList (x:=items[i]) (by simp[fx]) λh₁ gT iA=>?_);have kP:PlainL h₁ t items:=by
   obtain⟨o,k,e,r⟩:=ht;exact⟨o,k,(iA.2 t gN).trans e,r⟩
  refine ZU (wpAny_holding (Kp gN n (i+1) _ _ gT kP (by lia) λh₂ k5 hs₂=>ZT ?_));have hd:items.toList.drop i=items[i]::items.toList.drop (i+1):=by simp[Zzv,fx]
  have:=hQ h₂ (by rw[show i+(n+1)=i+1+n by lia];exact k5) (iA.trans hs₂);rw[hd,List.take_succ_cons]at this;exact this
theorem Dy{t:Addr}{items:Array Value}{Q:Θ->Shared->Prop}(hh:A.handled=none)(ht:PlainL s.heap t items)
 (hQ:∀h',Heap.ExtBut s.heap.objs.size s.heap h'->Q items.toList { s with heap:=h' }):wpAny (model prog w) A (unpackItems (.ref t) items.size none) Q E s:=by
 have fx:t≠s.heap.objs.size:=by obtain⟨o,_,ho,_⟩:=ht;exact aQ (aK ho)
 unfold unpackItems;refine ZU ?_
 .unfold notIterableAtAll;refine ZU (wpAny_specialOf ht.isList.typeIs slot_list_iter.lookup ?_);refine ZT ?_;simp only[XW,if_false];refine ZU (wpAny_holding (wpAny_pyIter_list ht.isList ?_));have ht0:PlainL (s.heap.push { cls:=.type "list_iterator",data:=.fields #[.ref t,.int 0 0] }) t items:=by
   obtain⟨o,k,e,r⟩:=ht;exact⟨o,k,aH _ e,r⟩
  refine ZU (wpAny_holding (Kp fx items.size 0 _ _ ⟨_,aW _ rfl,rfl,rfl⟩ ht0 (by lia) λh₁ gT iA=>?_));have gX:List.take items.size (List.drop 0 items.toList)=items.toList:=by
   rw[List.drop_zero];exact Zzu (by simp)
  rw[gX];rw[ZZ (by simp)];have kP:PlainL h₁ t items:=by
   obtain⟨o,k,e,r⟩:=ht0;exact⟨o,k,(iA.2 t fx).trans e,r⟩
  refine ZU (wpAny_holding (wpAny_pyNext_list_end hh gT kP.isList (by simp) λh₂ he₂=>?_));simp only[Option.isSome_none,XW,if_false];refine ZT (hQ h₂ λb o hb e=>he₂ b o hb (iA.extBut b o hb (aH _ e)))
theorem BP{env:Env}{b5:List Expr}{x1}{pos:Pos}{t:Addr}{items:Array Value}{Q:Unit->Shared->Prop}(hh:A.handled=none)(ht:PlainL s.heap t items)
 (hn:(assignEach b5 env).length=items.size)(iE:(assignEach b5 env).findIdx? (·.1)=none)
 (h:∀h',Heap.ExtBut s.heap.objs.size s.heap h'->wpAny (model prog w) A (assignInOrder ((assignEach b5 env).map (·.2)) items.toList) Q E { s with heap:=h' }) :
  wpAny (model prog w) A (assign (.Tuple b5 x1 pos) env (.ref t)) Q E s:=by
 rw[assign_Tuple];refine ZU (wpAny_standAt ?_);unfold unpack;rw[hn,iE];exact ZU (wpAny_holding (Dy hh ht h))
end
section
variable{X:Cx}{pos:Pos}
def ake(K:Frag)(n:Nat)(t:TGs):TG:=λv σ H Q=>∃a xs,v=.ref a/\SqL K H a xs/\xs.length=n/\t xs σ H Q
theorem adA{es:List Expr}{k:Nat}{t:TGs}{n:Nat}(hc:X.calm=true)(h:PGs X es t)
 (hn:(assignEach es X.env).length=n:=by rfl)(b9:(assignEach es X.env).findIdx? (·.1)=none:=by rfl):PG X (.Tuple es k pos) (ake X.K n t):=by
 intro aa s σ H v u Q I r hw;obtain⟨a,xs,e1,hq,hl,hw⟩:=hw;subst e1;cases r;obtain⟨its,rv,ht,hz⟩:=I.list hq;refine BP (I.ok.hd hc) ht (by simp[hn,<- hl,rv.length]) b9 λh' hx=>?_;have I1:Inv X aa σ H { s with heap:=h' }:=I.kept (t':=s.toks) λb o e=>hx b o (aQ (aK e)) e;exact h aa _ σ H xs _ Q I1 (by simpa using rv) hw
end
theorem Same.upd{H:Hp}{p:Addr}{o:HO}(hp:H p=none):Same H (upd H p o):=λb u e=>by
 rw[cF (lZ e hp)];exact e
section
variable{X:Cx}
theorem IxR.imp{r r':R2}(h:IxR X r)(i:∀x y H Q,r' x y H Q->r x y H Q):IxR X r':=by
 intro b pos aa s σ H x y v u Q I rx ry q hs;exact h _ _ _ _ _ _ _ _ _ _ _ I rx ry (i _ _ _ _ q) hs
theorem jk.imp{f:Value}{r r':Ζ->Hp->VK->Prop}(h:jk X f r)(i:∀xs H Q,r' xs H Q->r xs H Q):jk X f r':=λaa s σ H xs us Q I rx q=>h aa s σ H xs us Q I rx (i _ _ _ q)
noncomputable def tyS(H:Hp):V->Option String
 |.non=>some "NoneType"
 |.bl _=>some "bool"
 |.int _=>some "int"
 |.str _=>some "str"
 |.ref a=>match H a with
  |some (.lst _)=>some "list"
  |some (.tup _)=>some "tuple"
  |some (.dK _)=>some "dict"
  |_=>none
 |_=>none
theorem afk{K:Frag}{H:Hp}{x:V}{t:String}(h:tyS H x=some t):Dk K H x (.type t):=by
 cases x with
 |non=>cases h;exact .non
 |bl=>cases h;exact .bl _
 |int=>cases h;exact .int _
 |str=>cases h;exact .str _
 |byt=>cases h
 |flt=>cases h
 |ty=>cases h
 |ref a =>
  have h:(match H a with
   |some (.lst _)=>some "list"
   |some (.tup _)=>some "tuple"
   |some (.dK _)=>some "dict"
   |_=>none)=some t:=h
  split at h
  .cases h;exact .lst (by assumption)
  .cases h;exact .tup (by assumption)
  .cases h;exact .dK (by assumption)
  .cases h
noncomputable def K3(t T:String):Bool:=(t==T) || (t=="bool" && T=="int")
theorem Wk{K:Frag}{t T:String}(ht:t∈["NoneType","bool","int","str","list","tuple","dict"])(hT:T∈["bool","int","str","list","tuple","dict"]):kitOne K (.type t) (.type T)=some (K3 t T):=by
 simp only[YU,UQ,or_false]at ht hT;rcases ht with rfl|rfl|rfl|rfl|rfl|rfl|rfl<;>rcases hT with rfl|rfl|rfl|rfl|rfl|rfl<;>with_unfolding_all rfl
theorem aed{H:Hp}{x:V}{t:String}(h:tyS H x=some t):t∈["NoneType","bool","int","str","list","tuple","dict"]:=by
 cases x with
 |non=>cases h;decide
 |bl=>cases h;decide
 |int=>cases h;decide
 |str=>cases h;decide
 |byt=>cases h
 |flt=>cases h
 |ty=>cases h
 |ref a =>
  have h:(match H a with
   |some (.lst _)=>some "list"
   |some (.tup _)=>some "tuple"
   |some (.dK _)=>some "dict"
   |_=>none)=some t:=h
  split at h<;>cases h<;>decide
def alS:Ζ->Hp->VK->Prop:=λxs H Q=>∃x T t,xs=[x,.ty T]/\T∈["bool","int","str","list","tuple","dict"]/\tyS H x=some t/\Q (.bl (K3 t T)) H
theorem wJ:jk X (.builtin "isinstance") alS:=QD.imp λxs H Q hP=>by obtain⟨x,T,t,a,b,c,d⟩:=hP;exact⟨x,.ty T,.type T,.type t,_,a,.inl ⟨T,rfl,rfl⟩,afk c,Wk (aed c) b,d⟩
theorem PG.imp{e:Expr}{t t':TG}(h:PG X e t)(i:∀v σ H Q,t' v σ H Q->t v σ H Q):PG X e t':=λaa s σ H v u Q I r q=>h aa s σ H v u Q I r (i _ _ _ _ q)
def aiY:Ζ->Hp->VK->Prop:=λxs H Q=>∃l ns,xs=[.ref l]/\H l=some (.lst (ns.map V.int))/\ns.length<64/\∀(ms:List Int)p,H p=none->ms.Perm ns->ms.Pairwise (· <= ·)->Q (.ref p) (upd H p (.lst (ms.map V.int)))
theorem W6:jk X (.builtin "sorted") aiY:=R9.imp λxs H Q hP=>by obtain⟨l,ns,a,b,c⟩:=hP;exact⟨l,ns,a,.of b,c⟩
end
def OkF(P:Program)(w:World)(K:Frag)(mg:Str->Ω)(base:Heap)(k:Nat)(x:Str)(ps:Φ)(sp:Sp):Prop :=
 ∃f fd,cj P w K mg base CX0 k f fd ps sp/\Binds K fd ps []/\mg x=some (.ref f)/\keepIn K (.ref f)=true
def cL(K:Frag)(mg:Str->Ω)(x:Str)(st:Stmt)(ps:Φ):Prop :=
 ∃f fd,Fun K x x st f fd/\(∀us:Θ,us.length=ps.length->bindArgs fd ⟨us,[]⟩=pure (ps.zip us))/\mg x=some (.ref f)
theorem cL.ok{P:Program}{w:World}{K:Frag}{mg:Str->Ω}{base:Heap}{k:Nat}{x:Str}{st:Stmt}{ps:Φ}{sp:Sp}(h:cL K mg x st ps)
 (hf:∀f fd,Fun K x x st f fd->cj P w K mg base CX0 k f fd ps sp):OkF P w K mg base k x ps sp:=by
 obtain⟨f,fd,a,b,c⟩:=h;exact⟨f,fd,hf f fd a,.all b,c,a.kp⟩
theorem acn{K:Frag}{h:Heap}{mg:Str->Ω}{x:Str}{st:Stmt}{ps:Φ}{f:Addr}{oc:Value}{od an:Ξ}{dQ:Array (Ω)}{kV bE pm ag ct:Value}(X:K.In h)(G:h.Ns mainGlobals mg)
 (a:nsIn K mainGlobals x=some (some (.ref f)))(l:K.lookup f=some ⟨oc,od,.func (PySem.W.fnOf x x (iU st) (fL st) (bH st) .none kV bE pm an ag ct),dQ⟩)
 (c:codeIn K ag x=true)(k:keepIn K (.ref f)=true)
 (hb:∀(kV bE pm:Value)(an:Ξ)(ag ct:Value)(us:Θ),us.length=ps.length->bindArgs (PySem.W.fnOf x x (iU st) (fL st) (bH st) .none kV bE pm an ag ct) ⟨us,[]⟩=pure (ps.zip us)):cL K mg x st ps :=
 ⟨f,_,Yk l c k,hb kV bE pm an ag ct,mg_of X G a⟩
def VB(K:Frag):Sp:=λvs H Q _=>∃(a:Addr)(ns:List Int),vs=[.ref a]/\SqL K H a (ns.map V.int)/\ns.length<=63/\Only H/\∀H',Q (.bl true) H'
theorem ai0{l:PySem.W.OpenLaw}{k:Nat}{x:Str}{q:Program}{loose:Φ}{XP:(Str->Ω)->Heap->Prop}{YP:World->Heap->Prop}{d:DefRec}{K:Params->Frag}(hn:l.most=some 63)(i5:d.params.defaults=[])
 (hr:fD k callerA)(hY:∀(w:World)(h:Heap),YP w h->(K w.params).In h)
 (F:∀(w:World)(mg:Str->Ω)(fa:Addr)(h:Heap),(K w.params).In h->h.Ns mainGlobals mg->mg d.name=some (.ref fa) ->
   ∃st,cL (K w.params) mg d.name st [x]/\∀(base:Heap)(f:Addr)(fd:FuncData),Fun (K w.params) d.name d.name st f fd->cj l.prog w (K w.params) mg base CX0 k f fd [x] (VB (K w.params))) :
  PySem.W.WalkO q loose XP YP l.row.toRowW d [] (λf vs=>PySem.call f vs):=by
 refine L2.Wc (n:=63) (k:=k) (x:=x) (CX:=λ_=>CX0) (sp:=λw=>VB (K w.params)) hn (by decide) i5 hr hY (λw mg fa h KX G gf=>?_) (λ_ _ a ns hl hO hS=>⟨a,ns,rfl,hS,hl,hO,λ_=>rfl⟩) λ_ _ _ _ _ z=>z;obtain⟨st,⟨f,fd,hf,hb,hm⟩,ok⟩:=F w mg fa h KX G gf;rw[hm]at gf;have e:f=fa:=by injection gf with z;injection z
 subst e;exact⟨fd,λs u=>.of_eq (hb [u] rfl),λbase _ _=>ok base f fd hf⟩
section
variable{X:Cx}{p pos:Pos}{e:Expr}{es:List Expr}{t:TA}{x:Str}{k:Nat}{ps:Φ}{sp:Sp}
def Tj(sp:Sp)(t:TA):TE:=λσ H Q=>t σ H λvs H1=>sp vs H1 Q E0
theorem G3(G:OkF X.prog X.w X.K X.mg X.base k x ps sp)(hr:fD k X.A)(hg:Gl X x)(ha:PA X (e::es) t)(ce:(x==("__debug__":Str))=false:=by decide)
 (he:starEach (e::es) X.env=(false,eval e X.env)::starEach es X.env:=by rfl)(bi:(backTo pos (starEach es X.env)).any (·.1)=false:=by rfl):PE X (.Call (.Name x p) (e::es) [] pos) (Tj sp t):=by
 obtain⟨f,fd,F,b,hm,kp⟩:=G;intro aa s σ H Q I h;refine acK F hr hg hm kp b .nil PL ha ce he bi aa s σ H Q I ?_;show t σ H λvs H1=>sp (vs++[]) H1 Q E0;simp only[List.append_nil];exact h
end
theorem afa(a:Int):(if a<0 then -a else a)=((a.natAbs:Nat):Int):=by split<;>omega
theorem sV(a:Int){b:Int}(h:0<b):Int.fdiv a b=a/b:=Zyu a (XY h)
abbrev bmV:Θ:=[.type "ValueError",.type "Exception",.type "BaseException",.type "object"]
def anJ(K:Frag)(C:Addr):Prop:=excIn K C bmV "ValueError.__new__"=true
noncomputable def uT(cells:List (Str×Addr)):List (Str×NameKind)->List (Str×Addr)->List (Str×Addr)
 |[],acc=>acc
 |(n,k)::r,acc=>uT cells r (if k == .free then(n,(cells.lookup n).getD 0)::acc else acc)
theorem SM{scope:Scope}{env:Env}(h:∀y∈scope.names,y.2=.free->∃c,env.cells.lookup y.1=some c):closureFor scope env=pure (uT env.cells scope.names []):=by
 unfold closureFor;have go:∀(l:List (Str×NameKind))(acc:List (Str×Addr)),(∀y∈l,y.2=.free->∃c,env.cells.lookup y.1=some c) ->
   (forIn l acc (λ(x:Str×NameKind)(r:List (Str×Addr))=>if(x.2==NameKind.free)=true then(do let a <- cellOf env x.1;pure (ForInStep.yield ((x.1,a)::r)))else pure (ForInStep.yield r)):Sem (List (Str×Addr)))=pure (uT env.cells l acc):=by
  intro l
  induction l with
  |nil=>intro acc _;rfl
  |cons y r ih =>
   intro acc hy;obtain⟨n,k⟩:=y;rw[List.forIn_cons];by_cases hk:k=.free
   .subst hk;obtain⟨c,hc⟩:=hy (n,.free) aO rfl;have e1:cellOf env n=pure c:=by unfold cellOf;rw[show env.cells.lookup n=some c from hc]
    simp only[beq_self_eq_true,if_true,e1,pure_bind];rw[ih _ λz hz=>hy z (aJ _ hz)];show pure _=pure (uT env.cells r (if(NameKind.free==NameKind.free)=true then(n,(env.cells.lookup n).getD 0)::acc else acc));rw[show env.cells.lookup n=some c from hc]
    rfl
   .have hb:(k==NameKind.free)=false:=by simpa using hk
    simp only[hb,XW,if_false,pure_bind];rw[ih _ λz hz=>hy z (aJ _ hz)];show pure _=pure (uT env.cells r (if(k==NameKind.free)=true then(n,(env.cells.lookup n).getD 0)::acc else acc));rw[hb]
    rfl
 have e:=go scope.names [] h;show(forIn scope.names [] (λ(x:Str×NameKind)(r:List (Str×Addr))=>if(x.2==NameKind.free)=true then(do let a <- cellOf env x.1;pure (ForInStep.yield ((x.1,a)::r)))else pure (ForInStep.yield r)):Sem (List (Str×Addr))) >>= (λcs=>pure cs)=_;rw[e]
 rfl
theorem Qh{cells:List (Str×Addr)} : ∀{names:List (Str×NameKind)}{acc:List (Str×Addr)}{x:Str}{c:Addr},(∀y∈names,y.2=.free->∃c,cells.lookup y.1=some c)->(x,c)∈uT cells names acc->(x,c)∈acc\/cells.lookup x=some c
 |[],_,_,_,_,h=>.inl h
 |(n,k)::r,acc,x,c,hf,h=>by
  unfold uT at h;rcases Qh (λy hy=>hf y (aJ _ hy)) h with z|z
  .by_cases hk:k=.free
   .subst hk;simp only[beq_self_eq_true,if_true]at z;rcases YU.mp z with e|e
    .obtain⟨c',dm⟩:=hf (n,.free) aO rfl;cases e;rw[show cells.lookup n=some c' from dm];exact .inr rfl
    .exact .inl e
   .have hb:(k==NameKind.free)=false:=by simpa using hk
    simp only[hb,XW,if_false]at z;exact .inl z
  .exact .inr z
theorem Qn{cells:List (Str×Addr)} : ∀{names:List (Str×NameKind)}{acc:List (Str×Addr)}{x:Str},((x,NameKind.free)∈names\/∃c,(x,c)∈acc)->∃c,(x,c)∈uT cells names acc
 |[],_,_,h=>by
  rcases h with h|h
  .cases h
  .exact h
 |(n,k)::r,acc,x,h=>by
  unfold uT;refine Qn ?_;rcases h with h|⟨c,h⟩
  .rcases YU.mp h with e|e
   .cases e;exact .inr ⟨_,by simp only[beq_self_eq_true,if_true];exact aO⟩
   .exact .inl e
  .refine .inr ⟨c,?_⟩;split
   .exact aJ _ h
   .exact h
theorem pK{α:Type}{x:Str}{c:α} : ∀{l:List (Str×α)},(x,c)∈l->∃c',l.lookup x=some c'
 |(y,d)::r,h=>by
  rw[List.lookup_cons];cases hb:x==y with
  |true=>exact⟨d,rfl⟩
  |false =>
   rcases YU.mp h with e|e
   .cases e;simp at hb
   .exact pK e
section
variable{X:Cx}{a9 iter:Expr}{x:Str}{px pos:Pos}{scope:Scope}{wi:TI}{te:TE}
theorem Inv.nostk'{aa:Δ}{σ:L2.St}{H:Hp}{s:Shared}(I:Inv X aa σ H s){b:Addr}(h1:b≠X.env.locals)(h2:b∉X.fs):b∉frs X.stack:=λz=>by
 rcases YU.mp (I.stkSub b z)with e|e
 .exact h1 e
 .exact h2 e
theorem Ar{env:Env} : ∀{names:List (Str×NameKind)}{y:Str},(names.map λ(n,k)=>if(k==NameKind.free&&env.scope.kind == .function&&env.kindOf n==some .cell)then(n,NameKind.cell)else(n,k)).lookup y=some .cell \/
  (names.map λ(n,k)=>if(k==NameKind.free&&env.scope.kind == .function&&env.kindOf n==some .cell)then(n,NameKind.cell)else(n,k)).lookup y=some .free->(∀z∈names,z.2≠.cell)->(y,NameKind.free)∈names
 |[],y,h,_=>by rcases h with h|h<;>cases h
 |(n,k)::r,y,h,hc=>by
  have ih:=@Ar env r y;simp only[List.map_cons]at h;by_cases hcond:(k==NameKind.free&&env.scope.kind == .function&&env.kindOf n==some .cell)=true
  .rw[ZY hcond]at h;simp only[List.lookup_cons]at h;cases hb:y==n with
   |true =>
    have hk:k=.free:=by
     simp only[Zzt,beq_iff_eq]at hcond;exact hcond.1.1
    have:y=n:=by simpa using hb
    subst this hk;exact aO
   |false =>
    rw[hb]at h;exact aJ _ (ih h λz hz=>hc z (aJ _ hz))
  .rw[ZZ hcond]at h;simp only[List.lookup_cons]at h;cases hb:y==n with
   |true =>
    rw[hb]at h;have:y=n:=by simpa using hb
    subst this;rcases h with h|h
    .exact absurd (Option.some.inj h) (hc (y,k) aO)
    .have:k=.free:=Option.some.inj h;subst this;exact aO
   |false =>
    rw[hb]at h;exact aJ _ (ih h λz hz=>hc z (aJ _ hz))
end
section
variable{X:Cx}
def eqF:Ζ->Ζ->Bool
 |[],[]=>true
 |x::xs,y::ys=>eqV x y&&eqF xs ys
 |_,_=>false
theorem Inv.tupIs{aa:Δ}{σ:L2.St}{H:Hp}{s:Shared}{a:Addr}{xs:Ζ}(I:Inv X aa σ H s)(h:H a=some (.tup xs)):∃its,Vals xs its/\IsTup s.heap a its.toArray/\s.heap.IsTuple a its.toArray:=by
 obtain⟨its,rv,ht,_⟩:=I.tuple (SqT.of h);exact⟨its,rv,ht,ht⟩
theorem Inv.lstIs{aa:Δ}{σ:L2.St}{H:Hp}{s:Shared}{a:Addr}{xs:Ζ}(I:Inv X aa σ H s)(h:H a=some (.lst xs)):∃its,Vals xs its/\s.heap.IsList a its.toArray:=by
 obtain⟨its,rv,ht,_⟩:=I.list (SqL.of h);exact⟨its,rv,ht.isList⟩
end
open PySem.SeqAt in
mutual
inductive Shows(H:Hp):V->PyData->Prop
 |non:Shows H .non .none
 |bl (b:Bool):Shows H (.bl b) (.bool b)
 |int (i:Int):Shows H (.int i) (.int i)
 |str (x:Str):Shows H (.str x) (.str x)
 |lst {a:Addr}{xs:Ζ}{ds:List PyData} : H a=some (.lst xs)->eX H xs ds->Shows H (.ref a) (.list ds)
 |tup {a:Addr}{xs:Ζ}{ds:List PyData} : H a=some (.tup xs)->eX H xs ds->Shows H (.ref a) (.tuple ds)
inductive eX(H:Hp):Ζ->List PyData->Prop
 |nil:eX H [] []
 |cons {x:V}{xs:Ζ}{d:PyData}{ds:List PyData} : Shows H x d->eX H xs ds->eX H (x::xs) (d::ds)
end
mutual
theorem Shows.same{H H':Hp}(S:Same H H'):∀{x:V}{d:PyData},Shows H x d->Shows H' x d
 |_,_,.non=>.non
 |_,_,.bl b=>.bl b
 |_,_,.int i=>.int i
 |_,_,.str x=>.str x
 |_,_,.lst e h=>.lst (S _ _ e) (eX.same S h)
 |_,_,.tup e h=>.tup (S _ _ e) (eX.same S h)
theorem eX.same{H H':Hp}(S:Same H H'):∀{xs:Ζ}{ds:List PyData},eX H xs ds->eX H' xs ds
 |_,_,.nil=>.nil
 |_,_,.cons h t=>.cons (Shows.same S h) (eX.same S t)
end
theorem eX.ints(H:Hp):∀ns:List Int,eX H (ns.map V.int) (ns.map PyData.int)
 |[]=>.nil
 |n::ns=>.cons (.int n) (eX.ints H ns)
section
variable{X:Cx}{aa:Δ}{σ:L2.St}{H:Hp}{s:Shared}
mutual
theorem Inv.reads(I:Inv X aa σ H s):∀{x:V}{d:PyData}{v:Value},Shows H x d->RelV x v->∃as,Reads s.heap v d as
 |_,_,_,.non,r=>by cases r;exact⟨_,.none⟩
 |_,_,_,.bl b,r=>by cases r;exact⟨_,.bool b⟩
 |_,_,_,.int i,r=>by obtain⟨t,rfl⟩:=r;exact⟨_,.int i t⟩
 |_,_,_,.str x,r=>by obtain⟨t,rfl⟩:=r;exact⟨_,.str x t⟩
 |_,_,_,.lst e h,r=>by
  cases r;obtain⟨its,rv,⟨o,ho,hc,n,hd⟩⟩:=I.lstIs e;obtain⟨as,q⟩:=Inv.readsAll I h rv;exact⟨_,.list ho hc hd q⟩
 |_,_,_,.tup e h,r=>by
  cases r;obtain⟨its,rv,_,⟨o,ho,hc,n,hd⟩⟩:=I.tupIs e;obtain⟨as,q⟩:=Inv.readsAll I h rv;exact⟨_,.tuple ho hc hd q⟩
theorem Inv.readsAll(I:Inv X aa σ H s):∀{xs:Ζ}{ds:List PyData}{vs:Θ},eX H xs ds->Vals xs vs->∃as,ReadsAll s.heap vs ds as
 |_,_,_,.nil,r=>by cases r;exact⟨_,.nil⟩
 |_,_,_,.cons h t,r=>by
  cases r with
  |cons r1 r2 =>
   obtain⟨a,q1⟩:=Inv.reads I h r1;obtain⟨b,q2⟩:=Inv.readsAll I t r2;exact⟨_,.cons q1 q2⟩
end
def ajO:Ζ->Hp->VK->Prop:=λxs H Q=>∃(l:Addr)(ns:List Int),xs=[.ref l]/\H l=some (.lst (ns.map V.int))/\Q (.int ns.sum) H
theorem Xa(hc:X.calm=true):jk X (.builtin "sum") ajO:=by
 intro aa s σ H xs us Q I r h;obtain⟨l,ns,rfl,hl,q⟩:=h;obtain⟨u,rfl,ru⟩:=r.one;cases ru;obtain⟨its,rv,p⟩:=I.lstIs hl;have hI:=intsAre_of rv;obtain⟨xs,e⟩:=hI.allInts.items;have hn:=hI.numsOf;rw[show its=its.toArray.toList from rfl,e,nums_intItems]at hn;rw[e]at p;refine sum_intListG (I.ok.hd hc) p λh' tk t' k=>⟨.int ns.sum,H,I.kept k,?_,q⟩;rw[preSum_eq,Zzu (by simp),hn];exact⟨_,rfl⟩
end
section
variable{X:Cx}
def tM(t:TE):TE:=λσ H Q=>∃R:VK,t σ H R/\∀x H',R x H'->Q x H'
def tMA(t:TA):TA:=λσ H Q=>∃R:Ζ->Hp->Prop,t σ H R/\∀x H',R x H'->Q x H'
theorem PE.mono{a:Expr}{t:TE}(h:PE X a t):PE X a (tM t):=λaa s σ H Q I ⟨R,h1,h2⟩ =>
 thn (h aa s σ H R I h1) λv s' hP=>by obtain⟨x,H',I',r,q⟩:=hP;exact⟨x,H',I',r,h2 x H' q⟩
theorem PA.mono{es:List Expr}{t:TA}(h:PA X es t):PA X es (tMA t):=λpos aa s σ H Q I ⟨R,h1,h2⟩ =>
 thn (h pos aa s σ H R I h1) λv s' hP=>by obtain⟨x,H',I',r,q⟩:=hP;exact⟨x,H',I',r,h2 x H' q⟩
theorem PE.imp{a:Expr}{t t':TE}(h:PE X a t)(i:∀σ H Q,t' σ H Q->t σ H Q):PE X a t':=λaa s σ H Q I q=>h aa s σ H Q I (i σ H Q q)
def amZ(to:TE)(t:TA):TE:=λσ H Q=>to σ H λx H1=>∃l xs,x=.ref l/\H1 l=some (.lst xs)/\t σ H1 λvs H2=>∃y ys,vs=[y]/\H2 l=some (.lst ys)/\ys.length<sizeLine/\Q .non (upd H2 l (.lst (ys++[y])))
theorem Yc{o e:Expr}{to:TE}{t:TA}{am af:Pos}(ho:PE X o to)(ha:PA X [e] t)(hb:attributeBase o "append" X.env (eval o X.env)=eval o X.env:=by rfl)
 (hf:((backTo af (starEach [e] X.env)).all (λx=>!x.1)&&(backToKw af (keywordEach [] X.env)).all (λx=>x.1.isSome)&&decide ([e].length+([] : List Keyword).length+(if([] : List Keyword).isEmpty then 0 else 1)<30))=true:=by rfl)
 (hl:(am.endLine==af.line)=true:=by rfl)(hs:starEach [e] X.env=(false,eval e X.env)::starEach [] X.env:=by rfl)(hp:(backTo af (starEach [] X.env)).any (·.1)=false:=by rfl) :
  PE X (.Call (.Attribute o "append" am) [e] [] af) (amZ to t):=by
 refine(aas PySem.F.plainAttrs_list PySem.F.slot_list_append PySem.F.type_list_append KJ ho.mono ha.mono hb hf hl hs hp).imp λσ H Q h=>?_;refine⟨_,h,?_⟩;rintro x H1 ⟨l,xs,rfl,hx,h2⟩;refine⟨.inl ⟨rfl,_,SqL.of hx⟩,_,h2,?_⟩;rintro vs H2 ⟨y,ys,rfl,hy,hz,q⟩;exact⟨l,ys,y,rfl,rfl,hy,hz,q⟩
def agg:Ζ->Hp->VK->Prop:=λxs H Q=>∃p ys,xs=[.ref p]/\H p=some (.lst ys)/\∀l,H l=none->Q (.ref l) (upd H l (.lst ys))
theorem TQ:jk X (.type "list") agg:=K1.imp λxs H Q hP=>by obtain⟨p,ys,a,b,c⟩:=hP;exact⟨p,ys,a,.inl (.of b),c⟩
end
mutual
theorem U0:∀ns:List Int,PyData.canLayAll0 (ns.map PyData.int)=true
 |[]=>rfl
 |n::ns=>by
  rw[List.map_cons];unfold PyData.canLayAll0;rw[U0 ns];rfl
end
inductive FL(H:Hp):Ζ->Γ->Prop
 |nil:FL H [] []
 |cons {p:Addr}{f:Β}{xs:Ζ}{fs:Γ} : H p=some (.tup [.int f.1,.int f.2])->FL H xs fs->FL H (.ref p::xs) (f::fs)
noncomputable def Its(x:Str):It:=⟨λi _=>i<x.cps.size,λi H v H'=>H'=H/\∃c,x.cps[i]?=some c/\v=.str ⟨#[c]⟩,λi _=>i=x.cps.size⟩
theorem QF{P:Program}{w:World}{K:Frag}{tg:Expr}(it:Addr)(x:Str)(t:Tok)(ty:String)(ir : ["enumerate","zip","dict_itemiterator","dict_reverseitemiterator","odict_iterator","itertools.zip_longest","itertools.pairwise"].contains ty=false)
 (W:∀A:Around,A.handled=none->Walks P w A it [it] [it] x.cps.size (SignAt x) (λi h=>h.IsStrIter it ty x t i))
 (iF:∀(A:Around)(i:Nat)(s:Shared)(Q:Ε)(E:Ε),s.heap.IsStrIter it ty x t i->Q (.ref it) s->wpAny (model P w) A (pyIter (.ref it)) Q E s):Turn P w K tg (Its x) [it] it (λi h=>h.IsStrIter it ty x t i) where
 mem:=by simp
 obj:=λi h st b hb=>by
  have e:b=it:=by simpa using hb
  subst e;obtain⟨o,ho,_,hd⟩:=st;exact⟨o,ho,λv z=>by rw[hd]at z;cases z⟩
 keep:=λi h h' st k=>let⟨o,ho,r⟩:=st;⟨o,k it (by simp) o ho,r⟩
 item:=by
  intro X hP hw hK hc i aa s σ H E I hf st hg;subst hP hw hK;obtain⟨f0,f1,f2,f3,f4,f5⟩:=hf it (by simp);refine(W X.A (I.ok.hd hc)).item i s _ _ hg st λv h' tk hv dv kk=>?_;obtain⟨c,u,hx,rfl⟩:=hv;have I1:Inv X aa σ H { s with heap:=h',toks:=tk }:=I.turned (λb o hb e=>kk b o (by simpa using hb) e) f0 f1 f3 f4 f5;obtain⟨o,ho,gV,hd⟩:=id dv;exact⟨_,rfl,Vf (s:={ s with heap:=h',toks:=tk }) ho gV hd ir ⟨.str ⟨#[c]⟩,H,I1,⟨u,rfl⟩,⟨rfl,c,hx,rfl⟩,dv,λb hb=>(hf b hb).1⟩⟩
 done:=by
  intro X hP hw hK hc i aa s σ H E I hf st hg;subst hP hw hK;obtain⟨f0,f1,f2,f3,f4,f5⟩:=hf it (by simp);have k7:i=x.cps.size:=hg;subst k7;exact(W X.A (I.ok.hd hc)).done s _ _ st λh' tk kk=>⟨rfl,I.turned (λb o hb e=>kk b o (by simpa using hb) e) f0 f1 f3 f4 f5⟩
 self:=iF
section
variable{X:Cx}{tg:Expr}
def anE(te:TE):TI:=λσ H R=>te σ H λv H1=>∃x,v=.str x/\R (Its x) H1
theorem aeZ{l:Expr}{tl:TE}(hl:PE X l tl):PI X tg l (anE tl):=by
 intro aa s σ H R I h;refine thn (hl aa s σ H _ I h) λv s1 hP=>?_;obtain⟨x,H1,I1,r1,y,ey,q⟩:=hP;subst ey;obtain⟨t,rfl⟩:=r1;have fp:∀b∈[s1.heap.objs.size],Ey X aa H1 b:=λb hb=>by
  have e:b=s1.heap.objs.size:=by simpa using hb
  subst e;exact I1.fpOk (aG _) (I1.hok.fresh (aG _))
 have k:∀o:Obj,Inv X aa σ H1 { s1 with heap:=s1.heap.push o }:=λo=>I1.kept (t':=s1.toks) λb ob z=>aH _ z;cases ha:y.cps.all (· < 128)
 .exact wpAny_pyIter_wide ha ⟨s1.heap.objs.size,[s1.heap.objs.size],_,Its y,H1,rfl,k _,QF _ y t "str_iterator" (by decide) (λA hA=>Walks.strWide hA _ y t) (λA i s Q E st h=>wpAny_pyIter_striter_wide st h),⟨_,aW _ rfl,rfl,rfl⟩,fp,q⟩
 .exact wpAny_pyIter_ascii ha ⟨s1.heap.objs.size,[s1.heap.objs.size],_,Its y,H1,rfl,k _,QF _ y t "str_ascii_iterator" (by decide) (λA hA=>Walks.strAscii hA _ y t) (λA i s Q E st h=>wpAny_pyIter_striter_ascii st h),⟨_,aW _ rfl,rfl,rfl⟩,fp,q⟩
end
noncomputable def Fj(x:Str)(lo hi:Option Int):Str:=⟨((x.cps.toList.drop (HT.sIx x.length 0 lo)).take (HT.sIx x.length x.length hi-HT.sIx x.length 0 lo)).toArray⟩
theorem strIdx(lo hi:Option Int)(n:Nat):Builtin.Str.strSliceIndices lo hi 1 n=(List.range (HT.sIx n n hi-HT.sIx n 0 lo)).map (HT.sIx n 0 lo + ·):=by
 rw[<- sliceRange_one];unfold Builtin.Str.strSliceIndices;have h1:∀(o:Option Int)(d:Nat),d<=n->(match o with
   |none=>(d:Int)
   |some i=>(let i:=if i<0 then i+(n:Int)else i;if(1:Int)>0 then max 0 (min i n)else max (-1) (min i (n-1))))=((HT.sIx n d o:Nat):Int):=by
  intro o d hd;cases o with
  |none=>rfl
  |some i =>
   simp only[HT.sIx,show(1:Int)>0 by decide,if_true];by_cases h:i<0
   .simp only[h,if_true]<;>lia
   .simp only[h,if_false]<;>lia
 have e1:=h1 lo 0 (aZ _);have e2:=h1 hi n (aG _);simp only[show(1:Int)>0 by decide,if_true]at e1 e2 ⊢;rw[<- e1,<- e2]
 rfl
theorem ab8(x:Str)(lo hi:Option Int):(⟨((Builtin.Str.strSliceIndices lo hi 1 x.length).filterMap (x.cps[·]?)).toArray⟩ : Str)=Fj x lo hi:=by
 rw[strIdx,pick_run];rfl
theorem Sw(x:Str)(lo hi:Option Int)(h:(Builtin.Str.strSliceIndices lo hi 1 x.length).length=x.length):Fj x lo hi=x:=by
 rw[strIdx,ak,WJ]at h;have h2:=HT.aeI x.length x.length (aG _) hi;unfold Fj;have hx:x.length=x.cps.size:=rfl;have e:x.cps.toList.length=x.length:=by simp[hx]
 by_cases z:x.length=0
 .have:x.cps.toList=[]:=List.length_eq_zero_iff.mp (Eq.trans e z);rw[this];obtain⟨⟨l⟩⟩:=x;simp at this;subst this;simp
 .have e0:HT.sIx x.length 0 lo=0:=by lia
  rw[e0,List.drop_zero,Zzu (by lia)]
def amC:V->Option Int->Option Int->Hp->VK->Prop:=λx lo hi H Q=>∃y,x=.str y/\y.length<=sizeLine/\Q (.str (Fj y lo hi)) H
theorem part_of{v:Value}{o:Option Int}(h:IsPart v o):∃l:Option (Int×Tok),v=partValue l/\l.map (·.1)=o:=by
 cases h with
 |none=>exact⟨none,rfl,rfl⟩
 |int i t=>exact⟨some (i,t),rfl,rfl⟩
theorem afI{X:Cx} : SlR X amC:=by
 intro aa s σ H x v vl vu lo hi sl Q I rx hs pl pu h;obtain⟨y,rfl,hz,q⟩:=h;obtain⟨t,rfl⟩:=rx;obtain⟨l,rfl,el⟩:=part_of pl;obtain⟨u,rfl,eu⟩:=part_of pu;refine⟨"str",_,F.slot_str_getitem.lookup,typeIs_str s y t,wpAny_getItem_str_slice (l:=l) (u:=u) (st:=none) hs rfl ?_⟩;unfold sliceMade slicePicked;rw[el,eu];split
 .rename_i hw
  have hJ:=(Bool.and_eq_true_iff.mp hw).2;rw[beq_iff_eq]at hJ;have e:=Sw y lo hi hJ;rw[e]at q;exact⟨.str y,H,I,⟨t,rfl⟩,q⟩
 .have e:=ab8 y lo hi;refine⟨?_,.str (Fj y lo hi),H,I.tok _,⟨s.toks,?_⟩,q⟩
  .refine aL ?_ hz;refine aL (WG (ZH Str.length e)) ?_;show((y.cps.toList.drop _).take _).toArray.size<=y.cps.size;rw[aX,aY,TW,Array.length_toList];lia
  .rw[<- e];rfl
section
variable{X:Cx}
def ag4:R2:=λx y H Q=>∃i j,x=.str i/\y=.str j/\i.length+j.length<=sizeLine/\Q (.str (i++j)) H
theorem abC:OpR X (binaryOp .Add) ag4:=Sx
def alp:R2:=λx y H Q=>∃i j,x=.str i/\y=.str j/\Q (.bl (!decide (j.cps.toList<i.cps.toList))) H
theorem aeu:OpR X (compareOp .LtE) alp:=by
 intro aa s σ H x y v u Q I rx ry h;obtain⟨i,j,rfl,rfl,q⟩:=h;obtain⟨t,rfl⟩:=rx;obtain⟨t',rfl⟩:=ry;exact PySem.P.le_str (cX I q rfl)
theorem OpR.imp{f:Value->Value->Sem Value}{r r':R2}(h:OpR X f r)(i:∀x y H Q,r' x y H Q->r x y H Q):OpR X f r':=λaa s σ H x y v u Q I rx ry q=>h aa s σ H x y v u Q I rx ry (i _ _ _ _ q)
theorem Ky:∀{bs:List Bool}{us:Θ},Vals (bs.map V.bl) us->∀(i:Nat)(v:Value),us[i]?=some v->∃b,bs[i]?=some b/\v=.bool b
 |[],_,.nil,i,v,h=>by cases i<;>cases h
 |b::bs,_,.cons r t,0,v,h=>by
  rw[List.getElem?_cons_zero]at h;cases h;exact⟨b,rfl,r⟩
 |b::bs,_,.cons r t,i+1,v,h=>by
  rw[List.getElem?_cons_succ]at h;exact Ky t i v h
def aiw:Ζ->Hp->VK->Prop:=λxs H Q=>∃(l:Addr)(bs:List Bool),xs=[.ref l]/\H l=some (.lst (bs.map V.bl))/\Q (.bl (bs.all id)) H
theorem uO:∀bs:List Bool,((List.range bs.length).all λi=>(bs[i]?).getD true)=bs.all id
 |[]=>rfl
 |b::bs=>by
  rw[List.length_cons,List.range_succ_eq_map,List.all_cons,List.all_map,List.all_cons];have:=uO bs;simp only[Function.comp_def,List.getElem?_cons_succ,List.getElem?_cons_zero,Option.getD_some,id]at this ⊢;rw[this]
theorem XD(hc:X.calm=true):jk X (.builtin "all") aiw:=by
 intro aa s σ H xs us Q I r h;obtain⟨l,bs,rfl,hl,q⟩:=h;obtain⟨u,rfl,ru⟩:=r.one;cases ru;obtain⟨its,rv,p⟩:=I.lstIs hl;have fx:l<s.heap.objs.size:=by obtain⟨_,e,_⟩:=p;exact aK e
 refine call_all_walk (wpAny_pyIter_list p ?_);refine⟨s.heap.objs.size,[s.heap.objs.size,l],[s.heap.objs.size],its.toArray.size,_,_,λi=>(bs[i]?).getD true,rfl,Walks.list (A:=X.A.in1) (I.ok.hd hc) _ l (aQ fx) its.toArray,
  ⟨⟨_,aW _ rfl,rfl,rfl⟩,p.push _⟩,λi v s' Q' E' hP hQ=>?_,λh' tk hk=>?_⟩
 .obtain⟨b,e,rfl⟩:=Ky rv i v (by simpa using hP);simp only[e,Option.getD_some]at hQ;exact wpAny_truthy_bool hQ
 .have e:((List.range its.toArray.size).all λi=>(bs[i]?).getD true)=bs.all id:=by
   rw[aX,<- rv.length,ak];exact uO bs
  refine⟨.bl (bs.all id),H,I.kept (t':=tk) λb o q=>hk b o (λhm=>?_) (aH _ q),?_,q⟩
  .rw[YR.mp hm]at q;exact X9 _ (aK q)
  .rw[e];rfl
def tSM(r:V->Ζ->Hp->VK->Prop)(to:TE)(t:TA):TE:=λσ H Q=>to σ H λx H1=>(∃y,x=.str y)/\t σ H1 λvs H2=>r x vs H2 Q
theorem ahK{o e:Expr}{to:TE}{t:TA}{name:Str}{id:String}{r:V->Ζ->Hp->VK->Prop}{am af:Pos}(slot:Slot "str" name id)(ir:typeOf (.builtin id)=pure (.type "method_descriptor"))(hm:MtM X id r)(ho:PE X o to)(ha:PA X [e] t)
 (hb:attributeBase o name X.env (eval o X.env)=eval o X.env:=by rfl)
 (hf:((backTo af (starEach [e] X.env)).all (λx=>!x.1)&&(backToKw af (keywordEach [] X.env)).all (λx=>x.1.isSome)&&decide ([e].length+([] : List Keyword).length+(if([] : List Keyword).isEmpty then 0 else 1)<30))=true:=by rfl)
 (hl:(am.endLine==af.line)=true:=by rfl)(hs:starEach [e] X.env=(false,eval e X.env)::starEach [] X.env:=by rfl)(hp:(backTo af (starEach [] X.env)).any (·.1)=false:=by rfl) :
  PE X (.Call (.Attribute o name am) [e] [] af) (tSM r to t):=by
 refine(aas PySem.F.plainAttrs_str slot ir hm ho.mono ha hb hf hl hs hp).imp λσ H Q h=>?_;refine⟨_,h,?_⟩;rintro x H1 ⟨⟨y,rfl⟩,h2⟩;exact⟨rfl,h2⟩
theorem ZP{x:Str}{v:V}{pos:Pos}(hg:Gl X x)(hm:∃u,X.mg x=some u/\RelV v u)(hd:(x==("__debug__":Str))=false:=by decide):PE X (.Name x pos) (tC v):=by
 obtain⟨u,h1,h2⟩:=hm;exact Wm hg h1 h2 hd
end
noncomputable def hid(y:Str):Str:=Str.ofString "?"++y
def Kv(xs:Φ)(N:Φ):Φ:=N.map λy=>if y∈xs then hid y else y
def Cx.compG(X:Cx)(N':Φ)(scope:Scope)(xs:Φ)(C:Addr)(s₀:Shared)(H₀:Hp)(ex:Ψ)(pn:Δ):Cx :=
 { X with env:=compEnvC scope (uT X.env.cells scope.names []) C X.env,N:=xs++N',s₀:=s₀,H₀:=H₀,outer:=X.stack,ex:=ex,fn:=λ_=>false,pn:=pn,xe:=λ_ _=>False }
def PTs(X:Cx)(aI:List Expr)(tc:TT):Prop:=∀(aa:Δ)(s:Shared)(σ:L2.St)(H:Hp)(Q:Bool->Hp->Prop),Inv X aa σ H s->tc σ H Q ->
 wpAny (model X.prog X.w) X.A (forIn aI true λc r=>if r=true then do let ok <- isTrue c X.env (eval c X.env);pure (ForInStep.yield ok)else pure (ForInStep.yield r)) (λb s'=>∃H',Inv X aa σ H' s'/\Q b H') X.xe s
def anz:TT:=λ_ H Q=>Q true H
theorem abO{X:Cx} : PTs X [] anz:=λ_ _ _ H _ I q=>wpAny_tests_nil ⟨H,I,q⟩
theorem acL{X:Cx}{c:Expr}{tc:TT}(h:PT X c tc):PTs X [c] tc:=λaa s σ H Q I q=>wpAny_tests_one (h aa s σ H Q I q)
def rE(wi:TI)(n:Nat)(gt:TG)(tc:TT)(te:TE):TE:=λσ H Q=>wi σ H λJ H1=>∀D,H1 D=none->∃W:Nat->Nat->Ζ->Hp->Prop,(∃m,W 0 m [] (upd H1 D (.lst [])))/\∀i m ys Hc,W i m ys Hc ->
 (J.stop i Hc/\Q (.ref D) Hc)\/(J.go i Hc/\∀x H',J.yld i Hc x H'->∀pre:L2.St,pre.length=n->gt x (pre++σ) H' λσ2 H2=>∃b6:L2.St,b6.length=n/\σ2=b6++σ/\tc σ2 H2 λb H3 =>
  match b with
  |true=>te σ2 H3 λy H4=>ys.length<sizeLine/\H4 D=some (.lst ys)/\∃m',m'<m/\W (i+1) m' (ys++[y]) (upd H4 D (.lst (ys++[y])))
  |false=>∃m',m'<m/\W (i+1) m' ys H3)
def Cx.compE(X:Cx)(ext:Addr->List (Str×Addr))(fn:Str->Bool)(N':Φ)(scope:Scope)(xs:Φ)(C:Addr)(s₀:Shared)(H₀:Hp)(ex:Ψ)(pn:Δ):Cx :=
 { X with env:=compEnvC scope (ext C++uT X.env.cells scope.names []) C X.env,N:=xs++N',s₀:=s₀,H₀:=H₀,outer:=X.stack,ex:=ex,fn:=fn,pn:=pn,xe:=λ_ _=>False }
structure Rt(X:Cx)(scope:Scope)(xs:Φ)(ext:Addr->List (Str×Addr))(fn:Str->Bool):Prop where
 new:∀{M:Model}{A:Around}{E:Ε}{s:Shared}{globals:Addr}{bP:List (Str×Addr)}{ai:Str}{outer:Env}{Q:Env->Shared->Prop},(∀g,g.Ns s.heap.objs.size (λx=>([] : List (Str×Value)).reverse.lookup x)->(∀y c,(ext s.heap.objs.size).lookup y=some c->g.IsCell c none)->(∀b o,s.heap.get? b=some o->g.get? b=some o)->Q (newEnv scope s.heap.objs.size globals (ext s.heap.objs.size++bP) ai none .none (some outer) builtinsNs) { s with heap:=g,toks:=s.toks+([] : List (Str×Value)).length }) ->
  wpAny M A (newFunctionEnv scope globals bP [] ai none .none (some outer)) Q E s
 up:∀C y c,(ext C).lookup y=some c->C<c
 one:∀C y z c,(ext C).lookup y=some c->(ext C).lookup z=some c->y=z
 nw:∀C y,fn y=true->∃c,(ext C).lookup y=some c
 off:∀C y,y∉xs->(ext C).lookup y=none
 kd:∀C y,((relabel scope X.env).names.lookup y=some .cell\/(relabel scope X.env).names.lookup y=some .free)->(∃c,(ext C).lookup y=some c)\/(y,NameKind.free)∈scope.names
theorem akj{X:Cx}{scope:Scope}{xs:Φ}(hk:scope.kind=.function)(cS:∀y∈scope.names,y.2≠.cell):Rt X scope xs (λ_=>[]) (λ_=>false) :=
 ⟨λhQ=>wpAny_newFunctionEnv cS (by intro y hy;simp at hy) (λg eh hsb=>hQ g eh (λ_ _ z=>(nomatch z)) λb o e=>(hsb.2 b (aQ (aK e))).trans (aH _ e)) hk,λ_ _ _ z=>(nomatch z),λ_ _ _ _ z=>(nomatch z),λ_ _ z=>(nomatch z),λ_ _ _=>rfl,λ_ _ e=>.inr (Ar e cS)⟩
section
variable{X:Cx}{a9 iter:Expr}{pos:Pos}{scope:Scope}{wi:TI}{te:TE}
theorem Kz{ext:Addr->List (Str×Addr)}{fn:Str->Bool}{use:Option (Value->Sem Unit)}{post:Ε}{Qv:VK}{aa:Δ}{s:Shared}{σ:L2.St}{H:Hp}{pp:Pos}{xs N':Φ}{tg:Expr}{aI:List Expr}{gt:TG}{tc:TT}(E:Rt X scope xs ext fn)(hc:X.calm=true)(f8:Kv xs X.N=N')(ci:scope.kind=.function)(cK:∀y∈scope.names,y.2=.local->scope.names.lookup y.1=some .local)
 (cc:∀y∈scope.names,y.2=.free->X.env.kindOf y.1=some .cell\/X.env.kindOf y.1=some .free)(fc:∀y∈X.N,y∉xs->(relabel scope X.env).names.lookup y≠some .local)(hq:∀y∈X.N,y∈xs->(relabel scope X.env).names.lookup (hid y)=none)(hi:PI X tg iter wi)
 (hg:∀C s₀ H₀ ex pn,PG (X.compE ext fn N' scope xs C s₀ H₀ ex pn) tg gt)(ht:∀C s₀ H₀ ex pn,PTs (X.compE ext fn N' scope xs C s₀ H₀ ex pn) aI tc)(he:∀C s₀ H₀ ex pn,PE (X.compE ext fn N' scope xs C s₀ H₀ ex pn) a9 te)(hs:∀z,foldedSetIterable iter X.env z=pure z)(I:Inv X aa σ H s)(h:rE wi xs.length gt tc te σ H Qv)
 (mB:∀(C D:Addr)(Hc:Hp)(s6:Shared)(m:Str->Ω)(fl:Flow),s6.heap.Ns C m->Inv X aa σ Hc s6->Ey X aa Hc C->Qv (.ref D) Hc->compPost (model X.prog X.w) X.A X.xe use post (.ref D) C (.ok fl) s6) :
  wpAny (model X.prog X.w) X.A (comprehension (.ListComp a9 [⟨tg,iter,aI,0⟩] scope pos) scope X.env pp (newList []) false (eval iter X.env) use) post X.xe s:=by
 have ka:∀y∈scope.names,y.2=.free->∃c,X.env.cells.lookup y.1=some c:=λy hy e=>I.ok.has y.1 (cc y hy e);refine wpAny_comprehension_free (use:=use) (Q:=post) rfl hs (SM ka) ci cK (thn (hi aa s σ H _ I h) λv s1 h1=>thn h1 λkK s2 h2=>?_);obtain⟨it,fp,tn,J,H2,e,I2,T,fI,f2,R⟩:=h2;subst e;have nD:H2 s2.heap.objs.size=none:=I2.hok.fresh (aG _);obtain⟨W,⟨m0,w0⟩,eR⟩:=R s2.heap.objs.size nD;refine wpAny_newObj_type ?_ (by show 0<=sizeLine;exact aZ _);have I3:Inv X aa σ (upd H2 s2.heap.objs.size (.lst [])) { s2 with heap:=s2.heap.push { cls:=.type "list",dict:=none,data:=.seq ([] : Θ).toArray } }:=I2.lnew (t':=s2.toks) (ys:=[]) (its:=[]) .nil (aZ _);have kB:∀b o,s2.heap.get? b=some o->(s2.heap.push { cls:=.type "list",dict:=none,data:=.seq ([] : Θ).toArray }).get? b=some o:=λb o e=>aH _ e;generalize hs3:({ s2 with heap:=s2.heap.push { cls:=.type "list",dict:=none,data:=.seq ([] : Θ).toArray } } : Shared)=s3 at I3 ⊢;have g6:tn 0 s3.heap:=T.keep _ _ _ fI λb _ o e=>by rw[<- hs3];exact kB b o e
 generalize hH3:upd H2 s2.heap.objs.size (.lst [])=H3 at I3 w0;have f3:∀b∈fp,Ey X aa H3 b:=λb hb=>by
  obtain⟨a1,a2⟩:=f2 b hb;refine⟨?_,a2⟩;obtain⟨o,e,_⟩:=T.obj _ _ fI b hb;rw[<- hH3,cF (aQ (aK e))];exact a1
 refine E.new λg eh gV kg=>?_;have clm:∀{y:Str}{c:Addr},(uT X.env.cells scope.names []).lookup y=some c->X.env.cells.lookup y=some c:=λ{y c}e=>by
  rcases Qh ka (PySem.mem_of_lookup e)with z|z
  .cases z
  .exact z
 have f6:∀{y:Str},(ext s3.heap.objs.size).lookup y=none->((relabel scope X.env).names.lookup y=some .cell\/(relabel scope X.env).names.lookup y=some .free)->(X.env.kindOf y=some .cell\/X.env.kindOf y=some .free)/\∃c,(ext s3.heap.objs.size++uT X.env.cells scope.names []).lookup y=some c/\X.env.cells.lookup y=some c:=λ{y}ny e=>by
  rcases E.kd s3.heap.objs.size y e with⟨c,z⟩|z
  .rw[ny]at z;cases z
  .obtain⟨c,dm⟩:=Qn (cells:=X.env.cells) (acc:=[]) (.inl z);obtain⟨c,dm⟩:=pK dm;exact⟨cc _ z rfl,c,by rw[List.lookup_append,ny];exact dm,clm dm⟩
 have i':∀{y:Str}{c:Addr},(ext s3.heap.objs.size++uT X.env.cells scope.names []).lookup y=some c->(ext s3.heap.objs.size).lookup y=some c\/X.env.cells.lookup y=some c:=λ{y c}e=>by
  rw[List.lookup_append]at e;cases hy:(ext s3.heap.objs.size).lookup y with
  |some d=>rw[hy]at e;exact .inl e
  |none=>rw[hy]at e;exact .inr (clm e)
 have cll:∀{y z c},(ext s3.heap.objs.size).lookup z=some c->¬X.env.cells.lookup y=some c:=λ{y z c}e1 e=>by
  obtain⟨v,o,h1,_⟩:=I3.cell y c e;exact X9 _ (Tk (aK h1) (E.up _ _ _ e1))
 have kF:∀b∈fp,b<s3.heap.objs.size:=λb hb=>by
  obtain⟨o,e,_⟩:=T.obj _ _ g6 b hb;exact aK e
 have nst:∀b∈fp,b∉frs X.stack:=λb hb=>I3.nostk' (f3 b hb).2.1 (f3 b hb).2.2.1;have cfp:∀b∈fp,∀y c,(ext s3.heap.objs.size++uT X.env.cells scope.names []).lookup y=some c->c≠b:=λb hb y c e=>by
  rcases i' e with z|z
  .exact UT (Tk (kF b hb) (E.up _ _ _ z))
  .exact(f3 b hb).2.2.2.2.1 y c z
 generalize hX:X.compE ext fn N' scope xs s3.heap.objs.size s3 H3 fp (X.pn++aa)=Y;have ok':Y.Ok:=by
  subst hX;exact⟨I3.ok.mod,ci,I3.ok.glob,I3.ok.blt,aG _,λy z c h1 h2=>by
    rcases i' h1 with e1|e1<;>rcases i' h2 with e2|e2
    .exact E.one _ _ _ _ e1 e2
    .exact absurd e2 (cll e1)
    .exact absurd e1 (cll e2)
    .exact I3.ok.inj y z c e1 e2,λy hy=>by
    cases hz:(ext s3.heap.objs.size).lookup y with
    |some c=>exact⟨c,List.lookup_append.trans (by rw[hz];rfl)⟩
    |none=>exact let⟨_,c,q,_⟩:=f6 hz hy;⟨c,q⟩,λy c i4 e=>by
    obtain⟨d,z⟩:=E.nw s3.heap.objs.size y i4;have e:(ext s3.heap.objs.size++uT X.env.cells scope.names []).lookup y=some c:=e;rw[List.lookup_append,z]at e;cases e;exact Y2 (E.up _ _ _ z),I3.ok.hd,I3.ok.frames,.inl rfl,
   λb hb=>⟨aQ (kF b hb),cfp b hb⟩,I3.bs,aL I3.ok.bsz I3.sz,λb o e hb=>by
    rcases(f3 b hb).2.2.2.1 with z|z
    .exact I3.ok.noex b o e z
    .exact absurd (aR (aR (aK e) I3.ok.bsz) z) (X9 _),nst,I3.stack,I3.stkFree⟩
 have J4:∀tk,Inv Y [] (List.replicate xs.length none++σ) H3 { s3 with heap:=g,toks:=tk }:=λtk=>by
  subst hX;refine⟨ok',rfl,I3.bare,Un.kept kg,⟨_,eh,λi y v e1 e2 e3=>?_⟩,λy c e=>?_,I3.hok.fresh (aG _),λy c e=>(i' e).elim (λz=>I3.hok.fresh (Y2 (E.up _ _ _ z))) (I3.freeC y c),λp hp=>?_,I3.hok.kept kg,?_⟩
  .by_cases hin:i<xs.length
   .rw[aF (by rw[aN];exact hin),X0,ZY hin]at e2;cases e2
   .obtain⟨j,rfl⟩ : ∃j,i=xs.length+j:=⟨i-xs.length,by lia⟩;have e0:N'[j]?=some y:=by
     have e1:(xs++N')[xs.length+j]?=some y:=e1;rw[aD (X2 _ _)]at e1;rw[show xs.length+j-xs.length=j by exact JU _ _]at e1;exact e1
    have kc:σ[j]?=some (some v):=by
     rw[aD (by rw[aN];exact X2 _ _),aN]at e2;rw[show xs.length+j-xs.length=j by exact JU _ _]at e2;exact e2
    rw[<- f8]at e0;obtain⟨y0,h8,ey⟩ : ∃y0,X.N[j]?=some y0/\(if y0∈xs then hid y0 else y0)=y:=by
     unfold Kv at e0;rw[aq]at e0;cases hz:X.N[j]? with
     |none=>rw[hz]at e0;cases e0
     |some y0=>rw[hz]at e0;exact⟨y0,rfl,Option.some.inj e0⟩
    have e3:(relabel scope X.env).names.lookup y=some .local\/(relabel scope X.env).names.lookup y=some .cell\/(relabel scope X.env).names.lookup y=some .free:=e3;have ne:¬y0∈xs:=λz=>by
     rw[ZY z]at ey;subst ey;rw[hq y0 (aC h8) z]at e3;rcases e3 with z|z|z<;>cases z
    rw[ZZ ne]at ey;subst ey;have e3':(relabel scope X.env).names.lookup y0=some .cell\/(relabel scope X.env).names.lookup y0=some .free:=by
     rcases e3 with z|z
     .exact absurd z (fc y0 (aC h8) ne)
     .exact z
    obtain⟨kd,c,gV,kb⟩:=f6 (E.off _ _ ne) e3';obtain⟨m,_,hl⟩:=I3.loc;obtain⟨u,r,lk⟩:=hl j y0 v h8 kc (.inr kd);refine⟨u,r,.inr ⟨e3',c,gV,?_⟩⟩;rcases lk with⟨k1,_⟩|⟨_,c',q1,o,q2,q3⟩
    .exfalso;have k1':X.env.kindOf y0=some .local:=k1;rcases kd with k2|k2<;>rw[k1']at k2<;>cases k2
    .rw[kb]at q1;cases q1;exact⟨o,kg _ _ q2,q3⟩
  .rcases i' e with z|z
   .exact⟨none,gV y c z⟩
   .obtain⟨v,o,q2,q3⟩:=I3.cell y c z;exact⟨v,o,kg _ _ q2,q3⟩
  .have c9:p∈X.pn++aa:=by simpa[Cx.compE]using hp
   obtain⟨a1,a2,a3,a4,a5⟩:=I3.pin p c9;exact⟨kg _ _ a1,a2,aQ (aK a1),I3.nostk' a3 a4,a5⟩
  .show(List.replicate xs.length none++σ).length=(xs++N').length;have hln:N'.length=X.N.length:=by rw[<- f8];unfold Kv;rw[ak]
   rw[aA,aN,aA,I3.len,hln]
 have mi:∀{Hc:Hp},(∀b∈fp,Hc b=none)->∀b∈fp,Ey Y [] Hc b:=λ{Hc}hn b hb=>by
  subst hX;exact⟨hn b hb,aQ (kF b hb),nst b hb,.inl hb,cfp b hb,λp hp=>(f3 b hb).2.2.2.2.2 p (by simpa[Cx.compE]using hp)⟩
 have gz:∀s4:Shared,s4={ s3 with heap:=g,toks:=s3.toks+([] : List (Str×Value)).length } ->
   codeAny (model X.prog X.w) X.A (.compLoop (.ListComp a9 [⟨tg,iter,aI,0⟩] scope pos) 0 (.ref it) (.ref s2.heap.objs.size) Y.env) (compPost (model X.prog X.w) X.A X.xe use post (.ref s2.heap.objs.size) s3.heap.objs.size) s4:=by
  rintro s4 rfl;have YP:Y.prog=X.prog/\Y.w=X.w/\Y.K=X.K/\Y.calm=X.calm/\Y.A=X.A/\Y.env.locals=s3.heap.objs.size:=by subst hX;exact⟨rfl,rfl,rfl,rfl,rfl,rfl⟩
  obtain⟨y1,y2,y3,y4,y5,y6⟩:=YP;have he':PE Y a9 te:=by subst hX;exact he _ _ _ _ _
  have k7:PG Y tg gt:=by subst hX;exact hg _ _ _ _ _
  have ht':PTs Y aI tc:=by subst hX;exact ht _ _ _ _ _
  have jn:Y.xe=λ_ _=>False:=by subst hX;rfl
  have yb:∀{Hc:Hp}{w':L2.St}{pn:Δ}{s':Shared},Inv Y pn w' Hc s'->Un (frs X.stack) fp H3 Hc s3.heap s'.heap:=λ{Hc w' pn s'}Z=>by
   have:=Z.base;subst hX;exact this
  have yos:∀{Hc:Hp}{w':L2.St}{pn:Δ}{s':Shared},Inv Y pn w' Hc s'->s'.os=s3.os:=λ{Hc w' pn s'}Z=>by
   have:=Z.os;subst hX;exact this
  refine codeAny_loop rfl (λn s'=>∃i ys Hc,∃w':L2.St,w'.length=xs.length/\Inv Y [] (w'++σ) Hc s'/\tn i s'.heap/\(∀b∈fp,Hc b=none)/\W i n ys Hc) (λn s5 hI=>?_) m0 ⟨0,[],H3,List.replicate xs.length none,aN,J4 _,T.keep _ _ _ g6 λb _ o e=>kg b o e,λb hb=>(f3 b hb).1,w0⟩;obtain⟨i,ys,Hc,w',hJ,Z,stc,frc,wc⟩:=hI;show wpAny _ _ ((compTurn (.ListComp a9 [⟨tg,iter,aI,0⟩] scope pos) 0 (.ref it) (.ref s2.heap.objs.size) Y.env).onRaise (λz=>do noteFrame z Y.env;theTreesLotGoes z)) _ _ s5;refine wpAny_noted (wpAny_noRaise ?_);rw[compTurn_list];show wpAny (model X.prog X.w) X.A _ _ _ _;rcases eR i n ys Hc wc with⟨stop,qn⟩|⟨go,step⟩
  .have hd:=T.done Y y1 y2 y3 (y4.trans hc) i [] s5 (w'++σ) Hc (λ_ _=>False) Z (mi frc) stc stop;rw[y5]at hd;refine ZU (wpAny_standAt (ZU (thn hd λr s6 hP=>?_)));obtain⟨hr,Z6⟩:=hP;subst hr;refine ZT ?_;obtain⟨m,iN,_⟩:=Z6.loc;rw[y6]at iN;have u6:=yb Z6;have hok:HOk X.prog X.w Hc s6.heap:=by
    have z:=Z6.hok;rw[y1,y2]at z;exact z
   have cn:Hc s3.heap.objs.size=none:=by
    have z:=Z6.free;rw[y6]at z;exact z
   have I6:Inv X aa σ Hc s6:=I3.call' (s':=s6) (ch:=fp) (yos Z6) u6 hok Z6.bare λb hb=>⟨(f3 b hb).2.2.2.1,(f3 b hb).2.1,(f3 b hb).2.2.2.2.1,(f3 b hb).2.2.2.2.2⟩;have fC:Ey X aa Hc s3.heap.objs.size:=I3.fpOk (aG _) cn;exact mB _ _ Hc s6 m _ iN I6 fC qn
  .have hd:=T.item Y y1 y2 y3 (y4.trans hc) i [] s5 (w'++σ) Hc (λ_ _=>False) Z (mi frc) stc go;rw[y5]at hd;refine ZU (wpAny_standAt (ZU (thn hd λr s6 hP=>?_)));obtain⟨u,hr,h6⟩:=hP;subst hr;refine ZU (thn h6 λ_ s7 hP=>?_);obtain⟨xv,H7,Z7,r7,yl,ko,fr7⟩:=hP;have Z7':=Z7.pinned (mi fr7) (T.obj _ _ ko);have b9:=k7 _ s7 _ H7 xv u _ Z7' r7 (step xv H7 yl w' hJ);rw[y1,y2,y5,jn]at b9;refine ZU (thn b9 λ_ s8 hP=>?_);obtain⟨σ8,H8,Z8,pre,eI,e8,q8⟩:=hP;subst e8;have hte:=ht' _ s8 _ H8 _ Z8 q8;rw[y1,y2,y5,jn]at hte;have bu:∀{m':Nat}{ja:Ζ}{H9:Hp}{s9:Shared},Inv Y ([]++Je fp s7.heap) (pre++σ) H9 s9->m'<n->W (i+1) m' ja H9->∃m,m<n/\∃i ys Hc,∃w':L2.St,w'.length=xs.length/\Inv Y [] (w'++σ) Hc s9/\tn i s9.heap/\(∀b∈fp,Hc b=none)/\W i m ys Hc:=λ{m' ja H9 s9}Z9 iO w9 =>
    ⟨m',iO,i+1,ja,H9,pre,eI,Z9.unpinned,T.keep _ _ _ ko λb hb o e=>(Z9.pin (b,o) (aP _ (aP _ (pN hb e)))).1,λb hb=>by
     obtain⟨o,e,_⟩:=T.obj _ _ ko b hb;exact(Z9.pin (b,o) (aP _ (aP _ (pN hb e)))).2.1,w9⟩
   refine ZU (thn hte λok s9 hP=>?_);obtain⟨H9,Z9,q9⟩:=hP;cases ok with
   |false =>
    obtain⟨m',iO,w9⟩:=q9;exact ZT ⟨rfl,bu Z9 iO w9⟩
   |true =>
    have hel:=he' _ s9 _ H9 _ Z9 q9;rw[y1,y2,y5,jn]at hel;refine ZU (ZU (thn hel λev s10 hP=>?_));obtain⟨yv,H10,Z10,r10,hz,l9,m',iO,w10⟩:=hP;have l6:=KJ (X:=Y) _ s10 _ H10 (.ref s2.heap.objs.size) [yv] (.ref s2.heap.objs.size) [ev] (λ_ Hf=>Hf=upd H10 s2.heap.objs.size (.lst (ys++[yv]))) Z10 rfl (.cons r10 .nil) ⟨_,ys,yv,rfl,rfl,l9,hz,rfl⟩;rw[y1,y2,y5,jn]at l6;refine ZU (thn l6 λav s11 hP=>?_);obtain⟨_,H11,Z11,_,e11⟩:=hP;subst e11;exact ZT (ZT ⟨rfl,bu Z11 iO w10⟩)
 have lh:Y.env=compEnvC scope (ext s3.heap.objs.size++uT X.env.cells scope.names []) s3.heap.objs.size X.env:=by subst hX;rfl
 rw[lh]at gz;exact codeAny_compStart_list (gz _ rfl) (T.self _ 0 _ _ _ (T.keep _ _ _ g6 λb _ o e=>kg b o e) (gz _ rfl))
theorem Rb{ext:Addr->List (Str×Addr)}{fn:Str->Bool}{xs N':Φ}{tg:Expr}{aI:List Expr}{gt:TG}{tc:TT}(E:Rt X scope xs ext fn)(hc:X.calm=true)(f8:Kv xs X.N=N')(ci:scope.kind=.function)(cK:∀y∈scope.names,y.2=.local->scope.names.lookup y.1=some .local)
 (cc:∀y∈scope.names,y.2=.free->X.env.kindOf y.1=some .cell\/X.env.kindOf y.1=some .free)(fc:∀y∈X.N,y∉xs->(relabel scope X.env).names.lookup y≠some .local)(hq:∀y∈X.N,y∈xs->(relabel scope X.env).names.lookup (hid y)=none)(hi:PI X tg iter wi)
 (hg:∀C s₀ H₀ ex pn,PG (X.compE ext fn N' scope xs C s₀ H₀ ex pn) tg gt)(ht:∀C s₀ H₀ ex pn,PTs (X.compE ext fn N' scope xs C s₀ H₀ ex pn) aI tc)(he:∀C s₀ H₀ ex pn,PE (X.compE ext fn N' scope xs C s₀ H₀ ex pn) a9 te)(hs:∀z,foldedSetIterable iter X.env z=pure z) :
  PE X (.ListComp a9 [⟨tg,iter,aI,0⟩] scope pos) (rE wi xs.length gt tc te):=by
 intro aa s σ H Q I h;rw[eval_ListComp];exact Kz E hc f8 ci cK cc fc hq hi hg ht he hs I h λC D Hc s6 m fl hn I6 fC q=>⟨m,hn,λh' kQ=>⟨.ref D,Hc,I6.turned (it:=C) (h':=h') (t':=s6.toks) (λb o hb e=>(kQ.2 b hb).trans e) fC.1 fC.2.1 fC.2.2.2.1 fC.2.2.2.2.1 fC.2.2.2.2.2,rfl,q⟩⟩
end
section
variable{κ:Type}[DecidableEq κ]
noncomputable def Iz(ar:List (κ×V))(k:κ):Option V:=(ar.find? λkv=>decide (kv.1=k)).map (·.2)
noncomputable def putK(ar:List (κ×V))(k:κ)(v:V):List (κ×V) :=
 if(ar.any λkv=>decide (kv.1=k))=true then ar.map (λkv=>if kv.1=k then(kv.1,v)else kv)else ar++[(k,v)]
theorem PX{p:κ×V}{r:List (κ×V)}{k:κ}(e:p.1=k):Iz (p::r) k=some p.2:=by simp[Iz,List.find?_cons,e]
theorem G6{p:κ×V}{r:List (κ×V)}{k:κ}(e:¬p.1=k):Iz (p::r) k=Iz r k:=by simp[Iz,List.find?_cons,e]
theorem Pu(ar:List (κ×V))(k:κ)(v:V):(putK ar k v).length<=ar.length+1:=by
 unfold putK;split
 .rw[ak];exact Xs _
 .rw[aA,List.length_cons,List.length_nil];exact aG _
theorem yF.isSome_eq{o:Option V}{u:Ω}(r:yF o u):o.isSome=u.isSome:=by
 cases o with
 |none=>cases u with
  |none=>rfl
  |some _=>exact(show False from r).elim
 |some _=>cases u with
  |none=>exact(show False from r).elim
  |some _=>rfl
theorem yF.getD{o:Option V}{u:Ω}{d:V}{d':Value}(r:yF o u)(rd:RelV d d'):RelV (o.getD d) (u.getD d'):=by
 cases o with
 |none=>cases u with
  |none=>exact rd
  |some _=>exact(show False from r).elim
 |some _=>cases u with
  |none=>exact(show False from r).elim
  |some _=>exact r
theorem KV.val{ar:List (κ×V)}{vs:List (κ×Value)}(r:KV ar vs)(k:κ):yF (Iz ar k) (valueAt vs k):=by
 unfold KV at r
 induction r with
 |nil=>exact True.intro
 |@cons p q ps qs h t ih =>
  obtain⟨h1,h2⟩:=h;by_cases e:p.1=k
  .have e':q.1=k:=h1.symm.trans e;have b:valueAt (q::qs) k=some q.2:=by simp[valueAt,List.find?_cons,e']
   rw[PX e,b];exact h2
  .have e':¬q.1=k:=λz=>e (h1.trans z);have b:valueAt (q::qs) k=valueAt qs k:=by simp[valueAt,List.find?_cons,e']
   rw[G6 e,b];exact ih
theorem KV.any{ar:List (κ×V)}{vs:List (κ×Value)}(r:KV ar vs)(k:κ):(ar.any λkv=>decide (kv.1=k))=vs.any λkv=>decide (kv.1=k):=by
 unfold KV at r
 induction r with
 |nil=>rfl
 |cons h t ih=>rw[List.any_cons,List.any_cons,ih,h.1]
theorem KV.repl{ar:List (κ×V)}{vs:List (κ×Value)}(r:KV ar vs)(k:κ){y:V}{u:Value}(ry:RelV y u) :
  KV (ar.map λkv=>if kv.1=k then(kv.1,y)else kv) (vs.map λkv=>if kv.1=k then(kv.1,u)else kv):=by
 unfold KV at r ⊢
 induction r with
 |nil=>exact .nil
 |@cons p q ps qs h t ih =>
  rw[List.map_cons,List.map_cons];refine .cons ?_ ih;obtain⟨h1,h2⟩:=h;by_cases e:p.1=k
  .rw[ZY e,ZY (h1.symm.trans e)];exact⟨h1,ry⟩
  .rw[ZZ e,ZZ (λz=>e (h1.trans z))];exact⟨h1,h2⟩
theorem KV.put{ar:List (κ×V)}{vs:List (κ×Value)}(r:KV ar vs)(k:κ){y:V}{u:Value}(ry:RelV y u):KV (putK ar k y) (stored vs k u):=by
 unfold putK stored;rw[r.any k];by_cases e:(vs.any λkv=>decide (kv.1=k))=true
 .rw[ZY e,ZY e];exact r.repl k ry
 .rw[ZZ e,ZZ e];exact Paired.snoc r ⟨rfl,ry⟩
theorem KV.length{ar:List (κ×V)}{vs:List (κ×Value)}(r:KV ar vs):ar.length=vs.length:=Paired.length r
end
theorem Rn{P:Program}{w:World}{k:Key}{u:Value}(r:RelV (kV k) u):(iQ P w).is k u=true:=by
 cases k with
 |inl i=>obtain⟨t,e⟩:=(show ∃t,u=Value.int i t from r);subst e;exact QL P w i t
 |inr x=>obtain⟨t,e⟩:=(show ∃t,u=Value.str x t from r);subst e;exact Rk P w x t
section
variable{P:Program}{w:World}{H:Hp}{h:Heap}{a:Addr}
theorem aiC{u:HO}(ok:HOk P w H h)(e:Rd H a u):fZ P w H h a u:=e.ok ok
theorem Ib{ar:List (Key×V)}(ok:HOk P w H h)(e:Rd H a (.dK ar)):ar.length<=sizeLine/\(a==sysModules)=false/\∃vs,KV ar vs/\h.DictOf (iQ P w) a vs :=
 show fZ P w H h a (.dK ar)from aiC ok e
theorem ahd{ar:List (Key×V)}(ok:HOk P w H h)(e:H a=some (.dK ar)):ar.length<=sizeLine/\(a==sysModules)=false/\∃vs,KV ar vs/\h.DictOf (iQ P w) a vs:=Ib ok (.inl e)
end
def Dz(H:Hp)(a:Addr)(y:V)(r:Option V):Prop :=
 (∃ar k,Rd H a (.dK ar)/\y=kV k/\r=Iz ar k)\/False
def agT(H:Hp)(a:Addr)(y v:V)(H':Hp):Prop :=
 (∃ar k,H a=some (.dK ar)/\y=kV k/\ar.length<sizeLine/\H'=upd H a (.dK (putK ar k v)))\/False
theorem Dz.k{H:Hp}{a:Addr}{ar:List (Key×V)}{k:Key}(e:H a=some (.dK ar)):Dz H a (kV k) (Iz ar k):=.inl ⟨ar,k,.inl e,rfl,rfl⟩
section
variable{X:Cx}{aa:Δ}{σ:St}{H:Hp}{s:Shared}{a:Addr}{y v:V}{u r:Value}{o:Option V}{A:Around}{E:Ε}
theorem Inv.big(I:Inv X aa σ H s):sysModules<s.heap.objs.size:=by
 have h:mainGlobals<s.heap.objs.size:=(I.mod.glob.keeps I.bk).lt;exact Tk (by decide) h
theorem WD{Q:Ε}(hu:A.units+1<cLine)(I:Inv X aa σ H s)(g:Dz H a y (some v))(ry:RelV y u)(h:∀w' s',Inv X aa σ H s'->RelV v w'->Q w' s') :
  wpAny (model X.prog X.w) A (getItem (.ref a) u) Q E s:=by
 rcases g with⟨ar,k,e,ey,l⟩|hF
 .subst ey;obtain⟨z,hd,vs,rel,dd⟩:=Ib I.hok e;obtain⟨w',hw,eS⟩:=yF.some_of (v:=v) (o:=valueAt vs k) (by rw[l];exact rel.val k);exact wpAny_getItem_of (Rn ry) dd.mapOf hw (h w' _ (I.tok _) eS)
 .exact hF.elim
theorem ane{Q:Ε}(hu:A.units+1<cLine)(I:Inv X aa σ H s)(g:Dz H a y o)(ry:RelV y u)(h:∀s',Inv X aa σ H s'->Q (.bool o.isSome) s') :
  wpAny (model X.prog X.w) A (compareOp .In u (.ref a)) Q E s:=by
 rcases g with⟨ar,k,e,ey,l⟩|hF
 .subst ey;obtain⟨z,hd,vs,rel,dd⟩:=Ib I.hok e;refine wpAny_in_of (Rn ry) hd dd.mapOf ?_;rw[<- (rel.val k).isSome_eq,<- l];exact h _ (I.tok _)
 .exact hF.elim
theorem acp{Q:Ε}(hu:A.units+1<cLine)(I:Inv X aa σ H s)(g:Dz H a y o)(ry:RelV y u)(h:∀s',Inv X aa σ H s'->Q (.bool (!o.isSome)) s') :
  wpAny (model X.prog X.w) A (compareOp .NotIn u (.ref a)) Q E s:=by
 rcases g with⟨ar,k,e,ey,l⟩|hF
 .subst ey;obtain⟨z,hd,vs,rel,dd⟩:=Ib I.hok e;refine wpAny_notIn_of (Rn ry) hd dd.mapOf ?_;rw[<- (rel.val k).isSome_eq,<- l];exact h _ (I.tok _)
 .exact hF.elim
theorem acF{h':Heap}{t':Nat}{ob:HO}(I:Inv X aa σ H s)(mu:Mut (H a))(hs:Heap.SameBut a s.heap h')(he:∃q,h'.get? a=some q)(new:fZ X.prog X.w (upd H a ob) h' a ob) :
  Inv X aa σ (upd H a ob) { s with heap:=h',toks:=t' } :=
 I.write (x:=a) (e:=a) mu (.inl rfl) (λb q hb z=>(hs.2 b hb).trans z) he new
theorem afg{P:Program}{w:World}{H':Hp}{h':Heap}{ar:List (Key×V)}{vs:List (Key×Value)}(z:ar.length<=sizeLine)(hd:(a==sysModules)=false)(rel:KV ar vs)(dd:h'.DictOf (iQ P w) a vs) :
  fZ P w H' h' a (.dK ar):=⟨z,hd,vs,rel,dd⟩
theorem W_{H':Hp}{Q:Unit->Shared->Prop}(hu:A.units+1<cLine)(I:Inv X aa σ H s)(g:agT H a y v H')(ry:RelV y u)(rv:RelV v r)(h:∀s',Inv X aa σ H' s'->Q () s') :
  wpAny (model X.prog X.w) A (setItem (.ref a) u r) Q E s:=by
 rcases g with⟨ar,k,e,ey,l,eH⟩|hF
 .subst ey eH;obtain⟨z,hd,vs,rel,dd⟩:=ahd I.hok e;have hz:vs.length<=sizeLine:=by rw[<- rel.length];exact z
  have hl:(putK ar k v).length<=sizeLine:=by have:=Pu ar k v;lia
  refine wpAny_setItem_pairs (hsz:=hz) (Rn ry) dd λh' dd' hs=>h _ ?_;have he:∃q,h'.get? a=some q:=by obtain⟨q,_,_,hq,_⟩:=dd';exact⟨q,hq⟩
  exact acF I (by rw[e];exact True.intro) hs he (afg hl hd (rel.put k rv) dd')
 .exact hF.elim
end
def aeL(i:Expr):Prop:=∀ov iv,subscripted i false ov iv=operate [ov,iv] (getItem ov iv)
theorem abo{prog:Program}{w:World}{A:Around}{E:Ε}{s:Shared}{env:Env}{aE bj:Expr}{pos:Pos}{T id:String}{Q:Ε}
 (hl:typeLookup (.type T) "__getitem__"=pure (some (.builtin id)))(hs:aeL bj)
 (h:wpAny (model prog w) A (eval aE env) (λo s₁=>wpAny (model prog w) A (eval bj env) (λi s₂=>s₂.TypeIs o T/\wpAny (model prog w) A (getItem o i) Q E s₂) E s₁) E s) :
  wpAny (model prog w) A (eval (.Subscript aE bj pos) env) Q E s:=by
 refine Subscript_ (wpAny_mono h (λo s₁ h₁=>wpAny_mono h₁ (λi s₂ h₂=>?_) λ_ _ x=>x) λ_ _ x=>x);obtain⟨hT,h₂⟩:=h₂;unfold subscriptTail;refine ZU ?_;rw[getitemInPython_of_ne hT.not_modules];refine ZU (wpAny_specialOf hT hl ?_);have bu:wpAny (model prog w) A (subscripted bj false o i) (λr s₃=>wpAny (model prog w) A (letTemporaryGo aE o r >>= λ_=>pure r) Q E s₃) E s₂:=by
  rw[hs o i];exact wpAny_operating (wpAny_mono h₂ (λr s₃ h₃=>ZU (wpAny_letTemporaryGo (ZT h₃))) λ_ _ x=>x)
 first
  |exact ZT (ZU bu)
  |exact ZU (ZT (ZU bu))
  |exact ZU bu
theorem Rq{X:Cx}{aa:Δ}{σ:St}{H:Hp}{s:Shared}{a:Addr}{y:V}{o:Option V}(I:Inv X aa σ H s)(g:Dz H a y o):s.TypeIs (.ref a) "dict":=by
 rcases g with⟨ar,k,e,_,_⟩|hF
 .obtain⟨_,_,vs,_,dd⟩:=Ib I.hok e;exact dd.typeIs
 .exact hF.elim
def aj2(td ty:TE):TE:=λσ H Q=>td σ H λx H1=>ty σ H1 λy H2=>∃a v,x=.ref a/\Dz H2 a y (some v)/\Q v H2
def amg(ty td:TE):TE:=λσ H Q=>ty σ H λy H1=>td σ H1 λx H2=>∃a o,x=.ref a/\Dz H2 a y o/\Q (.bl o.isSome) H2
def acG(ty td:TE):TE:=λσ H Q=>ty σ H λy H1=>td σ H1 λx H2=>∃a o,x=.ref a/\Dz H2 a y o/\Q (.bl (!o.isSome)) H2
def ail(td ty tv:TE):TS:=λD σ H=>tv σ H λv H1=>td σ H1 λx H2=>ty σ H2 λy H3=>∃a H4,x=.ref a/\agT H3 a y v H4/\D.nx σ H4
section
variable{X:Cx}{o i e aE:Expr}{pos br az:Pos}{td ty tv:TE}
theorem abw(hu:X.A.units+1<cLine)(ho:PE X o td)(hi:PE X i ty)(hs:aeL i):PE X (.Subscript o i pos) (aj2 td ty):=by
 intro aa s σ H Q I h;refine abo PySem.F.slot_dict_getitem.lookup hs (thn (ho aa s σ H _ I h) λu s1 ⟨x,H1,I1,rx,q1⟩=>thn (hi aa s1 σ H1 _ I1 q1) λiv s2 hP=>?_);obtain⟨y,H2,I2,ry,a,v,ex,g,q2⟩:=hP;subst ex;obtain rfl:u=Value.ref a:=rx;exact⟨Rq I2 g,WD hu I2 g ry λw' s3 I3 eS=>⟨v,H2,I3,eS,q2⟩⟩
theorem aeO(hu:X.A.units+1<cLine)(hi:PE X i ty)(ho:PE X o td):PC X .In i o (amg ty td):=by
 intro aa s σ H Q I h;refine thn (hi aa s σ H _ I h) λiv s1 ⟨y,H1,I1,ry,q1⟩=>thn (ho aa s1 σ H1 _ I1 q1) λu s2 hP=>?_;obtain⟨x,H2,I2,rx,a,ov,ex,g,q2⟩:=hP;subst ex;obtain rfl:u=Value.ref a:=rx;exact ane hu I2 g ry λs3 I3=>⟨.bl ov.isSome,H2,I3,rfl,q2⟩
theorem Xq(hu:X.A.units+1<cLine)(hi:PE X i ty)(ho:PE X o td):PC X .NotIn i o (acG ty td):=by
 intro aa s σ H Q I h;refine thn (hi aa s σ H _ I h) λiv s1 ⟨y,H1,I1,ry,q1⟩=>thn (ho aa s1 σ H1 _ I1 q1) λu s2 hP=>?_;obtain⟨x,H2,I2,rx,a,ov,ex,g,q2⟩:=hP;subst ex;obtain rfl:u=Value.ref a:=rx;exact acp hu I2 g ry λs3 I3=>⟨.bl (!ov.isSome),H2,I3,rfl,q2⟩
theorem abA(hu:X.A.units+1<cLine)(ho:PE X o td)(hi:PE X i ty)(hv:PE X aE tv)(hs:swapsWith aE (some (.Subscript o i br)) pos.line X.env=pure false) :
  PS X (.Assign [.Subscript o i br] aE pos) (ail td ty tv):=by
 intro aa s σ H D I h;refine wpAny_Assign_Subscript (thn (hv aa s σ H _ I h) λr s1 ⟨v,H1,I1,rv,q1⟩=>thn (ho aa s1 σ H1 _ I1 q1) λu s2 ⟨x,H2,I2,rx,q2⟩=>thn (hi aa s2 σ H2 _ I2 q2) λiv s3 hP=>?_) hs;obtain⟨y,H3,I3,ry,a,H4,ex,g,q3⟩:=hP;subst ex;obtain rfl:u=Value.ref a:=rx;exact W_ hu I3 g ry rv λs4 I4=>⟨σ,H4,I4,q3⟩
end
theorem aa5{P:Program}{w:World}{H:Hp}(h:Heap)(hb:sysModules<h.objs.size):fZ P w H (h.push { cls:=.type "dict",data:=.dict #[] }) h.objs.size (.dK []) :=
 ⟨aZ _,beq_eq_false_iff_ne.mpr (Ne.symm (aQ hb)),[],.nil,Heap.DictOf.new h⟩
def afL:TE:=λ_ H Q=>∀p,H p=none->Q (.ref p) (upd H p (.dK []))
section
variable{X:Cx}{pos:Pos}
theorem aaQ:PE X (.Dict [] [] pos) afL:=λaa s σ H Q I h =>
 wpAny_Dict_empty ⟨.ref s.heap.objs.size,_,I.laid (a:=s.heap.objs.size) (o:=.dK []) (t':=s.toks) (λ_ _ q=>aH _ q) (aG _) (aa5 s.heap I.big),rfl,h _ (I.hok.fresh (aG _))⟩
end
abbrev VV:List (V×V)->List (Value×Value)->Prop:=Paired λp q=>RelV p.1 q.1/\RelV p.2 q.2
structure M2(X:Cx)(o:Expr)(m:Str)(am:Pos)(e f:Expr)(af:Pos):Prop where
 base:attributeBase o m X.env (eval o X.env)=eval o X.env
 few:((backTo af (starEach [e,f] X.env)).all (λx=>!x.1)&&(backToKw af (keywordEach [] X.env)).all (λx=>x.1.isSome)
  && decide (([e,f] : List Expr).length+([] : List Keyword).length+(if([] : List Keyword).isEmpty then 0 else 1)<30))=true
 line:(am.endLine==af.line)=true
 trees:backTo af (starEach [e,f] X.env)=[(false,eval e X.env),(false,eval f X.env)]
def IsD(H:Hp)(a:Addr):Prop:=(∃ar,Rd H a (.dK ar))\/False
theorem afw{X:Cx}{aa:Δ}{σ:St}{H:Hp}{s:Shared}{a:Addr}(I:Inv X aa σ H s)(d:IsD H a) :
  s.TypeIs (.ref a) "dict"/\(∀b,Value.ref a=.ref b->∃ob,s.heap.get? b=some ob/\ob.dict=none)/\(a==sysModules)=false:=by
 rcases d with⟨ar,e⟩|hF
 .obtain⟨_,hd,vs,_,dd⟩:=Ib I.hok e;refine⟨dd.typeIs,λb q=>?_,hd⟩;cases q;obtain⟨ob,_,_,h1,h2,_⟩:=dd;exact⟨ob,h1,h2.2.1⟩
 .exact hF.elim
section
variable{X:Cx}{aa:Δ}{σ:St}{H:Hp}{s:Shared}{a:Addr}{y d:V}{u r:Value}{o:Option V}{A:Around}{E:Ε}
theorem ago{Q:Ε}(hu:A.units+1<cLine)(I:Inv X aa σ H s)(g:Dz H a y o)(ry:RelV y u)(rd:RelV d r)(h:∀w' s',Inv X aa σ H s'->RelV (o.getD d) w'->Q w' s') :
  wpAny (model X.prog X.w) A (call (.builtin "dict.get") [.ref a,u,r]) Q E s:=by
 rcases g with⟨ar,k,e,ey,l⟩|hF
 .subst ey;obtain⟨z,hd,vs,rel,dd⟩:=Ib I.hok e;refine call_meetsIn PySem.F.slot_dict_get dd.typeIs PySem.F.entry_dict_get (PySem.F.args_dict_get_3 _ _ _) (meets_dict_get_default (iQ X.prog X.w) a (Rn ry) hd r) ⟨_,dd.mapOf,h _ _ (I.tok _) ?_⟩;rw[l];exact(rel.val k).getD rd
 .exact hF.elim
end
def ael(td ty tx:TE):TE:=λσ H Q=>td σ H λx H1=>∃a,x=.ref a/\IsD H1 a/\ty σ H1 λy H2=>tx σ H2 λz H3=>∃o,Dz H3 a y o/\Q (o.getD z) H3
section
variable{X:Cx}{o e f:Expr}{am af:Pos}{td ty tx:TE}
theorem aaF(hu:X.A.units+1<cLine)(ho:PE X o td)(he:PE X e ty)(hf:PE X f tx)(m:M2 X o "get" am e f af):PE X (.Call (.Attribute o "get" am) [e,f] [] af) (ael td ty tx):=by
 intro aa s σ H Q I h;refine wpAny_Call_method m.base m.few m.line PySem.F.plainAttrs_dict PySem.F.slot_dict_get PySem.F.type_dict_get (thn (ho aa s σ H _ I h) λu s1 hP=>?_);obtain⟨x,H1,I1,rx,a,ex,d,q1⟩:=hP;subst ex;obtain rfl:u=Value.ref a:=rx;obtain⟨t1,t2,_⟩:=afw I1 d;refine⟨t1,t2,?_⟩;rw[m.trees];refine Calls.callWith_builtin rfl (Calls.evalArgs_plain (Calls.spliced_cons (thn (he aa s1 σ H1 _ I1 q1) λiv s2 ⟨y,H2,I2,ry,q2⟩ =>
  Calls.spliced_cons (thn (hf aa s2 σ H2 _ I2 q2) λfv s3 ⟨z,H3,I3,rz,ov,g,q3⟩=>Calls.spliced_nil ?_))))
 exact ago hu I3 g ry rz λw' s4 I4 eS=>⟨_,H3,I4,eS,q3⟩
end
def Itk(a:Addr)(o:Obj)(ar:List (Key×V)):It:=⟨λi H=>H a=some (.frz o (.dK ar))/\i<ar.length,λi H v H'=>H'=H/\∃k y,ar[i]?=some (k,y)/\v=kV k,λi H=>H a=some (.frz o (.dK ar))/\i=ar.length⟩
theorem akM{P:Program}{w:World}{k:Key}{u:Value}(h:(iQ P w).is k u=true):RelV (kV k) u:=by
 have h:z_ k u=true:=h;cases k with
 |inl i =>
  cases u<;>simp[z_,Value.isInt]at h
  .subst h;exact⟨_,rfl⟩
 |inr x =>
  cases u<;>simp[z_,Value.isStrOf]at h
  .subst h;exact⟨_,rfl⟩
theorem KV.at{κ:Type}{ar:List (κ×V)}{vs:List (κ×Value)}(r:KV ar vs):∀{i:Nat}{k:κ}{y:V},ar[i]?=some (k,y)->∃u,vs[i]?=some (k,u)/\RelV y u:=by
 unfold KV at r
 induction r with
 |nil=>intro i k y h;cases h
 |@cons p q ps qs h t ih =>
  intro i k y e;cases i with
  |zero =>
   rw[List.getElem?_cons_zero]at e;cases e;obtain⟨q1,q2⟩:=q;obtain⟨h1,h2⟩:=h;cases h1;exact⟨q2,rfl,h2⟩
  |succ i =>
   rw[List.getElem?_cons_succ]at e ⊢;exact ih e
theorem Wv{P:Program}{w:World}{K:Frag}{tg:Expr}(it a:Addr)(o:Obj)(ar:List (Key×V))(vs:List (Key×Value))(ep:Nat)(rel:KV ar vs)(hD:∀h:Heap,h.get? a=some o->h.DictAt (iQ P w) a vs ep) :
  Turn P w K tg (Itk a o ar) [it] it (λi h=>h.IsKeyIter it a i vs.length ep) where
 mem:=by simp
 obj:=λi h st b hb=>by
  have e:b=it:=by simpa using hb
  subst e;obtain⟨o,ho,_,hd⟩:=st;exact⟨o,ho,λv z=>by rw[hd]at z;cases z⟩
 keep:=λi h h' st k=>let⟨o,ho,r⟩:=st;⟨o,k it (by simp) o ho,r⟩
 item:=by
  intro X hP hw hK hc i aa s σ H E I hf st hg;subst hP hw hK;obtain⟨hg,fx⟩:=hg;obtain⟨ho,_⟩:=(show fZ X.prog X.w H s.heap a (.frz o (.dK ar))from I.hok a _ hg);obtain⟨f0,f1,f2,f3,f4,f5⟩:=hf it (by simp);obtain⟨⟨k,y⟩,hx⟩ : ∃p,ar[i]?=some p:=⟨ar[i],by simp[fx]⟩;obtain⟨u,hu,ru⟩:=rel.at hx;refine wpAny_pyNext_dict_item st (hD _ ho) hu λdf h' gS dv sb=>?_;have I1:Inv X aa σ H { s with heap:=h' }:=I.turned (t':=s.toks) (λb ob hb e=>(sb.2 b hb).trans e) f0 f1 f3 f4 f5;obtain⟨oi,e,c,d⟩:=id dv;exact⟨df,rfl,Vf (s:={ s with heap:=h' }) e c d (by decide) ⟨kV k,H,I1,akM gS,⟨rfl,k,y,hx,rfl⟩,dv,λb hb=>(hf b hb).1⟩⟩
 done:=by
  intro X hP hw hK hc i aa s σ H E I hf st hg;subst hP hw hK;obtain⟨hg,rfl⟩:=hg;obtain⟨ho,_⟩:=(show fZ X.prog X.w H s.heap a (.frz o (.dK ar))from I.hok a _ hg);obtain⟨f0,f1,f2,f3,f4,f5⟩:=hf it (by simp);have hl:=rel.length;exact wpAny_pyNext_dict_end (I.ok.hd hc) st (hD _ ho) (by simp;exact WG (Eq.symm hl)) λh' eb=>⟨rfl,I.turned (t':=s.toks) (λb ob hb e=>eb b ob hb e) f0 f1 f3 f4 f5⟩
 self:=λ_ _ _ _ _ st h=>wpAny_pyIter_keyiter st h
section
variable{X:Cx}{tg:Expr}
def aib(te:TE):TI:=λσ H R=>te σ H λx H1=>∃a ar,x=.ref a/\H1 a=some (.dK ar)/\∀o,R (Itk a o ar) (upd H1 a (.frz o (.dK ar)))
theorem abl{l:Expr}{tl:TE}(hl:PE X l tl):PI X tg l (aib tl):=by
 intro aa s σ H R I h;refine thn (hl aa s σ H _ I h) λv s1 hP=>?_;obtain⟨x,H1,I1,r1,a,ar,ex,ha,q⟩:=hP;subst ex;cases r1;have ok:=(show fZ X.prog X.w H1 s1.heap a (.dK ar)from I1.hok a _ ha);obtain⟨z,hd,vs,rel,o,es,ep,e,ex,ed,ek,epr,en⟩:=ok;have hD:∀h:Heap,h.get? a=some o->h.DictAt (iQ X.prog X.w) a vs ep:=λh e=>⟨o,es,e,ex,ed,ek,epr,en⟩;have I2:Inv X aa σ (upd H1 a (.frz o (.dK ar))) s1:=by
  have:=I1.write (x:=a) (e:=a) (o:=.frz o (.dK ar)) (h':=s1.heap) (t':=s1.toks) (by rw[ha];exact True.intro) (.inl rfl) (λb u hb z=>z) ⟨o,e⟩ ⟨e,z,hd,vs,rel,o,es,ep,e,ex,ed,ek,epr,en⟩;exact this
 refine wpAny_pyIter_dict hd (hD _ e) ?_;refine⟨s1.heap.objs.size,[s1.heap.objs.size],_,Itk a o ar,_,rfl,I2.kept (t':=s1.toks) λb ob z=>aH _ z,Wv _ a o ar vs ep rel hD,⟨_,aW _ rfl,rfl,rfl⟩,λb hb=>?_,q o⟩;have e:b=s1.heap.objs.size:=by simpa using hb
 subst e;exact I2.fpOk (aG _) (I2.hok.fresh (aG _))
def tMG(g:TG):TG:=λv σ H Q=>∃R:L2.St->Hp->Prop,g v σ H R/\∀σ' H',R σ' H'->Q σ' H'
def tMT(t:TT):TT:=λσ H Q=>∃R:Bool->Hp->Prop,t σ H R/\∀b H',R b H'->Q b H'
theorem PG.mono{e:Expr}{g:TG}(h:PG X e g):PG X e (tMG g):=λaa s σ H v u Q I r hP=>by obtain⟨R,h1,h2⟩:=hP;exact thn (h aa s σ H v u R I r h1) λ_ s' hP=>by obtain⟨σ',H',I',q⟩:=hP;exact⟨σ',H',I',h2 σ' H' q⟩
theorem PTs.mono{aI:List Expr}{t:TT}(h:PTs X aI t):PTs X aI (tMT t):=λaa s σ H Q I hP=>by obtain⟨R,h1,h2⟩:=hP;exact thn (h aa s σ H R I h1) λb s' hP=>by obtain⟨H',I',q⟩:=hP;exact⟨H',I',h2 b H' q⟩
end
structure Eh(K:Frag)(B:Addr)(m:Str)(f:Addr):Prop where
 ga:specialIn K (.ref B) "__getattribute__"=some (some (.builtin "type.__getattribute__"))
 rd:readsIn K B (.type "type")=true
 at_:findCls K (.ref B) (.type "type") m=some (.val (.ref f))
 hd:handedIn (.ref f)=true
 kp:keepIn K (.ref f)=true
section
variable{X:Cx}{k:Nat}{f B:Addr}{fd:FuncData}{ps:Φ}{sp:Sp}{c6:Ζ}{ds:Θ}{x m:Str}{p pos am:Pos}{e:Expr}{es:List Expr}{t:TA}{Ex:Value->Ξ->L2.St->Hp->Prop}
theorem Eh.get{aa:Δ}{σ:L2.St}{H:Hp}{s:Shared}{pl:Sem Bool}{A:Around}{E:Ε}{Q:Value×Θ->Shared->Prop}(c:Eh X.K B m f)(I:Inv X aa σ H s)(h:∀t,Q (.ref f,[]) { s with toks:=t }) :
  wpAny (model X.prog X.w) A (getMethod (.ref B) m pl) Q E s :=
 PySem.W.method_cls I.kIn c.ga (PySem.W.cls_value I.kIn c.rd c.at_ c.hd (h _))
theorem abG{pl:Sem Bool}(c:Eh X.K B m f)(F:cj X.prog X.w X.K X.mg X.base CX0 k f fd ps sp)(hr:fD k X.A)(hg:Gl X x)(hm:X.mg x=some (.ref B))(hb:Binds X.K fd ps [])(ha:PA X (e::es) t)(ce:(x==("__debug__":Str))=false:=by decide)
 (b9:starEach (e::es) X.env=(false,eval e X.env)::starEach es X.env:=by rfl)(bi:(backTo pos (starEach es X.env)).any (·.1)=false:=by rfl)
 (ht:eval (.Call (.Attribute (.Name x p) m am) (e::es) [] pos) X.env=(do
   let ov <- eval (.Name x p) X.env
   standAt am.atName
   let(f,first) <- holding [ov] (getMethod ov m pl)
   callWith pos f first (backTo pos (starEach (e::es) X.env)) (backToKw pos (keywordEach [] X.env))):=by rfl) :
  PE X (.Call (.Attribute (.Name x p) m am) (e::es) [] pos) (Tj sp t):=by
 intro aa s σ H Q I h;refine methodCall_KW (pl:=pl) (Gq I hg hm (c.get I λtk=>?_) ce) ht;refine callWith_K (first:=[]) (h₀:=X.base) I.ok.mod.kin c.kp (thn (ha pos aa _ σ H _ (I.tok tk) h) λus s2 ⟨vs,H2,I2,r,q2⟩=>⟨I2.kIn,?_⟩) b9 bi;exact LQ (us:=us) (vs:=vs) F hr hb .nil PL I2 r (by rw[List.append_nil];exact q2)
end
theorem Same.tup{K:Frag}{H H':Hp}{a:Addr}{xs:Ζ}(e:Same H H')(h:SqT K H a xs):SqT K H' a xs:=by
 rcases h with(h|⟨o,h⟩)|h
 .exact .inl (.inl (e _ _ h))
 .exact .inl (.inr ⟨o,e _ _ h⟩)
 .exact .inr h
mutual
inductive f9(K:Frag)(H:Hp):V->PyData->Prop
 |non:f9 K H .non .none
 |bl (b:Bool):f9 K H (.bl b) (.bool b)
 |int (i:Int):f9 K H (.int i) (.int i)
 |str (x:Str):f9 K H (.str x) (.str x)
 |lst {a:Addr}{xs:Ζ}{ds:List PyData} : H a=some (.lst xs)->eG K H xs ds->f9 K H (.ref a) (.list ds)
 |tup {a:Addr}{xs:Ζ}{ds:List PyData} : SqT K H a xs->eG K H xs ds->f9 K H (.ref a) (.tuple ds)
inductive eG(K:Frag)(H:Hp):Ζ->List PyData->Prop
 |nil:eG K H [] []
 |cons {x:V}{xs:Ζ}{d:PyData}{ds:List PyData} : f9 K H x d->eG K H xs ds->eG K H (x::xs) (d::ds)
end
mutual
theorem f9.same{K:Frag}{H H':Hp}(S:Same H H'):∀{x:V}{d:PyData},f9 K H x d->f9 K H' x d
 |_,_,.non=>.non
 |_,_,.bl b=>.bl b
 |_,_,.int i=>.int i
 |_,_,.str x=>.str x
 |_,_,.lst e h=>.lst (S _ _ e) (eG.same S h)
 |_,_,.tup e h=>.tup (S.tup e) (eG.same S h)
theorem eG.same{K:Frag}{H H':Hp}(S:Same H H'):∀{xs:Ζ}{ds:List PyData},eG K H xs ds->eG K H' xs ds
 |_,_,.nil=>.nil
 |_,_,.cons h t=>.cons (f9.same S h) (eG.same S t)
end
section
variable{X:Cx}{aa:Δ}{σ:L2.St}{H:Hp}{s:Shared}
mutual
theorem Inv.readsK(I:Inv X aa σ H s):∀{x:V}{d:PyData}{v:Value},f9 X.K H x d->RelV x v->∃as,Reads s.heap v d as
 |_,_,_,.non,r=>by cases r;exact⟨_,.none⟩
 |_,_,_,.bl b,r=>by cases r;exact⟨_,.bool b⟩
 |_,_,_,.int i,r=>by obtain⟨t,rfl⟩:=r;exact⟨_,.int i t⟩
 |_,_,_,.str x,r=>by obtain⟨t,rfl⟩:=r;exact⟨_,.str x t⟩
 |_,_,_,.lst e h,r=>by
  cases r;obtain⟨its,rv,⟨o,ho,hc,n,hd⟩⟩:=I.lstIs e;obtain⟨as,q⟩:=Inv.readsAllK I h rv;exact⟨_,.list ho hc hd q⟩
 |_,_,_,.tup e h,r=>by
  cases r;obtain⟨its,rv,⟨o,ho,hc,n,hd⟩,_⟩:=I.tuple e;obtain⟨as,q⟩:=Inv.readsAllK I h rv;exact⟨_,.tuple ho hc hd q⟩
theorem Inv.readsAllK(I:Inv X aa σ H s):∀{xs:Ζ}{ds:List PyData}{vs:Θ},eG X.K H xs ds->Vals xs vs->∃as,ReadsAll s.heap vs ds as
 |_,_,_,.nil,r=>by cases r;exact⟨_,.nil⟩
 |_,_,_,.cons h t,r=>by
  cases r with
  |cons r1 r2 =>
   obtain⟨a,q1⟩:=Inv.readsK I h r1;obtain⟨b,q2⟩:=Inv.readsAllK I t r2;exact⟨_,.cons q1 q2⟩
end
def afG(K:Frag)(neg:Bool):R2:=λx y H Q=>∃d e,f9 K H x d/\f9 K H y e/\SeqAt.shaped d=true/\SeqAt.shaped e=true/\Q (.bl (if neg then !PyData.eqv d e else PyData.eqv d e)) H
theorem af7(hu:X.A.units+64<cLine):OpR X (compareOp .Eq) (afG X.K false):=by
 intro aa s σ H x y v u Q I rx ry h;obtain⟨d,e,hd,he,sd,se,q⟩:=h;obtain⟨as,ra⟩:=I.readsK hd rx;obtain⟨bs,rb⟩:=I.readsK he ry;exact SeqAt.compareEq_shaped ra rb sd se hu ⟨.bl _,H,I,rfl,q⟩
theorem aex(hu:X.A.units+64<cLine):OpR X (compareOp .NotEq) (afG X.K true):=by
 intro aa s σ H x y v u Q I rx ry h;obtain⟨d,e,hd,he,sd,se,q⟩:=h;obtain⟨as,ra⟩:=I.readsK hd rx;obtain⟨bs,rb⟩:=I.readsK he ry;exact SeqAt.compareNe_shaped ra rb sd se hu ⟨.bl _,H,I,rfl,q⟩
end
section
variable{X:Cx}
def abY(K:Frag):Ζ->Hp->VK->Prop:=λxs H Q=>∃p T ys,xs=[.ref p,.ty T]/\T∈["bool","int","str","list","tuple","dict"]/\SqT K H p ys/\Q (.bl (K3 "tuple" T)) H
theorem QX:jk X (.builtin "isinstance") (abY X.K):=by
 intro aa s σ H xs us Q I r h;obtain⟨p,T,ys,rfl,hT,hp,q⟩:=h;obtain⟨u,v,rfl,ru,rv⟩:=r.two;cases ru;cases rv;obtain⟨its,rvs,⟨o,ho,hc,n,hd⟩,_⟩:=I.tuple hp;refine kia_one (kitx_tuple (a:=p)) I.kIn ⟨o,ho,hc⟩ (Wk (K:=X.K) (t:="tuple") (by decide) hT) (λz=>nomatch z) λtk=>⟨.bl _,H,I.tok _,rfl,q⟩
end
def OkI(P:Program)(w:World)(K:Frag)(mg:Str->Ω)(base:Heap)(CX:CXT)(k:Nat)(f:Addr)(ps:Φ)(sp:Sp):Prop:=∃fd,cj P w K mg base CX k f fd ps sp/\Binds K fd ps []
def zA(K:Frag)(x ai:Str)(st:Stmt)(ps:Φ)(f:Addr):Prop:=∃fd,Fun K x ai st f fd/\∀us:Θ,us.length=ps.length->bindArgs fd ⟨us,[]⟩=pure (ps.zip us)
theorem zA.ok{P:Program}{w:World}{K:Frag}{mg:Str->Ω}{base:Heap}{CX:CXT}{k:Nat}{x ai:Str}{st:Stmt}{ps:Φ}{f:Addr}{sp:Sp}(h:zA K x ai st ps f)(hf:∀fd,Fun K x ai st f fd->cj P w K mg base CX k f fd ps sp):OkI P w K mg base CX k f ps sp :=
 by obtain⟨fd,a,b⟩:=h;exact⟨fd,hf fd a,.all b⟩
theorem abX{K:Frag}{x ai:Str}{st:Stmt}{ps:Φ}{f:Addr}{oc:Value}{od an:Ξ}{dQ:Array (Ω)}{kV bE pm ag ct:Value}
 (l:K.lookup f=some ⟨oc,od,.func (PySem.W.fnOf x ai (iU st) (fL st) (bH st) .none kV bE pm an ag ct),dQ⟩)(c:codeIn K ag ai=true)(k:keepIn K (.ref f)=true)
 (hb:∀(kV bE pm:Value)(an:Ξ)(ag ct:Value)(us:Θ),us.length=ps.length->bindArgs (PySem.W.fnOf x ai (iU st) (fL st) (bH st) .none kV bE pm an ag ct) ⟨us,[]⟩=pure (ps.zip us)):zA K x ai st ps f :=
 ⟨_,Yk l c k,hb kV bE pm an ag ct⟩
section
variable{X:Cx}{k:Nat}{f C B:Addr}{ps:Φ}{sp:Sp}{x m:Str}{p pos am:Pos}{e o:Expr}{es:List Expr}{ta:TE}{t:TA}{Ex:Value->Ξ->L2.St->Hp->Prop}
def aax(C:Addr)(m:Str)(sp:Sp)(ta:TE)(t:TA):TE:=λσ H Q=>ta σ H λx H1=>∃a dx fs,x=.ref a/\H1 a=some (.ins C dx fs)/\fs.lookup m=none/\t σ H1 λvs H2=>sp (x::vs) H2 Q E0
theorem Zh{pl:Sem Bool}(he:PE X o ta)(c:Cls X.K C)(hm:Meth X.K C m f)(G:OkI X.prog X.w X.K X.mg X.base CX0 k f ps sp)(hr:fD k X.A)(ha:PA X (e::es) t)
 (b9:starEach (e::es) X.env=(false,eval e X.env)::starEach es X.env:=by rfl)(bi:(backTo pos (starEach es X.env)).any (·.1)=false:=by rfl)
 (ht:eval (.Call (.Attribute o m am) (e::es) [] pos) X.env=(do
   let ov <- eval o X.env
   standAt am.atName
   let(f,first) <- holding [ov] (getMethod ov m pl)
   callWith pos f first (backTo pos (starEach (e::es) X.env)) (backToKw pos (keywordEach [] X.env))):=by rfl) :
  PE X (.Call (.Attribute o m am) (e::es) [] pos) (aax C m sp ta t):=by
 obtain⟨fd,F,hb⟩:=G;refine(adE (pl:=pl) he.mono c hm F hr hb .nil PL ha.mono b9 bi ht).imp λσ H Q h=>⟨_,h,?_⟩;rintro x H1 ⟨a,dx,fs,h1,h2,h3,h4⟩;refine⟨a,dx,fs,h1,h2,h3,_,h4,λvs H2 q=>?_⟩;show sp (x::(vs++[])) H2 Q E0;rw[List.append_nil];exact q
theorem Wu{pl:Sem Bool}(he:PE X o ta)(c:Cls X.K C)(hm:Meth X.K C m f)(G:OkI X.prog X.w X.K X.mg X.base CX0 k f ps sp)(hr:fD k X.A)
 (ht:eval (.Call (.Attribute o m am) [] [] pos) X.env=(do
   let ov <- eval o X.env
   standAt am.atName
   let(f,first) <- holding [ov] (getMethod ov m pl)
   callWith pos f first (backTo pos (starEach [] X.env)) (backToKw pos (keywordEach [] X.env))):=by rfl) :
  PE X (.Call (.Attribute o m am) [] [] pos) (aax C m sp ta aeB):=by
 obtain⟨fd,F,hb⟩:=G;refine(YK (pl:=pl) he.mono c hm F hr hb .nil PL ht).imp λσ H Q h=>⟨_,h,?_⟩;rintro x H1 ⟨a,dx,fs,h1,h2,h3,h4⟩;exact⟨a,dx,fs,h1,h2,h3,h4⟩
theorem Y_{D:Addr}{pos:Pos}(hg:Gl X x)(hm:X.mg x=some (.ref D))(hd:(x==("__debug__":Str))=false:=by decide):PE X (.Name x pos) (tC (.ref D)):=Wm hg hm rfl hd
end
theorem Kf{h:Heap}{o ob:Obj}{b:Addr}(e:(h.push o).get? b=some ob)(hs:b≠h.objs.size):h.get? b=some ob:=by
 obtain⟨e1,e2⟩:=Heap.get?_some_iff.mp e;refine Heap.get?_some_iff.mpr ⟨?_,e2⟩;cases h;simpa[Heap.push,Array.getElem?_push,hs]using e1
section
variable{X:Cx}
theorem QB:∀{ys:Φ}{vs:Θ},Vals (ys.map V.str) vs->StrsAre vs ys
 |[],_,h=>by cases h;exact .nil
 |y::ys,_,h=>by
  rw[List.map_cons]at h;cases h with
  |cons a b =>
   obtain⟨t,rfl⟩:=a;exact .cons y t (QB b)
def rJoin:V->Ζ->Hp->VK->Prop:=λx vs H Q=>∃a l ys,x=.str a/\vs=[.ref l]/\H l=some (.lst (ys.map V.str))/\(ys.map (·.length)).sum+ys.length*a.length<=16777216/\Q (.str (Txt.join a ys)) H
theorem adB:MtM X "str.join" rJoin:=by
 intro aa s σ H x vs v us Q I rx rv h;obtain⟨a,l,ys,rfl,rfl,hl,hz,q⟩:=h;obtain⟨t,rfl⟩:=rx;obtain⟨u,rfl,ru⟩:=rv.one;cases ru;obtain⟨_,its,n,r,_,e⟩:=I.lstM hl;exact join_list ⟨_,e,rfl,n,rfl⟩ (by simpa using QB r) hz λt' k=>⟨.str _,H,I.tok _,⟨_,rfl⟩,q⟩
end
section
variable{X:Cx}{a9 iter:Expr}{pos:Pos}{scope:Scope}{wi:TI}{te:TE}
theorem Zt{ext:Addr->List (Str×Addr)}{fn:Str->Bool}{i0:Nat}{y0:Str}{py b8:Pos}{xs N':Φ}{tg:Expr}{aI:List Expr}{gt:TG}{tc:TT}(E:Rt X scope xs ext fn)(hc:X.calm=true)(f8:Kv xs X.N=N')(ci:scope.kind=.function)(cK:∀y∈scope.names,y.2=.local->scope.names.lookup y.1=some .local)
 (cc:∀y∈scope.names,y.2=.free->X.env.kindOf y.1=some .cell\/X.env.kindOf y.1=some .free)(fc:∀y∈X.N,y∉xs->(relabel scope X.env).names.lookup y≠some .local)(hq:∀y∈X.N,y∈xs->(relabel scope X.env).names.lookup (hid y)=none)(hi:PI X tg iter wi)
 (hg:∀C s₀ H₀ ex pn,PG (X.compE ext fn N' scope xs C s₀ H₀ ex pn) tg gt)(ht:∀C s₀ H₀ ex pn,PTs (X.compE ext fn N' scope xs C s₀ H₀ ex pn) aI tc)(he:∀C s₀ H₀ ex pn,PE (X.compE ext fn N' scope xs C s₀ H₀ ex pn) a9 te)(fy:PG X (.Name y0 py) (yS i0))(fr:swapsWith (.ListComp a9 [⟨tg,iter,aI,0⟩] scope pos) (some (.Name y0 py)) b8.line X.env=pure true)(hs:∀z,foldedSetIterable iter X.env z=pure z) :
  PS X (.Assign [.Name y0 py] (.ListComp a9 [⟨tg,iter,aI,0⟩] scope pos) b8) (abt (rE wi xs.length gt tc te) (yS i0)):=by
 intro aa s σ H D0 I h;have h:rE wi xs.length gt tc te σ H (λx H1=>yS i0 x σ H1 D0.nx):=h;rw[exec_Assign_Name_used _ _ _ _ fr];refine ZU (wpAny_standAt (ZU ?_));show wpAny _ X.A (comprehension (.ListComp a9 [⟨tg,iter,aI,0⟩] scope pos) scope X.env _ (newList []) false (eval iter X.env) (some (assign (.Name y0 py) X.env)) >>= λ_=>_) _ _ s;refine ZU (wpAny_mono (Kz (use:=some (assign (.Name y0 py) X.env)) (post:=λ_ s'=>SP X aa D0 .next s') E hc f8 ci cK cc fc hq hi hg ht he hs I h λC D Hc s6 m fl iN I6 fC qn=>?_) (λ_ s' hq=>ZT (ZT hq)) λ_ _ e=>e);obtain⟨oc,es,ep,ho,lv,_⟩:=id iN;have I7:=I6.pinned (fp:=[C]) (λb hb=>by rw[YR.mp hb];exact fC) λb hb=>by
  rw[YR.mp hb];exact⟨oc,ho,λv z=>by rw[lv]at z;cases z⟩
 show wpAny _ X.A (assign (.Name y0 py) X.env _) _ _ s6;refine thn (fy _ s6 σ Hc (.ref D) _ D0.nx I7 rfl qn) λ_ s7 hP=>?_;obtain⟨σ7,H7,Z7,q7⟩:=hP;have pn7:=Z7.pin (C,oc) (aP _ (aP _ (pN (by simp) ho)));refine⟨m,iN.at' λo e=>?_,λh' kQ=>⟨σ7,H7,Z7.unpinned.turned (it:=C) (h':=h') (t':=s7.toks) (λb o hb e=>(kQ.2 b hb).trans e) pn7.2.1 fC.2.1 fC.2.2.2.1 fC.2.2.2.2.1 fC.2.2.2.2.2,q7⟩⟩;rw[ho]at e;cases e;exact pn7.1
end
section
variable{X:Cx}{aa:Δ}{σ:L2.St}{H:Hp}{s:Shared}{h':Heap}
theorem Inv.turnedL{t':Nat}{ch:Ψ}(I:Inv X aa σ H s)(k:∀b o,b∉ch->s.heap.get? b=some o->h'.get? b=some o)(hf:∀b∈ch,Ey X aa H b):Inv X aa σ H { s with heap:=h',toks:=t' }:=by
 have ik:∀b u,H b=some u->b∉ch:=λb u e z=>by rw[(hf b z).1]at e;cases e
 refine I.step (g':=s.gens) (d':=s.drawn) (ch:=ch) (λb hb=>⟨(hf b hb).2.2.2.1,(hf b hb).2.1,(hf b hb).2.2.2.2.1,(hf b hb).2.2.2.2.2⟩) (λb o _ _ hc e _=>k b o hc e) (λb o _ _ hc e _=>⟨o.slots,k b o hc e⟩) (λ_ _ _ _ n=>n) (λb o hc e=>⟨o,k b o hc e⟩) (λ_ _ e=>e) (λ_ _ _ e=>e) (λb ps e=>⟨#[],by rw[e];simp⟩) (λm hm=>?_) (λb u e=>?_) I.bare
 .obtain⟨o,es,ep,ho,r⟩:=hm;exact⟨o,es,ep,k _ o (λz=>(hf _ z).2.1 rfl) ho,r⟩
 .refine(I.hok b u e).stay (λc v hc q=>k c v ?_ q) (λ_ q=>q) λ_ _ q=>q;rcases hc with z|z
  .rw[z];exact ik b u e
  .exact ik c _ z
end
def Itz(a b:Addr):It:=⟨λi H=>∃xs ys,H a=some (.lst xs)/\H b=some (.lst ys)/\i<xs.length/\i<ys.length,λi H v H'=>∃xs ys x y t,H a=some (.lst xs)/\H b=some (.lst ys)/\xs[i]?=some x/\ys[i]?=some y/\H t=none/\v=.ref t/\H'=upd H t (.tup [x,y]),λi H=>∃xs ys,H a=some (.lst xs)/\H b=some (.lst ys)/\(xs.length<=i\/ys.length<=i)⟩
theorem pA{h g:Heap}{a l:Addr}{i:Nat}(x:h.IsListIter a l i)(k:∀o,h.get? a=some o->g.get? a=some o):g.IsListIter a l i:=by obtain⟨o,e,r⟩:=x;exact⟨o,k o e,r⟩
theorem Lq{xs:Ζ}{vs:Θ} : Vals xs vs->∀{i:Nat}{x:V},xs[i]?=some x->∃u,vs[i]?=some u/\RelV x u:=by
 intro h
 induction h with
 |nil=>intro i x e;cases e
 |cons a b ih =>
  intro i x e;cases i with
  |zero=>rw[List.getElem?_cons_zero]at e;cases e;exact⟨_,rfl,a⟩
  |succ i=>rw[List.getElem?_cons_succ]at e ⊢;exact ih e
theorem YB{P:Program}{w:World}{K:Frag}{b5:List Expr}{x1}{pos:Pos}(z TI TO i1 i2 l1 l2:Addr)(D:ZipApart z TI TO i1 i2 l1 l2) :
  Turn P w K (.Tuple b5 x1 pos) (Itz l1 l2) [z,TI,TO,i1,i2] z (λi h=>IsZip h z TI TO .none/\IsPair h TI (.ref i1) (.ref i2)/\(∃p q,IsPair h TO p q)/\h.IsListIter i1 l1 i/\h.IsListIter i2 l2 i) where
 mem:=by simp
 obj:=by
  rintro i h ⟨s1,s2,⟨p,q,s3⟩,⟨o4,s4,_,d4⟩,⟨o5,s5,_,d5⟩⟩ b hb;simp only[YU,UQ,or_false]at hb;rcases hb with rfl|rfl|rfl|rfl|rfl
  .exact⟨_,s1,λv e=>by cases e⟩
  .exact⟨_,s2,λv e=>by cases e⟩
  .exact⟨_,s3,λv e=>by cases e⟩
  .exact⟨_,s4,λv e=>by rw[d4]at e;cases e⟩
  .exact⟨_,s5,λv e=>by rw[d5]at e;cases e⟩
 keep:=λi h h' ⟨s1,s2,⟨p,q,s3⟩,s4,s5⟩ k=>⟨k z (by simp) _ s1,k TI (by simp) _ s2,⟨p,q,k TO (by simp) _ s3⟩,pA s4 (k i1 (by simp)),pA s5 (k i2 (by simp))⟩
 item:=by
  intro X hP hw hK hc i aa s σ H E I hf st hg;subst hP hw hK;obtain⟨s1,s2,⟨p,q,s3⟩,s4,s5⟩:=st;obtain⟨xs,ys,ha,hb,kG,lt2⟩:=hg;obtain⟨_,e9,n1,fN,le1,g1⟩:=I.lstM ha;obtain⟨_,iq,n2,kz,j1,g2⟩:=I.lstM hb;have ex:xs[i]?=some xs[i]:=aj kG;have ey:ys[i]?=some ys[i]:=aj lt2;obtain⟨u,hu,ru⟩:=Lq fN ex;obtain⟨v,hv,rv⟩:=Lq kz ey;refine wpAny_pyNext_zip_item D s1 s2 s3 s4 s5 (xs:=e9.toArray) (ys:=iq.toArray) ⟨_,g1,rfl,n1,rfl⟩ ⟨_,g2,rfl,n2,rfl⟩ (x:=u) (y:=v) (by simpa using hu) (by simpa using hv) λh' a1 a2 a3 a4 a5 a6 a7=>⟨_,rfl,?_⟩;refine wpAny_letOwnedTupleGo_zip a1 λh2 fI sb=>?_;have nt:H s.heap.objs.size=none:=I.fresh;have I1:=I.laid (a:=s.heap.objs.size) (o:=.tup [xs[i],ys[i]]) (h':=s.heap.push { cls:=.type "tuple",data:=.seq #[u,v] }) (t':=s.toks) (λb q z=>aH _ z) (aG _)
   ⟨(by show 2<=sizeLine;decide),[u,v],.cons ru (.cons rv .nil),_,aW _ rfl,rfl,_,rfl⟩
  have nz:z≠s.heap.objs.size:=aQ (aK s1);have nO:TO≠s.heap.objs.size:=aQ (aK s3);have nI:TI≠s.heap.objs.size:=aQ (aK s2);have kD:i1≠s.heap.objs.size:=by obtain⟨o,e,_⟩:=s4;exact aQ (aK e)
  have n2':i2≠s.heap.objs.size:=by obtain⟨o,e,_⟩:=s5;exact aQ (aK e)
  have i8:∀b∈[z,TI,TO,i1,i2],upd H s.heap.objs.size (.tup [xs[i],ys[i]]) b=none:=by
   intro b hb;have f0:=(hf b hb).1;simp only[YU,UQ,or_false]at hb;rcases hb with rfl|rfl|rfl|rfl|rfl
   .exact(cF nz).trans f0
   .exact(cF nI).trans f0
   .exact(cF nO).trans f0
   .exact(cF kD).trans f0
   .exact(cF n2').trans f0
  have I2:=I1.turnedL (ch:=[z,TO,i1,i2]) (h':=h2) (t':=s.toks) (λb ob hb e=>by
   simp only[YU,UQ,or_false,not_or]at hb;obtain⟨b1,b2,b3,b4⟩:=hb;refine(sb.2 b b1).trans ?_;by_cases hs:b=s.heap.objs.size
   .subst hs;have e2:=aW s.heap (o:={ cls:=.type "tuple",data:=.seq #[u,v] }) rfl;have e:(s.heap.push { cls:=.type "tuple",data:=.seq #[u,v] }).get? s.heap.objs.size=some ob:=e;rw[e2]at e;cases e;exact a5
   .exact a7 b _ b1 b2 b3 b4 (Kf e hs)) λb hb=>by
    have fh:b∈[z,TI,TO,i1,i2]:=by
     simp only[YU,UQ,or_false]at hb ⊢;rcases hb with h|h|h|h<;>simp[h]
    exact⟨i8 b fh,(hf b fh).2⟩
  have mv:∀c o,c≠z->h'.get? c=some o->h2.get? c=some o:=λc o n e=>(sb.2 c n).trans e;exact⟨.ref _,_,I2,rfl,⟨xs,ys,_,_,_,ha,hb,ex,ey,nt,rfl,rfl⟩,⟨fI,mv _ _ D.TIz (a7 _ _ D.TIz D.TITO D.TIi1 D.TIi2 s2),⟨_,_,mv _ _ D.TOz a2⟩,pA a3 λo e=>mv _ _ D.i1z e,pA a4 λo e=>mv _ _ D.i2z e⟩,i8⟩
 done:=by
  intro X hP hw hK hc i aa s σ H E I hf st hg;subst hP hw hK;obtain⟨s1,s2,⟨p,q,s3⟩,s4,s5⟩:=st;obtain⟨xs,ys,ha,hb,lt⟩:=hg;obtain⟨_,e9,n1,fN,le1,g1⟩:=I.lstM ha;obtain⟨_,iq,n2,kz,j1,g2⟩:=I.lstM hb;refine wpAny_pyNext_zip_end (I.ok.hd hc) D s1 s2 s3 s4 s5 (xs:=e9.toArray) (ys:=iq.toArray) ⟨_,g1,rfl,n1,rfl⟩ ⟨_,g2,rfl,n2,rfl⟩ (by simp;lia) λh' k=>⟨rfl,I.turnedL (ch:=[z,TO,i1,i2]) (t':=s.toks) (λb ob hb e=>?_) λb hb=>?_⟩
  .simp only[YU,UQ,or_false,not_or]at hb;exact k b ob hb.1 hb.2.1 hb.2.2.1 hb.2.2.2 e
  .exact hf b (by
    simp only[YU,UQ,or_false]at hb ⊢;rcases hb with h|h|h|h<;>simp[h])
 self:=λ_ _ _ _ _ ⟨s1,_⟩ h=>wpAny_pyIter_zip s1 h
section
variable{X:Cx}
theorem Xe(n l1 l2:Nat)(h1:l1<n)(h2:l2<n):ZipApart (n+4) (n+2) (n+3) n (n+1) l1 l2:=by
 constructor<;>first|exact aQ (by omega)|exact UT (by lia)
theorem acv(n b:Nat)(h:b=n+4\/b=n+2\/b=n+3\/b=n\/b=n+1):n<=b:=by lia
theorem boot_zip:bootBuiltins "zip"=some (.type "zip"):=by decide +kernel
def anf(ta:TA):TI:=λσ H R=>ta σ H λvs H1=>∃a b xs ys,vs=[.ref a,.ref b]/\H1 a=some (.lst xs)/\H1 b=some (.lst ys)/\R (Itz a b) H1
theorem aeP{a b:Expr}{ta:TA}{b5:List Expr}{x1}{p pos az:Pos}(hg:Gl X "zip")(hm:X.mg "zip"=none)(ha:PA X [a,b] ta)(hs:starEach [a,b] X.env=[(false,eval a X.env),(false,eval b X.env)]:=by rfl)(eK:starEach [b] X.env=[(false,eval b X.env)]:=by rfl) :
  PI X (.Tuple b5 x1 az) (.Call (.Name "zip" p) [a,b] [] pos) (anf ta):=by
 intro aa s σ H R I h;refine Call_ (zB I hg hm boot_zip (PyProof.Rows.callWith_type1 (thn (ha pos aa s σ H _ I h) λus s1 hP=>?_) (by rw[hs,eK]) (by rw[eK];rfl)));obtain⟨vs,H1,I1,r1,q1⟩:=hP;obtain⟨l1,l2,xs,ys,e,h1,h2,q⟩:=q1;subst e;obtain⟨u,v,rfl,ru,rv⟩:=r1.two;cases ru;cases rv;obtain⟨_,e9,n1,fN,le1,g1⟩:=I1.lstM h1;obtain⟨_,iq,n2,kz,j1,g2⟩:=I1.lstM h2;have z1:=aK g1;have z2:=aK g2;refine call_zip_2 (xs:=e9.toArray) (ys:=iq.toArray) ⟨_,g1,rfl,n1,rfl⟩ ⟨_,g2,rfl,n2,rfl⟩ λh' a1 a2 a3 a4 a5 a6 a7=>?_;refine wpAny_pyIter_zip a1 ?_;refine⟨_,[s1.heap.objs.size+4,s1.heap.objs.size+2,s1.heap.objs.size+3,s1.heap.objs.size,s1.heap.objs.size+1],_,Itz l1 l2,H1,rfl,I1.kept (t':=s1.toks) λb ob e=>a7 b ob e,YB _ _ _ _ _ l1 l2 (Xe _ _ _ z1 z2),⟨a1,a2,⟨_,_,a3⟩,a4,a5⟩,λb hb=>?_,q⟩;have fh:s1.heap.objs.size<=b:=by
  simp only[YU,UQ,or_false]at hb;exact acv _ _ hb
 exact I1.fpOk fh (I1.hok.fresh fh)
end
noncomputable def rlb(sc scope:Scope):Scope:={ scope with names:=scope.names.map λ(n,k)=>if(k==NameKind.free&&sc.kind == .function&&sc.names.lookup n==some .cell)then(n,NameKind.cell)else(n,k) }
section
variable{X:Cx}
def ipM:TIp:=λx y H Q=>∃i j,x=.int i/\y=.int j/\Bd i/\Bd j/\Q (.int (i*j)) H
theorem acP:PIp X .Mult ipM:=by
 intro aa s σ H x y v u Q I r1 r2 h;obtain⟨i,j,e1,e2,b1,b2,q⟩:=h;subst e1;subst e2;obtain⟨t,rfl⟩:=r1;obtain⟨t',rfl⟩:=r2;exact imul_int ⟨.int _,H,I.tok _,⟨_,rfl⟩,q⟩ (.of_bits b1.bits b2.bits)
theorem VF(c:Nat):∀(n:Nat)(acc:Array Nat),((List.replicate n #[c]).foldl (· ++ ·) acc).toList=acc.toList++List.replicate n c
 |0,acc=>by simp
 |n+1,acc=>by
  rw[List.replicate_succ,List.foldl_cons,VF c n,Array.toList_append,WZ]
  rfl
def akF:R2:=λx y H Q=>∃c n,x=.str ⟨#[c]⟩/\y=.int n/\1<=n/\n<=1000/\∀z:Str,z.cps.toList=List.replicate n.toNat c->Q (.str z) H
theorem ac1:OpR X (binaryOp .Mult) akF:=by
 intro aa s σ H x y v u Q I rx ry h;obtain⟨c,n,rfl,rfl,h0,h1,q⟩:=h;obtain⟨t,rfl⟩:=rx;obtain⟨t',rfl⟩:=ry;have hi:(⟨#[c]⟩ : Str).length=1:=rfl;have made:∀z:Str,z.cps.toList=List.replicate n.toNat c->(Made.str z).post (EP X aa σ Q) s:=λz hz=>⟨by
  have:z.length=n.toNat:=by
   show z.cps.size=_;rw[<- Array.length_toList,hz,aN]
  exact aL (show z.length<=1001 by lia) (by decide),.str z,H,I.tok _,⟨_,rfl⟩,q z hz⟩
 refine PySem.P.mul_str ?_ (λ_ _=>?_) (λ_ _=>?_) ?_
 .rw[Zp (by lia),Zp (by lia)];rfl
 .rw[hi];have:1<=(2^63-1:Int)/n:=Int.le_ediv_of_mul_le (by omega) (by lia);lia
 .rw[hi];unfold Builtin.Str.tooLong;exact Zp (by
   have:n.toNat<=1000:=by lia
   have e:1000<=sizeLine:=by decide
   lia)
 .split
  .lia
  .split
   .rename_i hc
    rw[hi]at hc;have e:n.toNat=1:=by
     simp at hc;lia
    refine⟨.str ⟨#[c]⟩,H,I,⟨t,rfl⟩,q _ ?_⟩;rw[e];rfl
   .refine made _ ?_;show((List.replicate n.toNat #[c]).foldl (· ++ ·) #[]).toList=_;rw[VF];rfl
end
def Cx.compGC(X:Cx)(N':Φ)(scope:Scope)(x0:Str)(C:Addr)(s₀:Shared)(H₀:Hp)(ex:Ψ)(pn:Δ):Cx :=
 { X with env:=compEnvC scope ((x0,C+1)::uT X.env.cells scope.names []) C X.env,N:=[x0]++N',s₀:=s₀,H₀:=H₀,outer:=X.stack,ex:=ex,fn:=λz=>z==x0,pn:=pn,xe:=λ_ _=>False }
theorem yO{env:Env}{x0:Str} : ∀{names:List (Str×NameKind)}{y:Str},y≠x0->((names.map λ(n,k)=>if(k==NameKind.free&&env.scope.kind == .function&&env.kindOf n==some .cell)then(n,NameKind.cell)else(n,k)).lookup y=some .cell \/
  (names.map λ(n,k)=>if(k==NameKind.free&&env.scope.kind == .function&&env.kindOf n==some .cell)then(n,NameKind.cell)else(n,k)).lookup y=some .free)->(∀z∈names,z.2=.cell->z.1=x0)->(y,NameKind.free)∈names
 |[],y,_,h,_=>by rcases h with h|h<;>cases h
 |(n,k)::r,y,ny,h,hc=>by
  have ih:=@yO env x0 r y ny;have dm:∀z∈r,z.2=.cell->z.1=x0:=λz hz=>hc z (aJ _ hz);simp only[List.map_cons]at h;by_cases hcond:(k==NameKind.free&&env.scope.kind == .function&&env.kindOf n==some .cell)=true
  .rw[ZY hcond]at h;have hk:k=.free:=by
    simp only[Zzt,beq_iff_eq]at hcond;exact hcond.1.1
   subst hk;simp only[List.lookup_cons]at h;cases hb:y==n with
   |true=>rw[show y=n by simpa using hb];exact aO
   |false=>rw[hb]at h;exact aJ _ (ih h dm)
  .rw[ZZ hcond]at h;simp only[List.lookup_cons]at h;cases hb:y==n with
   |true =>
    have e:y=n:=by simpa using hb
    rw[hb]at h;rcases h with h|h
    .cases h;exact absurd (e.trans (hc (n,.cell) aO rfl)) ny
    .cases h;rw[e];exact aO
   |false=>rw[hb]at h;exact aJ _ (ih h dm)
theorem J9{M:Model}{A:Around}{E:Ε}{s:Shared}{scope:Scope}{globals:Addr}{bP:List (Str×Addr)}{ai:Str}{outer:Env}{x0:Str}{Q:Env->Shared->Prop}(fA:∀n acc,cellsFrom n scope.names acc=(x0,n)::acc)(fw:∀h,pushCells h scope.names=h.push { cls:=.type "cell",data:=.cell none })
 (hQ:∀g,g.Ns s.heap.objs.size (λx=>([] : List (Str×Value)).reverse.lookup x)->g.IsCell (s.heap.objs.size+1) none->(∀b o,s.heap.get? b=some o->g.get? b=some o)->Q (newEnv scope s.heap.objs.size globals ((x0,s.heap.objs.size+1)::bP) ai none .none (some outer) builtinsNs) { s with heap:=g,toks:=s.toks+([] : List (Str×Value)).length }) :
  wpAny M A (newFunctionEnv scope globals bP [] ai none .none (some outer)) Q E s:=by
 simp only[newFunctionEnv,Option.isSome_some,if_true];refine ZU (wpAny_alloc ?_);refine ZU (wpAny_layCells _ (λname kind cells=>by cases hkc:kind==NameKind.cell<;>simp[hkc]) _ _ _ _ ?_);rw[fA,fw];have z1:(s.heap.push { cls:=.type "dict",data:=.dict #[] }).objs.size=s.heap.objs.size+1:=Heap.size_push ..;show wpAny _ _ (forIn ([] : List (Str×Value)) _ _ >>= _) _ _ _;rw[List.forIn_nil];refine ZU (ZT (ZT ?_));have c1:=aW (s.heap.push { cls:=.type "dict",data:=.dict #[] }) (o:={ cls:=.type "cell",data:=.cell none }) rfl;rw[z1]at c1;show Q (newEnv scope s.heap.objs.size globals ((x0,(s.heap.push { cls:=.type "dict",data:=.dict #[] }).objs.size)::bP) ai none .none (some outer) builtinsNs) _;rw[z1];exact hQ _ ((Heap.Ns.new s.heap (.type "dict")).at' λo e=>aH _ e) ⟨_,c1,rfl⟩ λb o e=>aH _ (aH _ e)
theorem Vm{x0 y:Str}{d c:Addr}(e : [(x0,d)].lookup y=some c):y=x0/\c=d:=by
 rw[List.lookup_cons]at e;cases hy:y==x0 with
 |true=>rw[hy]at e;cases e;exact⟨by simpa using hy,rfl⟩
 |false=>rw[hy]at e;cases e
theorem ext1{X:Cx}{scope:Scope}{x0:Str}(fA:∀n acc,cellsFrom n scope.names acc=(x0,n)::acc)(fw:∀h,pushCells h scope.names=h.push { cls:=.type "cell",data:=.cell none })(lS:∀y∈scope.names,y.2=.cell->y.1=x0):Rt X scope [x0] (λC=>[(x0,C+1)]) (λz=>z==x0) :=
 ⟨λhQ=>J9 fA fw λg eh gV kg=>hQ g eh (λy c e=>by rw[(Vm e).2];exact gV) kg,λC y c e=>by rw[(Vm e).2];exact X1 _,λC y z c e1 e2=>(Vm e1).1.trans (Vm e2).1.symm,λC y e=>⟨C+1,by rw[beq_iff_eq.mp e];exact List.lookup_cons_self⟩,λC y e=>by
  rw[List.lookup_cons,beq_eq_false_iff_ne.mpr λz=>e (by rw[z];simp)]
  rfl,λC y e=>by
  by_cases ny:y=x0
  .exact .inl ⟨C+1,by rw[ny];exact List.lookup_cons_self⟩
  .exact .inr (yO ny e lS)⟩
def Ite(l:Addr):It:=⟨λi H=>∃xs,H l=some (.lst xs)/\i<xs.length,λi H v H'=>∃xs x t,H l=some (.lst xs)/\xs[i]?=some x/\H t=none/\v=.ref t/\H'=upd H t (.tup [.int i,x]),λi H=>∃xs,H l=some (.lst xs)/\xs.length<=i⟩
theorem Xb{P:Program}{w:World}{K:Frag}{b5:List Expr}{x1}{pos:Pos}(e it l:Addr)(gN:e≠it) :
  Turn P w K (.Tuple b5 x1 pos) (Ite l) [e,it] e (λi h=>(∃old,IsEnum h e it ((i:Nat):Int) old)/\h.IsListIter it l i) where
 mem:=by simp
 obj:=by
  rintro i h ⟨⟨old,s1⟩,⟨o4,s4,_,d4⟩⟩ b hb;simp only[YU,UQ,or_false]at hb;rcases hb with rfl|rfl
  .exact⟨_,s1,λv e=>by cases e⟩
  .exact⟨_,s4,λv e=>by rw[d4]at e;cases e⟩
 keep:=λi h h' ⟨⟨old,s1⟩,s4⟩ k=>⟨⟨old,k e (by simp) _ s1⟩,pA s4 (k it (by simp))⟩
 item:=by
  intro X hP hw hK hc i aa s σ H E I hf st hg;subst hP hw hK;obtain⟨⟨old,s1⟩,s4⟩:=st;obtain⟨xs,ha,kG⟩:=hg;obtain⟨_,e9,n1,fN,le1,g1⟩:=I.lstM ha;have ex:xs[i]?=some xs[i]:=aj kG;obtain⟨u,hu,ru⟩:=Lq fN ex;refine wpAny_pyNext_enum_item s1 s4 (items:=e9.toArray) ⟨_,g1,rfl,n1,rfl⟩ (x:=u) (by simpa using hu) gN λh' a1 a3 a5 a6 a7=>⟨_,rfl,?_⟩;refine wpAny_letOwnedTupleGo_enum a1 λh2 fI sb=>?_;have nt:H s.heap.objs.size=none:=I.fresh;have I1:=I.laid (a:=s.heap.objs.size) (o:=.tup [.int i,xs[i]]) (h':=s.heap.push { cls:=.type "tuple",data:=.seq #[.int i s.toks,u] }) (t':=s.toks+1) (λb q z=>aH _ z) (aG _)
   ⟨(by show 2<=sizeLine;decide),[.int i s.toks,u],.cons ⟨_,rfl⟩ (.cons ru .nil),_,aW _ rfl,rfl,_,rfl⟩
  have nz:e≠s.heap.objs.size:=aQ (aK s1);have kD:it≠s.heap.objs.size:=by obtain⟨o,e,_⟩:=s4;exact aQ (aK e)
  have i8:∀b∈[e,it],upd H s.heap.objs.size (.tup [.int i,xs[i]]) b=none:=by
   intro b hb;have f0:=(hf b hb).1;simp only[YU,UQ,or_false]at hb;rcases hb with rfl|rfl
   .exact(cF nz).trans f0
   .exact(cF kD).trans f0
  have I2:=I1.turnedL (ch:=[e,it]) (h':=h2) (t':=s.toks+1) (λb ob hb z=>by
   simp only[YU,UQ,or_false,not_or]at hb;obtain⟨b1,b3⟩:=hb;refine(sb.2 b b1).trans ?_;by_cases hs:b=s.heap.objs.size
   .subst hs;have e2:=aW s.heap (o:={ cls:=.type "tuple",data:=.seq #[.int i s.toks,u] }) rfl;have z:(s.heap.push { cls:=.type "tuple",data:=.seq #[.int i s.toks,u] }).get? s.heap.objs.size=some ob:=z;rw[e2]at z;cases z;exact a5
   .exact a7 b _ b1 b3 (Kf z hs)) λb hb=>⟨i8 b hb,(hf b hb).2⟩
  have mv:∀c o,c≠e->h'.get? c=some o->h2.get? c=some o:=λc o n z=>(sb.2 c n).trans z;exact⟨.ref _,_,I2,rfl,⟨xs,_,_,ha,ex,nt,rfl,rfl⟩,⟨⟨_,by rw[Int.natCast_add];exact fI⟩,pA a3 λo z=>mv _ _ (λy=>gN y.symm) z⟩,i8⟩
 done:=by
  intro X hP hw hK hc i aa s σ H E I hf st hg;subst hP hw hK;obtain⟨⟨old,s1⟩,s4⟩:=st;obtain⟨xs,ha,lt⟩:=hg;obtain⟨_,e9,n1,fN,le1,g1⟩:=I.lstM ha;have hl:=fN.length;refine wpAny_pyNext_enum_end (I.ok.hd hc) s1 s4 (items:=e9.toArray) ⟨_,g1,rfl,n1,rfl⟩ (by simp;lia) λh' k=>⟨rfl,I.turnedL (ch:=[e,it]) (t':=s.toks) (λb ob hb z=>?_) hf⟩;simp only[YU,UQ,or_false,not_or]at hb;exact k b ob hb.2 z
 self:=λ_ _ _ _ _ ⟨⟨_,s1⟩,_⟩ h=>wpAny_pyIter_enum s1 h
section
variable{X:Cx}
def ahU(ta:TA):TI:=λσ H R=>ta σ H λvs H1=>∃a xs,vs=[.ref a]/\H1 a=some (.lst xs)/\R (Ite a) H1
theorem ac8{a:Expr}{ta:TA}{b5:List Expr}{x1}{p pos az:Pos}(hg:Gl X "enumerate")(hm:X.mg "enumerate"=none)(ha:PA X [a] ta)(hs:starEach [a] X.env=[(false,eval a X.env)]:=by rfl) :
  PI X (.Tuple b5 x1 az) (.Call (.Name "enumerate" p) [a] [] pos) (ahU ta):=by
 intro aa s σ H R I h;refine Call_ (zB I hg hm boot_enumerate (PyProof.Rows.callWith_type1 (thn (ha pos aa s σ H _ I h) λus s1 hP=>?_) (by rw[hs];rfl) (by rfl)));obtain⟨vs,H1,I1,r1,q1⟩:=hP;obtain⟨l1,xs,e,h1,q⟩:=q1;subst e;obtain⟨u,rfl,ru⟩:=r1.one;cases ru;obtain⟨_,e9,n1,fN,le1,g1⟩:=I1.lstM h1;refine call_enumerate_list (items:=e9.toArray) ⟨_,g1,rfl,n1,rfl⟩ λh' a1 a2 a3 a7=>?_;refine wpAny_pyIter_enum a1 ?_;refine⟨_,[s1.heap.objs.size+1,s1.heap.objs.size],_,Ite l1,H1,rfl,I1.kept (t':=s1.toks) λb ob e=>a7 b ob e,Xb _ _ l1 (Nat.succ_ne_self _),⟨⟨_,a1⟩,a2⟩,λb hb=>?_,q⟩;have fh:s1.heap.objs.size<=b:=by
  simp only[YU,UQ,or_false]at hb;rcases hb with z|z
  .rw[z];exact Xs _
  .rw[z];exact aG _
 exact I1.fpOk fh (I1.hok.fresh fh)
end
noncomputable def out(H:Hp)(a:Addr):Hp:=λb=>if b=a then none else H b
theorem fsc{N P:Φ}{sc:Scope}(h1:sc.kind=.function:=by rfl)(h2:sc.isCoroutine=false:=by rfl)(h3:sc.isGenerator=false:=by rfl)(h4:N.Nodup/\(∀x∈P,sc.names.lookup x=some .local\/sc.names.lookup x=some .cell)/\∀y∈sc.names,y.2≠.free:=by decide +kernel)(h5:N.take P.length=P:=by rfl):bL N P sc:=⟨h1,h2,h3,h4.1,h5,h4.2.1,h4.2.2⟩
abbrev CK0(sc scope:Scope)(N N' xs:Φ):Prop:=Kv xs N=N'/\(∀y∈scope.names,y.2=.local->scope.names.lookup y.1=some .local)/\(∀y∈scope.names,y.2=.free->sc.names.lookup y.1=some .cell\/sc.names.lookup y.1=some .free) /\
 (∀y∈N,y∉xs->(scope.names.map λ(n,k)=>if(k==NameKind.free&&sc.kind == .function&&sc.names.lookup n==some .cell)then(n,NameKind.cell)else(n,k)).lookup y≠some .local)/\∀y∈N,y∈xs->(scope.names.map λ(n,k)=>if(k==NameKind.free&&sc.kind == .function&&sc.names.lookup n==some .cell)then(n,NameKind.cell)else(n,k)).lookup (hid y)=none
abbrev CK(sc scope:Scope)(N N' xs:Φ):Prop:=(∀y∈scope.names,y.2≠.cell)/\CK0 sc scope N N' xs
section
variable{X:Cx}{a9 iter tg:Expr}{pos:Pos}{scope:Scope}{wi:TI}{te:TE}{aI:List Expr}{gt:TG}{tc:TT}
theorem aaL(sc:Scope)(N N' xs:Φ)(hi:PI X tg iter wi)(hg:∀{C s₀ H₀ ex pn},PG (X.compG N' scope xs C s₀ H₀ ex pn) tg gt)(ht:∀{C s₀ H₀ ex pn},PTs (X.compG N' scope xs C s₀ H₀ ex pn) aI tc)(he:∀{C s₀ H₀ ex pn},PE (X.compG N' scope xs C s₀ H₀ ex pn) a9 te)
 (cy:X.env.scope=sc:=by rfl)(c5:X.N=N:=by rfl)(hc:X.calm=true:=by rfl)(hk:scope.kind=.function:=by rfl)(h:CK sc scope N N' xs:=by decide +kernel)(hs:∀z,foldedSetIterable iter X.env z=pure z:=by intro _;rfl):PE X (.ListComp a9 [⟨tg,iter,aI,0⟩] scope pos) (rE wi xs.length (tMG gt) (tMT tc) (tM te)) :=
 by
 subst cy c5;exact Rb (akj hk h.1) hc h.2.1 hk h.2.2.1 h.2.2.2.1 h.2.2.2.2.1 h.2.2.2.2.2 hi (λ_ _ _ _ _=>hg.mono) (λ_ _ _ _ _=>ht.mono) (λ_ _ _ _ _=>he.mono) hs
theorem Yp{i0:Nat}{y0:Str}{py b8:Pos}(sc:Scope)(N N' xs:Φ)(hi:PI X tg iter wi)(hg:∀{C s₀ H₀ ex pn},PG (X.compG N' scope xs C s₀ H₀ ex pn) tg gt)(ht:∀{C s₀ H₀ ex pn},PTs (X.compG N' scope xs C s₀ H₀ ex pn) aI tc)(he:∀{C s₀ H₀ ex pn},PE (X.compG N' scope xs C s₀ H₀ ex pn) a9 te)(fy:PG X (.Name y0 py) (yS i0))
 (cy:X.env.scope=sc:=by rfl)(c5:X.N=N:=by rfl)(hc:X.calm=true:=by rfl)(hk:scope.kind=.function:=by rfl)(h:CK sc scope N N' xs:=by decide +kernel)(fr:swapsWith (.ListComp a9 [⟨tg,iter,aI,0⟩] scope pos) (some (.Name y0 py)) b8.line X.env=pure true:=by rfl)(hs:∀z,foldedSetIterable iter X.env z=pure z:=by intro _;rfl) :
  PS X (.Assign [.Name y0 py] (.ListComp a9 [⟨tg,iter,aI,0⟩] scope pos) b8) (abt (rE wi xs.length (tMG gt) (tMT tc) (tM te)) (yS i0)) :=
 by
 subst cy c5;exact Zt (akj hk h.1) hc h.2.1 hk h.2.2.1 h.2.2.2.1 h.2.2.2.2.1 h.2.2.2.2.2 hi (λ_ _ _ _ _=>hg.mono) (λ_ _ _ _ _=>ht.mono) (λ_ _ _ _ _=>he.mono) fy fr hs
theorem Z_(sc:Scope)(N N':Φ)(x0:Str)(hi:PI X tg iter wi)(hg:∀{C s₀ H₀ ex pn},PG (X.compGC N' scope x0 C s₀ H₀ ex pn) tg gt)(ht:∀{C s₀ H₀ ex pn},PTs (X.compGC N' scope x0 C s₀ H₀ ex pn) aI tc)(he:∀{C s₀ H₀ ex pn},PE (X.compGC N' scope x0 C s₀ H₀ ex pn) a9 te)
 (cy:X.env.scope=sc:=by rfl)(c5:X.N=N:=by rfl)(hc:X.calm=true:=by rfl)(hk:scope.kind=.function:=by rfl)(fA:∀n acc,cellsFrom n scope.names acc=(x0,n)::acc:=by intro _ _;rfl)(fw:∀h,pushCells h scope.names=h.push { cls:=.type "cell",data:=.cell none }:=by intro _;rfl)(h:(∀y∈scope.names,y.2=.cell->y.1=x0)/\CK0 sc scope N N' [x0]:=by decide +kernel)(hs:∀z,foldedSetIterable iter X.env z=pure z:=by intro _;rfl):PE X (.ListComp a9 [⟨tg,iter,aI,0⟩] scope pos) (rE wi 1 (tMG gt) (tMT tc) (tM te)):=by
 subst cy c5;exact Rb (ext1 fA fw h.1) hc h.2.1 hk h.2.2.1 h.2.2.2.1 h.2.2.2.2.1 h.2.2.2.2.2 hi (λ_ _ _ _ _=>hg.mono) (λ_ _ _ _ _=>ht.mono) (λ_ _ _ _ _=>he.mono) hs
theorem aen{N0:Φ}{x0:Str}{sO:Scope}{C0:Addr}{s0:Shared}{H0:Hp}{eB:Ψ}{dP:Δ}(sc:Scope)(N N' xs:Φ)(hi:PI (X.compGC N0 sO x0 C0 s0 H0 eB dP) tg iter wi)(hg:∀{C s₀ H₀ ex pn},PG ((X.compGC N0 sO x0 C0 s0 H0 eB dP).compG N' scope xs C s₀ H₀ ex pn) tg gt)(ht:∀{C s₀ H₀ ex pn},PTs ((X.compGC N0 sO x0 C0 s0 H0 eB dP).compG N' scope xs C s₀ H₀ ex pn) aI tc)(he:∀{C s₀ H₀ ex pn},PE ((X.compGC N0 sO x0 C0 s0 H0 eB dP).compG N' scope xs C s₀ H₀ ex pn) a9 te)
 (cy:X.env.scope=sc:=by rfl)(c5 : [x0]++N0=N:=by rfl)(hc:X.calm=true:=by rfl)(hk:scope.kind=.function:=by rfl)(h:CK (rlb sc sO) scope N N' xs:=by decide +kernel)(hs:∀z,foldedSetIterable iter (X.compGC N0 sO x0 C0 s0 H0 eB dP).env z=pure z:=by intro _;rfl):PE (X.compGC N0 sO x0 C0 s0 H0 eB dP) (.ListComp a9 [⟨tg,iter,aI,0⟩] scope pos) (rE wi xs.length (tMG gt) (tMT tc) (tM te)):=by
 subst cy c5;exact aaL (X:=X.compGC N0 sO x0 C0 s0 H0 eB dP) (rlb X.env.scope sO) _ N' xs hi hg ht he rfl rfl hc hk h hs
end
theorem aj4{K:Frag}{a:Addr}{i j:Int}{d:Ξ}{n:Nat}{sl:Array (Ω)}{t u:Tok}(l:K.lookup a=some ⟨.type "tuple",d,.seq #[.int i t,.int j u] n,sl⟩):∀H,SqT K H a [.int i,.int j]:=λH=>.inr ⟨_,_,_,l,rfl,rfl,(by show 2<=sizeLine;decide),.cons ⟨_,rfl⟩ (.cons ⟨_,rfl⟩ .nil)⟩
theorem amR{K:Frag}{h:Heap}{mg:Str->Ω}{x:Str}{i:Int}{t:Tok}(X:K.In h)(G:h.Ns mainGlobals mg)(l:nsIn K mainGlobals x=some (some (.int i t))):∃u,mg x=some u/\RelV (.int i) u:=⟨_,mg_of X G l,_,rfl⟩
def Lst:Nat->(Θ->Prop)->Prop
 |0,P=>P []
 |n+1,P=>∀a,Lst n λl=>P (a::l)
theorem Oh:∀(n:Nat){P:Θ->Prop},Lst n P->∀us:Θ,us.length=n->P us
 |0,_,h,[],_=>h
 |n+1,_,h,a::l,e=>Oh n (h a) l (Nat.succ.inj e)
section
variable{K:Frag}{h:Heap}{mg:Str->Ω}{x m ai:Str}{v:Value}{C f:Addr}{st:Stmt}{ps:Φ}{oc:Value}{od an:Ξ}{dQ:Array (Ω)}{kV bE pm ag ct:Value}{i j:Int}{d:Ξ}{n:Nat}{sl:Array (Ω)}{t u:Tok}
theorem q_c(X:K.In h:=by assumption)(G:h.Ns mainGlobals mg:=by assumption)(e:nsIn K mainGlobals x=some (some v):=by k_is):mg x=some v:=mg_of X G e
theorem q_z(X:K.In h:=by assumption)(G:h.Ns mainGlobals mg:=by assumption)(e:nsIn K mainGlobals x=some none:=by k_is):mg x=none:=PySem.W.mg_none_of X G e
theorem q_n(e:findIn K (.ref C) x=some none:=by k_is):cA K C x:=e
theorem q_m(a:findIn K (.ref C) m=some (some (.ref f)):=by k_is)(b:isFn K (.ref f)=true:=by k_is)(c:keepIn K (.ref f)=true:=by k_is):Meth K C m f:=⟨a,b,c⟩
theorem q_M(a:makesIn K C=true:=by k_is)(b:findIn K (.ref C) "__init__"=some (some (.ref f)):=by k_is)(c:isFn K (.ref f)=true:=by k_is)(e:keepIn K (.ref C)=true:=by k_is):Mk K C f:=⟨a,b,c,e⟩
theorem q_4(a:plainGet K C Str.empty=true:=by k_is)(b:hasDictIn K C=true:=by k_is)(c:plainOver K C=true:=by k_is)(e:findIn K (.ref C) "__setattr__"=some (some (.builtin "object.__setattr__")):=by k_is):Cls K C:=⟨a,b,c,e⟩
theorem q_B(a:specialIn K (.ref C) "__getattribute__"=some (some (.builtin "type.__getattribute__")):=by k_is)(b:readsIn K C (.type "type")=true:=by k_is)(c:findCls K (.ref C) (.type "type") m=some (.val (.ref f)):=by k_is)(e:keepIn K (.ref f)=true:=by k_is):Eh K C m f:=⟨a,b,c,rfl,e⟩
theorem q_g(X:K.In h:=by assumption)(G:h.Ns mainGlobals mg:=by assumption)(l:nsIn K mainGlobals x=some (some (.int i t)):=by k_is):∃u,mg x=some u/\RelV (.int i) u:=amR X G l
theorem q_t(l:K.lookup C=some ⟨.type "tuple",d,.seq #[.int i t,.int j u] n,sl⟩:=by k_is):∀H,SqT K H C [.int i,.int j]:=aj4 l
theorem q_f(N:Nat)(hb:∀(kV bE pm:Value)(an:Ξ)(ag ct:Value),Lst N λus=>bindArgs (PySem.W.fnOf x x (iU st) (fL st) (bH st) .none kV bE pm an ag ct) ⟨us,[]⟩=pure (ps.zip us))(hN:ps.length=N:=by rfl)(X:K.In h:=by assumption)(G:h.Ns mainGlobals mg:=by assumption)
 (a:nsIn K mainGlobals x=some (some (.ref f)):=by k_is)(l:K.lookup f=some ⟨oc,od,.func (PySem.W.fnOf x x (iU st) (fL st) (bH st) .none kV bE pm an ag ct),dQ⟩:=by k_is)
 (c:codeIn K ag x=true:=by k_is)(k:keepIn K (.ref f)=true:=by k_is):cL K mg x st ps:=acn X G a l c k λkV bE pm an ag ct us e=>Oh N (hb kV bE pm an ag ct) us (e.trans hN)
theorem q_h(N:Nat)(hb:∀(kV bE pm:Value)(an:Ξ)(ag ct:Value),Lst N λus=>bindArgs (PySem.W.fnOf x ai (iU st) (fL st) (bH st) .none kV bE pm an ag ct) ⟨us,[]⟩=pure (ps.zip us))(hN:ps.length=N:=by rfl)
 (l:K.lookup f=some ⟨oc,od,.func (PySem.W.fnOf x ai (iU st) (fL st) (bH st) .none kV bE pm an ag ct),dQ⟩:=by k_is)(c:codeIn K ag ai=true:=by k_is)(k:keepIn K (.ref f)=true:=by k_is):zA K x ai st ps f:=abX l c k λkV bE pm an ag ct us e=>Oh N (hb kV bE pm an ag ct) us (e.trans hN)
end
section
variable{X:Cx}{es:List Expr}{t:TA}{pos:Pos}
def aiG:R2:=λx y H Q=>∃l b xs zs,x=.ref l/\y=.ref b/\H l=some (.lst xs)/\H b=some (.lst zs)/\xs.length+zs.length<=sizeLine/\∀p H',Same H H'->H p=none->H' p=some (.lst (xs++zs))->Q (.ref p) H'
theorem abE:OpR X (binaryOp .Add) aiG:=afE.imp λx y H Q hP=>by obtain⟨l,b,xs,zs,e1,e2,h1,h2,z,q⟩:=hP;exact⟨l,b,xs,zs,e1,e2,h1,h2,z,λp hp=>q p _ (Same.upd hp) hp cM⟩
end
section
variable{X:Cx}{k:Nat}{f C B:Addr}{ps:Φ}{sp:Sp}{x m:Str}{p pos am:Pos}{e:Expr}{es:List Expr}{t:TA}
def afN(C:Addr)(sp:Sp)(t:TA):TE:=λσ H Q=>t σ H λvs H1=>∀x dx,H1 x=none->H1 dx=none->dx≠x->sp (.ref x::vs) (upd (upd H1 dx (.own x)) x (.ins C dx [])) (λv H2=>v=.non/\Q (.ref x) H2) E0
theorem Yu(M:Mk X.K C f)(G:OkI X.prog X.w X.K X.mg X.base CX0 k f ps sp)(hr:fD (k+1) X.A)(hg:Gl X x)(hm:X.mg x=some (.ref C))(ha:PA X (e::es) t)(ce:(x==("__debug__":Str))=false:=by decide)
 (he:starEach (e::es) X.env=(false,eval e X.env)::starEach es X.env:=by rfl)(bi:(backTo pos (starEach es X.env)).any (·.1)=false:=by rfl):PE X (.Call (.Name x p) (e::es) [] pos) (afN C sp t):=by
 obtain⟨fd,F,hb⟩:=G;refine(ace M F hr hg hm hb .nil PL ha.mono ce he bi).imp λσ H Q h=>⟨_,h,λvs H1 q x dx h1 h2 h3=>?_⟩;rw[List.append_nil];exact q x dx h1 h2 h3
theorem Zb{pl:Sem Bool}(c:Eh X.K B m f)(G:OkI X.prog X.w X.K X.mg X.base CX0 k f ps sp)(hr:fD k X.A)(hg:Gl X x)(hm:X.mg x=some (.ref B))(ha:PA X (e::es) t)(ce:(x==("__debug__":Str))=false:=by decide)
 (b9:starEach (e::es) X.env=(false,eval e X.env)::starEach es X.env:=by rfl)(bi:(backTo pos (starEach es X.env)).any (·.1)=false:=by rfl)
 (ht:eval (.Call (.Attribute (.Name x p) m am) (e::es) [] pos) X.env=(do
   let ov <- eval (.Name x p) X.env
   standAt am.atName
   let(f,first) <- holding [ov] (getMethod ov m pl)
   callWith pos f first (backTo pos (starEach (e::es) X.env)) (backToKw pos (keywordEach [] X.env))):=by rfl) :
  PE X (.Call (.Attribute (.Name x p) m am) (e::es) [] pos) (Tj sp t):=by
 obtain⟨fd,F,hb⟩:=G;exact abG (pl:=pl) c F hr hg hm hb ha ce b9 bi ht
end
inductive T where
 |any|non|bl (b:Bool)|int (i:Int)|str (s:Str)|val (v:V)
 |tup (ts:List T)|lst (ts:List T)|scr (ts:List T)
 |dct (ks:List Key) (ts:List T)|ins (C:Addr) (ks:Φ) (ts:List T)
mutual
inductive Rep(K:Frag)(F:Hp):V->T->Prop
 |any (v:V):Rep K F v .any
 |non:Rep K F .non .non
 |bl (b:Bool):Rep K F (.bl b) (.bl b)
 |int (i:Int):Rep K F (.int i) (.int i)
 |str (s:Str):Rep K F (.str s) (.str s)
 |val (v:V):Rep K F v (.val v)
 |tup {a:Addr}{xs:Ζ}{ts:List T} : SqT K F a xs->bZ K F xs ts->Rep K F (.ref a) (.tup ts)
 |lst {a:Addr}{xs:Ζ}{ts:List T} : F a=some (.lst xs)->bZ K F xs ts->Rep K F (.ref a) (.lst ts)
 |scr {a:Addr}{xs:Ζ}{ts:List T} : SqL K F a xs->bZ K F xs ts->Rep K F (.ref a) (.scr ts)
 |dct {a:Addr}{ks:List Key}{xs:Ζ}{ts:List T} : Rd F a (.dK (ks.zip xs))->ks.length=xs.length->bZ K F xs ts->Rep K F (.ref a) (.dct ks ts)
 |ins {a C dx:Addr}{ks:Φ}{xs:Ζ}{ts:List T} : F a=some (.ins C dx (ks.zip xs))->F dx=some (.own a)->ks.length=xs.length->bZ K F xs ts->Rep K F (.ref a) (.ins C ks ts)
inductive bZ(K:Frag)(F:Hp):Ζ->List T->Prop
 |nil:bZ K F [] []
 |cons {x:V}{xs:Ζ}{t:T}{ts:List T} : Rep K F x t->bZ K F xs ts->bZ K F (x::xs) (t::ts)
end
section
variable{K:Frag}{F F' H H':Hp}
theorem Same.rd{a:Addr}{u:HO}(S:Same F F')(h:Rd F a u):Rd F' a u:=h.imp (S _ _) λhP=>by obtain⟨o,e⟩:=hP;exact⟨o,S _ _ e⟩
mutual
theorem Rep.same(S:Same F F'):∀{x:V}{t:T},Rep K F x t->Rep K F' x t
 |_,_,.any v=>.any v
 |_,_,.non=>.non
 |_,_,.bl b=>.bl b
 |_,_,.int i=>.int i
 |_,_,.str s=>.str s
 |_,_,.val v=>.val v
 |_,_,.tup e h=>.tup (S.tup e) (bZ.same S h)
 |_,_,.lst e h=>.lst (S _ _ e) (bZ.same S h)
 |_,_,.scr e h=>.scr (S.seq e) (bZ.same S h)
 |_,_,.dct e l h=>.dct (S.rd e) l (bZ.same S h)
 |_,_,.ins e d l h=>.ins (S _ _ e) (S _ _ d) l (bZ.same S h)
theorem bZ.same(S:Same F F'):∀{xs:Ζ}{ts:List T},bZ K F xs ts->bZ K F' xs ts
 |_,_,.nil=>.nil
 |_,_,.cons h t=>.cons (Rep.same S h) (bZ.same S t)
end
theorem Rep.lstI{x:V}{ts:List T}(h:Rep K F x (.lst ts)):∃a xs,x=.ref a/\F a=some (.lst xs)/\bZ K F xs ts:=by cases h;exact⟨_,_,rfl,by assumption,by assumption⟩
theorem Rep.tupI{x:V}{ts:List T}(h:Rep K F x (.tup ts)):∃a xs,x=.ref a/\SqT K F a xs/\bZ K F xs ts:=by cases h;exact⟨_,_,rfl,by assumption,by assumption⟩
theorem Rep.scrI{x:V}{ts:List T}(h:Rep K F x (.scr ts)):∃a xs,x=.ref a/\SqL K F a xs/\bZ K F xs ts:=by cases h;exact⟨_,_,rfl,by assumption,by assumption⟩
theorem Rep.dctI{x:V}{ks:List Key}{ts:List T}(h:Rep K F x (.dct ks ts)):∃a xs,x=.ref a/\Rd F a (.dK (ks.zip xs))/\ks.length=xs.length/\bZ K F xs ts:=by cases h;exact⟨_,_,rfl,by assumption,by assumption,by assumption⟩
theorem Rep.insI{x:V}{C:Addr}{ks:Φ}{ts:List T}(h:Rep K F x (.ins C ks ts)):∃a dx xs,x=.ref a/\F a=some (.ins C dx (ks.zip xs))/\F dx=some (.own a)/\ks.length=xs.length/\bZ K F xs ts:=by cases h;exact⟨_,_,_,rfl,by assumption,by assumption,by assumption,by assumption⟩
theorem bZ.len:∀{xs:Ζ}{ts:List T},bZ K F xs ts->xs.length=ts.length
 |_,_,.nil=>rfl
 |_,_,.cons _ t=>ZH (· + 1) (bZ.len t)
theorem bZ.app:∀{xs ys:Ζ}{ts us:List T},bZ K F xs ts->bZ K F ys us->bZ K F (xs++ys) (ts++us)
 |_,_,_,_,.nil,h=>h
 |_,_,_,_,.cons a b,h=>.cons a (bZ.app b h)
theorem bZ.at_:∀{xs:Ζ}{ts:List T}{i:Nat}{t:T},bZ K F xs ts->ts[i]?=some t->∃x,xs[i]?=some x/\Rep K F x t
 |_,_,_,_,.nil,e=>by cases e
 |_,_,0,_,.cons a _,e=>by cases e;exact⟨_,rfl,a⟩
 |_,_,i+1,_,.cons _ b,e=>by
  obtain⟨x,q,r⟩:=bZ.at_ (i:=i) b (by simpa using e);exact⟨x,by simpa using q,r⟩
theorem bZ.of_at:∀{xs:Ζ}{ts:List T},xs.length=ts.length->(∀(i:Nat)x t,xs[i]?=some x->ts[i]?=some t->Rep K F x t)->bZ K F xs ts
 |[],[],_,_=>.nil
 |x::xs,t::ts,l,h=>.cons (h 0 x t rfl rfl) (bZ.of_at (Nat.succ.inj l) λi y u e1 e2=>h (i+1) y u e1 e2)
 |[],_::_,l,_=>by cases l
 |_::_,[],l,_=>by cases l
theorem bZ.set{x:V}{t:T}(r:Rep K F x t):∀{xs:Ζ}{ts:List T}(i:Nat),bZ K F xs ts->bZ K F (xs.set i x) (ts.set i t)
 |_,_,_,.nil=>.nil
 |_,_,0,.cons _ h=>.cons r h
 |_,_,i+1,.cons a h=>.cons a (bZ.set r i h)
theorem bZ.take:∀{xs:Ζ}{ts:List T}(n:Nat),bZ K F xs ts->bZ K F (xs.take n) (ts.take n)
 |_,_,0,_=>.nil
 |_,_,_+1,.nil=>.nil
 |_,_,n+1,.cons a h=>.cons a (bZ.take n h)
theorem bZ.drop:∀{xs:Ζ}{ts:List T}(n:Nat),bZ K F xs ts->bZ K F (xs.drop n) (ts.drop n)
 |_,_,0,h=>h
 |_,_,_+1,.nil=>.nil
 |_,_,n+1,.cons _ h=>bZ.drop n h
noncomputable def hd(S:Addr->Prop)(H:Hp):Hp:=λb=>open Classical in if S b then none else H b
theorem qm{S:Addr->Prop}{b:Addr}(h:S b):hd S H b=none:=by unfold hd;rw[ZY h]
theorem cR{S:Addr->Prop}{b:Addr}(h:¬S b):hd S H b=H b:=by unfold hd;rw[ZZ h]
theorem cU{S:Addr->Prop}{b:Addr}{o:HO}(e:hd S H b=some o):¬S b/\H b=some o:=by
 by_cases h:S b
 .rw[qm h]at e;cases e
 .rw[cR h]at e;exact⟨h,e⟩
theorem h_{S S':Addr->Prop}(i:∀b,S' b->S b\/H b=none)(e:Same H H'):Same (hd S H) (hd S' H'):=λb o h=>by
 obtain⟨n,h⟩:=cU h;rw[cR λz=>?_]
 .exact e _ _ h
 .rcases i b z with y|y
  .exact n y
  .rw[h]at y;cases y
theorem dW{S:Addr->Prop} : Same (hd S H) H:=λ_ _ h=>(cU h).2
theorem bU{S:Addr->Prop}(e:Same H H'):Same (hd S H) (hd S H'):=h_ (λ_=>.inl) e
theorem Vb:hd (λ_=>False) H=H:=funext λ_=>cR id
inductive OT where
 |und|fz (t:T)|l1 (ts:List T)|l2 (aw:List (List T))|d1 (ks:List Key) (ts:List T)|ob (a dx C:Addr) (ks:Φ) (ts:List T)|la (a:Addr) (ts:List T)
noncomputable def frz:OT->T
 |.und=>.any
 |.fz t=>t
 |.l1 ts=>.lst ts
 |.l2 aw=>.lst (aw.map T.lst)
 |.d1 ks ts=>.dct ks ts
 |.ob _ _ C ks ts=>.ins C ks ts
 |.la _ ts=>.lst ts
def Slo(K:Frag)(F H:Hp)(v:Option V)(A:Ψ):OT->Prop
 |.und=>A=[]
 |.fz t=>A=[]/\∃u,v=some u/\Rep K F u t
 |.l1 ts=>∃a xs,v=some (.ref a)/\A=[a]/\H a=some (.lst xs)/\bZ K F xs ts
 |.l2 aw=>∃a bs,v=some (.ref a)/\A=a::bs/\(a::bs).Nodup/\H a=some (.lst (bs.map V.ref))/\bs.length=aw.length/\∀(i:Nat)b ts,bs[i]?=some b->aw[i]?=some ts->∃xs,H b=some (.lst xs)/\bZ K F xs ts
 |.d1 ks ts=>∃a xs,v=some (.ref a)/\A=[a]/\H a=some (.dK (ks.zip xs))/\ks.length=xs.length/\bZ K F xs ts
 |.ob a dx C ks ts=>∃xs,v=some (.ref a)/\A=[a,dx]/\H a=some (.ins C dx (ks.zip xs))/\H dx=some (.own a)/\ks.length=xs.length/\bZ K F xs ts
 |.la a ts=>∃xs,v=some (.ref a)/\A=[a]/\H a=some (.lst xs)/\bZ K F xs ts
theorem Slo.same{v:Option V}{A:Ψ}(S:Same F F')(E:Same H H'):∀{x:OT},Slo K F H v A x->Slo K F' H' v A x
 |.und,h=>h
 |.fz _,⟨a,u,e,r⟩=>⟨a,u,e,r.same S⟩
 |.l1 _,⟨a,xs,e,z,h,r⟩=>⟨a,xs,e,z,E _ _ h,r.same S⟩
 |.l2 _,⟨a,bs,e,z,n,h,l,r⟩=>⟨a,bs,e,z,n,E _ _ h,l,λi b ts e1 e2=>let⟨xs,q,r⟩:=r i b ts e1 e2;⟨xs,E _ _ q,r.same S⟩⟩
 |.d1 _ _,⟨a,xs,e,z,h,l,r⟩=>⟨a,xs,e,z,E _ _ h,l,r.same S⟩
 |.ob _ _ _ _ _,⟨xs,e,z,h,d,l,r⟩=>⟨xs,e,z,E _ _ h,E _ _ d,l,r.same S⟩
 |.la _ _,⟨xs,e,z,h,r⟩=>⟨xs,e,z,E _ _ h,r.same S⟩
theorem Slo.off{v:Option V}{A:Ψ} : ∀{x:OT},Slo K F H v A x->(∀b∈A,∀u,H b=some u->H' b=some u)->Slo K F H' v A x
 |.und,s,_=>s
 |.fz _,s,_=>s
 |.l1 _,⟨a,xs,e,z,w,r⟩,off=>⟨a,xs,e,z,off a (by rw[z];simp) _ w,r⟩
 |.l2 _,⟨a,bs,e,z,nd,w,l,r⟩,off=>⟨a,bs,e,z,nd,off a (by rw[z];simp) _ w,l,λi b ts e1 e2=>let⟨xs,q,r⟩:=r i b ts e1 e2;⟨xs,off b (by rw[z];exact aJ _ (aC e1)) _ q,r⟩⟩
 |.d1 _ _,⟨a,xs,e,z,w,r⟩,off=>⟨a,xs,e,z,off a (by rw[z];simp) _ w,r⟩
 |.ob a dx _ _ _,⟨xs,e,z,w,d,r⟩,off=>⟨xs,e,z,off a (by rw[z];simp) _ w,off dx (by rw[z];simp) _ d,r⟩
 |.la a _,⟨xs,e,z,w,r⟩,off=>⟨xs,e,z,off a (by rw[z];simp) _ w,r⟩
def X5(H:Hp)(a:Addr):Prop:=∃o,H a=some o/\((∃xs,o=.lst xs)\/(∃k,o=.dK k)\/(∃C d f,o=.ins C d f)\/∃x,o=.own x)
theorem Slo.sole{v:Option V}{A:Ψ}{x:OT}(h:Slo K F H v A x){a:Addr}(ha:a∈A):X5 H a:=by
 cases x with
 |und=>rw[show A=[]from h]at ha;cases ha
 |fz t=>rw[h.1]at ha;cases ha
 |l1 ts=>obtain⟨b,xs,_,rfl,e,_⟩:=h;cases YR.mp ha;exact⟨_,e,.inl ⟨_,rfl⟩⟩
 |l2 aw =>
  obtain⟨b,bs,_,rfl,_,e,l,r⟩:=h;rcases YU.mp ha with z|z
  .exact⟨_,z ▸ e,.inl ⟨_,rfl⟩⟩
  .obtain⟨i,hi⟩:=aV z;have li:i<aw.length:=l ▸ (ao.mp hi).1;obtain⟨xs,q,_⟩:=r i a _ hi (aj li);exact⟨_,q,.inl ⟨_,rfl⟩⟩
 |d1 ks ts=>obtain⟨b,xs,_,rfl,e,_⟩:=h;cases YR.mp ha;exact⟨_,e,.inr (.inl ⟨_,rfl⟩)⟩
 |ob b dx C ks ts =>
  obtain⟨xs,_,rfl,e,d,_⟩:=h;rcases YU.mp ha with z|z
  .exact⟨_,z ▸ e,.inr (.inr (.inl ⟨_,_,_,rfl⟩))⟩
  .cases YR.mp z;exact⟨_,d,.inr (.inr (.inr ⟨_,rfl⟩))⟩
 |la b ts=>obtain⟨xs,_,rfl,e,_⟩:=h;cases YR.mp ha;exact⟨_,e,.inl ⟨_,rfl⟩⟩
theorem Slo.frz{u:V}{A:Ψ}{x:OT}(h:Slo K F H (some u) A x)(S:Same F F')(E:∀a∈A,F' a=H a):Rep K F' u (frz x):=by
 cases x with
 |und=>exact .any _
 |fz t=>obtain⟨_,w,e,r⟩:=h;cases e;exact r.same S
 |l1 ts=>obtain⟨b,xs,e,rfl,q,r⟩:=h;cases e;exact .lst ((E _ (by simp)).trans q) (r.same S)
 |l2 aw =>
  obtain⟨b,bs,e,rfl,_,q,l,r⟩:=h;cases e;refine .lst ((E _ (by simp)).trans q) (bZ.of_at (by simp[l]) λi x t e1 e2=>?_);rw[aq]at e1 e2;cases e3:bs[i]? with
  |none=>rw[e3]at e1;cases e1
  |some c =>
   cases e4:aw[i]? with
   |none=>rw[e4]at e2;cases e2
   |some ts =>
    rw[e3]at e1;rw[e4]at e2;cases e1;cases e2;obtain⟨xs,q,r⟩:=r i c ts e3 e4;exact .lst ((E _ (aJ _ (aC e3))).trans q) (r.same S)
 |d1 ks ts=>obtain⟨b,xs,e,rfl,q,l,r⟩:=h;cases e;exact .dct (.inl ((E _ (by simp)).trans q)) l (r.same S)
 |ob b dx C ks ts=>obtain⟨xs,e,rfl,q,d,l,r⟩:=h;cases e;exact .ins ((E _ (by simp)).trans q) ((E _ (by simp)).trans d) l (r.same S)
 |la b ts=>obtain⟨xs,e,rfl,q,r⟩:=h;cases e;exact .lst ((E _ (by simp)).trans q) (r.same S)
def Ow(own:Nat->Ψ)(b:Addr):Prop:=∃i,b∈own i
structure SR(K:Frag)(own:Nat->Ψ)(H:Hp)(σ:L2.St)(o:List OT):Prop where
 len:o.length=σ.length
 sl:∀i x,o[i]?=some x->Slo K (hd (Ow own) H) H (σ[i]?.join) (own i) x
 out:∀i,o.length<=i->∀a∈own i,∃xs,H a=some (.lst xs)
 dis:∀i j a,a∈own i->a∈own j->i=j
variable{own:Nat->Ψ}{σ:L2.St}{o:List OT}
theorem SR.same(h:SR K own H σ o)(E:Same H H'):SR K own H' σ o:=⟨h.len,λi x e=>(h.sl i x e).same (bU E) E,λi hi a ha=>let⟨xs,e⟩:=h.out i hi a ha;⟨xs,E _ _ e⟩,h.dis⟩
theorem SR.sole(h:SR K own H σ o){b:Addr}(z:Ow own b):X5 H b:=by
 obtain⟨i,z⟩:=z;by_cases hi:i<o.length
 .exact(h.sl i _ (aj hi)).sole z
 .obtain⟨xs,e⟩:=h.out i (Nat.not_lt.mp hi) b z;exact⟨_,e,.inl ⟨_,rfl⟩⟩
theorem X5.ne{a:Addr}(h:X5 H a):H a≠none:=by
 obtain⟨o,e,_⟩:=h;rw[e];exact λz=>by cases z
def NR(K:Frag)(S:Addr->Prop)(H H':Hp)(v:V)(x:OT):Prop:=∃B,(∀a∈B,H a=none)/\Slo K (hd (λb=>S b\/b∈B) H') H' (some v) B x
theorem NR.rep{S:Addr->Prop}{v:V}{x:OT}(h:NR K S H H' v x)(hs:∀b,S b->H b≠none):Rep K (hd S H') v (L2.frz x):=by
 obtain⟨B,n,r⟩:=h;exact r.frz (h_ (λb z=>.inl (.inl z)) (λ_ _ z=>z)) λa ha=>cR λz=>hs a z (n a ha)
theorem NR.fz{S:Addr->Prop}{v:V}{t:T}(h:Rep K (hd S H') v t):NR K S H H' v (.fz t):=⟨[],λ_ z=>(nomatch z),rfl,v,rfl,h.same (h_ (λb z=>.inl (z.elim id λy=>(nomatch y))) λ_ _ z=>z)⟩
theorem NR.l1{S:Addr->Prop}{a:Addr}{xs:Ζ}{ts:List T}(n:H a=none)(e:H' a=some (.lst xs))(h:bZ K (hd (λb=>S b\/b=a) H') xs ts):NR K S H H' (.ref a) (.l1 ts) :=
 ⟨[a],λ_ z=>(YR.mp z) ▸ n,a,xs,rfl,rfl,e,h.same (h_ (λb z=>.inl (z.imp id YR.mp)) λ_ _ z=>z)⟩
theorem NR.back{S:Addr->Prop}{H0:Hp}{v:V}{x:OT}(h:NR K S H H' v x)(E:Same H0 H):NR K S H0 H' v x:=by
 obtain⟨B,n,r⟩:=h;exact⟨B,λa ha=>E.free (n a ha),r⟩
noncomputable def own1(own:Nat->Ψ)(i:Nat)(B:Ψ):Nat->Ψ:=λj=>if j=i then B else own j
theorem jg{i:Nat}{B:Ψ} : own1 own i B i=B:=ZY rfl
theorem fB{i j:Nat}{B:Ψ}(h:j≠i):own1 own i B j=own j:=ZZ h
theorem Ow.of1{i:Nat}{B:Ψ}{b:Addr}(h:Ow (own1 own i B) b):Ow own b\/b∈B:=by
 obtain⟨j,h⟩:=h;by_cases z:j=i
 .rw[z,jg]at h;exact .inr h
 .rw[fB z]at h;exact .inl ⟨j,h⟩
theorem SR.put(h:SR K own H σ o)(E:Same H H'){v:V}{x:OT}(n:NR K (Ow own) H H' v x){i:Nat}(hi:i<o.length):∃ah,SR K ah H' (σ.set i (some v)) (o.set i x)/\Same (hd (Ow own) H) (hd (Ow ah) H'):=by
 obtain⟨B,nb,r⟩:=n;have le:Same (hd (Ow own) H) (hd (Ow (own1 own i B)) H'):=h_ (λb z=>z.of1.imp id (nb b)) E;refine⟨own1 own i B,⟨by rw[VS,VS,h.len],λj y e=>?_,λj hj=>?_,λj k a e1 e2=>?_⟩,le⟩
 .by_cases z:j=i
  .subst z;rw[Tu hi]at e;cases e;rw[jg,Tu (h.len ▸ hi)];exact r.same (h_ (λb z=>.inl z.of1) λ_ _ z=>z) λ_ _ z=>z
  .rw[UP (Ne.symm z)]at e;rw[fB z,UP (Ne.symm z)];exact(h.sl j y e).same le E
 .rw[VS]at hj;rw[fB (by lia)];intro a ha;obtain⟨xs,e⟩:=h.out j hj a ha;exact⟨xs,E _ _ e⟩
 .by_cases z:j=i<;>by_cases y:k=i
  .rw[z,y]
  .rw[z,jg]at e1;rw[fB y]at e2;exact absurd (nb a e1) (h.sole ⟨k,e2⟩).ne
  .rw[y,jg]at e2;rw[fB z]at e1;exact absurd (nb a e2) (h.sole ⟨j,e1⟩).ne
  .rw[fB z]at e1;rw[fB y]at e2;exact h.dis j k a e1 e2
theorem SR.frz(h:SR K own H σ o){i:Nat}{x:OT}(e:o[i]?=some x){u:V}(hu:σ[i]?=some (some u)):∃ah,SR K ah H σ (o.set i (.fz (L2.frz x)))/\Same (hd (Ow own) H) (hd (Ow ah) H):=by
 have hi:i<o.length:=(ao.mp e).1;have le:Same (hd (Ow own) H) (hd (Ow (own1 own i [])) H):=h_ (λb z=>.inl (z.of1.elim id λy=>(nomatch y))) λ_ _ z=>z;have hs:=h.sl i x e;rw[hu]at hs;refine⟨own1 own i [],⟨by rw[VS,h.len],λj y e'=>?_,λj hj=>?_,λj k a e1 e2=>?_⟩,le⟩
 .by_cases z:j=i
  .subst z;rw[Tu hi]at e';cases e';rw[jg,hu];exact⟨rfl,u,rfl,Slo.frz hs le λa ha=>cR λz=>by
    obtain⟨k,z⟩:=z;by_cases y:k=j
    .rw[y,jg]at z;cases z
    .rw[fB y]at z;exact y (h.dis k j a z ha)⟩
  .rw[UP (Ne.symm z)]at e';rw[fB z];exact(h.sl j y e').same le λ_ _ z=>z
 .rw[VS]at hj;rw[fB (by lia)];exact h.out j hj
 .by_cases z:j=i
  .rw[z,jg]at e1;cases e1
  by_cases y:k=i
  .rw[y,jg]at e2;cases e2
  .rw[fB z]at e1;rw[fB y]at e2;exact h.dis j k a e1 e2
theorem SR.chg(h:SR K own H σ o){i:Nat}{x:OT}(e:o[i]?=some x){y:OT}(E:∀b u,b∉own i->H b=some u->H' b=some u)(r:Slo K (hd (Ow own) H') H' (σ[i]?.join) (own i) y):SR K own H' σ (o.set i y)/\Same (hd (Ow own) H) (hd (Ow own) H'):=by
 have hi:i<o.length:=(ao.mp e).1;have le:Same (hd (Ow own) H) (hd (Ow own) H'):=λb u z=>by
  obtain⟨n,z⟩:=cU z;rw[cR n];exact E b u (λq=>n ⟨i,q⟩) z
 refine⟨⟨by rw[VS,h.len],λj z e'=>?_,λj hj a ha=>?_,h.dis⟩,le⟩
 rotate_left
 .rw[VS]at hj;obtain⟨xs,e2⟩:=h.out j hj a ha;exact⟨xs,E a _ (λz=>by have:=h.dis j i a ha z;lia) e2⟩
 by_cases q:j=i
 .subst q;rw[Tu hi]at e';cases e';exact r
 .rw[UP (Ne.symm q)]at e';exact((h.sl j z e').same le λ_ _ z=>z).off λb hb u=>E b u λz=>q (h.dis j i b hb z)
theorem SR.get(h:SR K own H σ o){i:Nat}{t:T}(e:o[i]?=some (.fz t)):∃u,σ[i]?=some (some u)/\Rep K (hd (Ow own) H) u t:=by
 obtain⟨_,u,q,r⟩:=h.sl i _ e;refine⟨u,?_,r⟩;cases z:σ[i]? with
 |none=>rw[z]at q;cases q
 |some w=>rw[z]at q;exact ZH some q
end
end L2
namespace L2
open PySem PySem.Spec PyProof.Rows
abbrev RE:=List OT->(OT->Prop)->Prop
abbrev RT:=List OT->(Bool->Prop)->Prop
abbrev RA:=List OT->(List T->Prop)->Prop
def tQ(K:Frag)(r:RE):TE:=λσ H Q=>∃own o R,SR K own H σ o/\r o R/\∀H' v x,R x->Same H H'->NR K (Ow own) H H' v x->Q v H'
def tQT(K:Frag)(r:RT):TT:=λσ H Q=>∃own o R,SR K own H σ o/\r o R/\∀H' b,R b->Same H H'->Q b H'
def tQA(K:Frag)(n:Nat)(r:RA):TA:=λσ H Q=>∃own o R,SR K own H σ o/\r o R/\∀H' vs ts,R ts->ts.length=n->Same H H'->bZ K (hd (Ow own) H') vs ts->Q vs H'
def QE(X:Cx)(e:Expr)(r:RE):Prop:=PE X e (tQ X.K r)
def QT(X:Cx)(e:Expr)(r:RT):Prop:=PT X e (tQT X.K r)
def QW(X:Cx)(e:Expr)(r:RT):Prop:=PW X e (tQT X.K r)
def QA(X:Cx)(es:List Expr)(r:RA):Prop:=PA X es (tQA X.K es.length r)
theorem PT.imp{X:Cx}{e:Expr}{t t':TT}(h:PT X e t)(i:∀σ H Q,t' σ H Q->t σ H Q):PT X e t':=λaa s σ H Q I q=>h aa s σ H Q I (i σ H Q q)
theorem PW.imp{X:Cx}{e:Expr}{t t':TT}(h:PW X e t)(i:∀σ H Q,t' σ H Q->t σ H Q):PW X e t':=λwh aa s σ H Q I q=>h wh aa s σ H Q I (i σ H Q q)
theorem PA.imp{X:Cx}{es:List Expr}{t t':TA}(h:PA X es t)(i:∀σ H Q,t' σ H Q->t σ H Q):PA X es t':=λp aa s σ H Q I q=>h p aa s σ H Q I (i σ H Q q)
section
variable{K:Frag}{own:Nat->Ψ}{H:Hp}{σ:L2.St}{o:List OT}
theorem tQ.mk{r:RE}{R:OT->Prop}{Q:VK}(h:SR K own H σ o)(hr:r o R)(k:∀H' v x,R x->Same H H'->Rep K (hd (Ow own) H') v (frz x)->Q v H'):tQ K r σ H Q :=
 ⟨own,o,R,h,hr,λH' v x rx E n=>k H' v x rx E (n.rep λb z=>(h.sole z).ne)⟩
noncomputable def slot:List OT->Nat->OT
 |[],_=>.und
 |x::_,0=>x
 |_::l,n+1=>slot l n
theorem gn:∀{o:List OT}{i:Nat}{x:OT},slot o i=x->x≠.und->o[i]?=some x
 |[],_,_,e,n=>absurd e.symm n
 |_::_,0,_,e,_=>ZH some e
 |_::l,i+1,x,e,n=>by simpa using gn (o:=l) (i:=i) e n
end
def agb(i:Nat):RE:=λo q=>match slot o i with|.fz t=>q (.fz t)|_=>False
def rC(t:T):RE:=λ_ q=>q (.fz t)
def rOp(g:T->T->(OT->Prop)->Prop)(a b:RE):RE:=λo q=>a o λx=>b o λy=>g (frz x) (frz y) q
def rUn(g:T->(OT->Prop)->Prop)(a:RE):RE:=λo q=>a o λx=>g (frz x) q
def sw(b:Bool)(p q:Prop):Prop:=match b with|true=>p|false=>q
theorem sw2{b:Bool}{p q:Prop}(h1:b=true->p)(h2:b=false->q):sw b p q:=by
 cases b
 .exact h2 rfl
 .exact h1 rfl
theorem swD{c:Prop}[Decidable c]{p q:Prop}(h1:c->p)(h2:¬c->q):sw (decide c) p q:=sw2 (λe=>h1 (of_decide_eq_true e)) λe=>h2 (of_decide_eq_false e)
theorem swT{b:Bool}{p q:Prop}(e:b=true)(h:p):sw b p q:=by subst e;exact h
theorem swF{b:Bool}{p q:Prop}(e:b=false)(h:q):sw b p q:=by subst e;exact h
section
variable{X:Cx}{a b c:Expr}{ra rb rc:RE}{pos:Pos}
theorem qv(i:Nat){x:Str}{pos:Pos}(hN:X.N[i]?=some x:=by rfl)(hv:q_ X.env.scope x=true:=by rfl)(hd:(x==("__debug__":Str))=false:=by decide)
 (bg:(x==("__classdict__":Str))=false:=by decide):QE X (.Name x pos) (agb i):=(pv i hN hv hd bg).imp λσ H Q hP=>by
 obtain⟨own,o,R,h,hr,k⟩:=hP;unfold agb at hr;cases e:slot o i with
 |fz t =>
  rw[e]at hr;obtain⟨u,q,r⟩:=h.get (gn e (by intro z;cases z));exact⟨u,q,k H u _ hr (.refl _) (NR.fz r)⟩
 |_=>rw[e]at hr;exact hr.elim
theorem qC{e:Expr}{v:V}{t:T}(h:PE X e (tC v))(r:∀F,Rep X.K F v t):QE X e (rC t):=h.imp λσ H Q hP=>by obtain⟨own,o,R,_,hr,k⟩:=hP;exact k H v _ hr (.refl _) (NR.fz (r _))
theorem bA{i j pos} : QE X (.Constant (.int i) j pos) (rC (.int i)):=qC aga λ_=>.int _
theorem v8{b j pos} : QE X (.Constant (.bool b) j pos) (rC (.bl b)):=qC akh λ_=>.bl _
theorem jf{j pos} : QE X (.Constant .none j pos) (rC .non):=qC aey λ_=>.non
theorem uG{x j pos} : QE X (.Constant (.str x) j pos) (rC (.str x)):=qC ae9 λ_=>.str _
theorem aaH{x:Str}{v:V}{t:T}{pos:Pos}(hg:Gl X x)(hm:∃u,X.mg x=some u/\RelV v u)(r:∀F,Rep X.K F v t)(hd:(x==("__debug__":Str))=false:=by decide):QE X (.Name x pos) (rC t):=qC (ZP hg hm hd) r
def GO(X:Cx)(f:Value->Value->Sem Value)(g:T->T->(OT->Prop)->Prop):Prop:=OpR X f λx y H Q=>∃S t u R,(∀b,S b->H b≠none)/\Rep X.K (hd S H) x t/\Rep X.K (hd S H) y u/\g t u R/\∀H' v z,R z->Same H H'->NR X.K S H H' v z->Q v H'
theorem q2{g:T->T->(OT->Prop)->Prop}{σ:L2.St}{H:Hp}{Q:VK}(h:tQ X.K (rOp g ra rb) σ H Q):tOp (λx y H Q=>∃S t u R,(∀b,S b->H b≠none)/\Rep X.K (hd S H) x t/\Rep X.K (hd S H) y u/\g t u R/\∀H' v z,R z->Same H H'->NR X.K S H H' v z->Q v H') (tQ X.K ra) (tQ X.K rb) σ H Q:=by
 obtain⟨own,o,R,h,hr,k⟩:=h;exact tQ.mk h hr λH1 v x q E1 r1=>tQ.mk (h.same E1) q λH2 w y q2 E2 r2=>⟨Ow own,_,_,R,λb z=>((h.same (E1.trans E2)).sole z).ne,r1.same (bU E2),r2,q2,λH' u z rz E3 n=>k H' u z rz (E1.trans (E2.trans E3)) (n.back (E1.trans E2))⟩
theorem bK{op:Operator}{g:T->T->(OT->Prop)->Prop}(ho:GO X (binaryOp op) g)(ha:QE X a ra)(hb:QE X b rb):QE X (.BinOp a op b pos) (rOp g ra rb):=(ajr ho ha hb).imp λ_ _ _=>q2
theorem Dr{op:CmpOp}{g:T->T->(OT->Prop)->Prop}(ho:GO X (compareOp op) g)(ha:QE X a ra)(hb:QE X b rb)(hm:behindInMarks op b=false:=by exact aaj _):QE X (.Compare a [op] [b] pos) (rOp g ra rb):=(acR ho ha hb hm).imp λ_ _ _=>q2
def gI(g:Int->Int->OT):T->T->(OT->Prop)->Prop
 |.int i,.int j,q=>q (g i j)
 |_,_,_=>False
theorem GO.ints{f:Value->Value->Sem Value}{g:Int->Int->V}{t:Int->Int->T}(h:OpR X f (rI0 g))(r:∀i j F,Rep X.K F (g i j) (t i j)):GO X f (gI λi j=>.fz (t i j)):=h.imp λx y H Q hP=>by
 obtain⟨S,t,u,R,_,hx,hy,hg,k⟩:=hP;cases hx<;>try exact hg.elim
 cases hy<;>try exact hg.elim
 exact⟨_,_,rfl,rfl,k H _ _ hg (.refl _) (NR.fz (r _ _ _))⟩
theorem mC:GO X (binaryOp .Sub) (gI λi j=>.fz (.int (i-j))):=.ints aeA λ_ _ _=>.int _
theorem vQ:GO X (compareOp .Lt) (gI λi j=>.fz (.bl (decide (i<j)))):=.ints akY λ_ _ _=>.bl _
theorem Qj:GO X (compareOp .LtE) (gI λi j=>.fz (.bl (decide (i<=j)))):=.ints akG λ_ _ _=>.bl _
theorem Ek:GO X (compareOp .Gt) (gI λi j=>.fz (.bl (decide (j<i)))):=.ints aij λ_ _ _=>.bl _
theorem Z2:GO X (compareOp .GtE) (gI λi j=>.fz (.bl (decide (j<=i)))):=.ints ahy λ_ _ _=>.bl _
def amk:T->T->(OT->Prop)->Prop
 |.int i,.int j,q=>q (.fz (.int (i+j)))
 |.str a,.str b,q=>a.length+b.length<=sizeLine/\q (.fz (.str (a++b)))
 |.lst a,.lst b,q=>a.length+b.length<=sizeLine/\q (.l1 (a++b))
 |_,_,_=>False
theorem zF{S:Addr->Prop}{H H':Hp}{p:Addr}{xs:Ζ}{ts:List T}(r:bZ X.K (hd S H) xs ts)(E:Same H H')(n:H p=none)(e:H' p=some (.lst xs)):NR X.K S H H' (.ref p) (.l1 ts) :=
 NR.l1 n e (r.same (h_ (λb z=>z.imp id λ(y:b=p)=>y ▸ n) E))
theorem cN:GO X (binaryOp .Add) amk:=λaa s σ H x y v u Q I rx ry hP=>by
 obtain⟨S,t,w,R,_,hx,hy,hg,k⟩:=hP;cases t<;>try exact hg.elim
 .cases hx;cases w<;>try exact hg.elim
  cases hy;exact ae4 aa s σ H _ _ v u Q I rx ry ⟨_,_,rfl,rfl,k H _ _ hg (.refl _) (NR.fz (.int _))⟩
 .cases hx;cases w<;>try exact hg.elim
  cases hy;exact abC aa s σ H _ _ v u Q I rx ry ⟨_,_,rfl,rfl,hg.1,k H _ _ hg.2 (.refl _) (NR.fz (.str _))⟩
 .cases w<;>try exact hg.elim
  obtain⟨a,xs,rfl,e1,r1⟩:=hx.lstI;obtain⟨b,ys,rfl,e2,r2⟩:=hy.lstI;exact abE aa s σ H _ _ v u Q I rx ry ⟨a,b,xs,ys,rfl,rfl,(cU e1).2,(cU e2).2,by rw[r1.len,r2.len];exact hg.1,λp H' E n e=>k H' _ _ hg.2 E (zF (r1.app r2) E n e)⟩
def al7:T->T->(OT->Prop)->Prop
 |.int i,.int j,q=>(Bd i/\Bd j)/\q (.fz (.int (i*j)))
 |.lst a,.int j,q=>(-(2^63)<=j/\j<2^63/\a.length*j.toNat<=sizeLine)/\∀z,z=(List.replicate j.toNat a).flatten->q (.l1 z)
 |.str a,.int j,q=>(∃c,a=⟨#[c]⟩/\1<=j/\j<=1000/\∀z:Str,z.cps.toList=List.replicate j.toNat c->q (.fz (.str z)))
 |_,_,_=>False
def anp:T->T->(OT->Prop)->Prop
 |.int i,.int j,q=>(j≠0/\Bd j)/\q (.fz (.int (i.fdiv j)))
 |_,_,_=>False
def alJ:T->T->(OT->Prop)->Prop
 |.int i,.int j,q=>0<j/\q (.fz (.int (i%j)))
 |_,_,_=>False
def anb:T->T->(OT->Prop)->Prop
 |.int i,.int j,q=>akI i j/\q (.fz (.int (i^j.toNat)))
 |_,_,_=>False
theorem mF:GO X (binaryOp .FloorDiv) anp:=aa6.imp λx y H Q hP=>by
 obtain⟨S,t,u,R,_,hx,hy,hg,k⟩:=hP;cases hx<;>try exact hg.elim
 cases hy<;>try exact hg.elim
 exact⟨_,_,rfl,rfl,hg.1,k H _ _ hg.2 (.refl _) (NR.fz (.int _))⟩
theorem cC:GO X (binaryOp .Mod) alJ:=agr.imp λx y H Q hP=>by
 obtain⟨S,t,u,R,_,hx,hy,hg,k⟩:=hP;cases hx<;>try exact hg.elim
 cases hy<;>try exact hg.elim
 exact⟨_,_,rfl,rfl,hg.1,k H _ _ hg.2 (.refl _) (NR.fz (.int _))⟩
theorem Uh:GO X (binaryOp .Pow) anb:=aef.imp λx y H Q hP=>by
 obtain⟨S,t,u,R,_,hx,hy,hg,k⟩:=hP;cases hx<;>try exact hg.elim
 cases hy<;>try exact hg.elim
 exact⟨_,_,rfl,rfl,hg.1,k H _ _ hg.2 (.refl _) (NR.fz (.int _))⟩
def anx:T->(OT->Prop)->Prop
 |.int i,q=>q (.fz (.int (-i)))
 |_,_=>False
theorem zG(ha:QE X a ra):QE X (.UnaryOp .USub a pos) (rUn anx ra):=(agz afX ha).imp λσ H Q ⟨own,o,R,h,hr,k⟩=>tQ.mk h hr λH1 v x q E1 r1=>by
 revert r1 q
 generalize frz x=t;intro q r1;cases r1<;>try exact q.elim
 exact⟨_,rfl,k _ _ _ q E1 (NR.fz (.int _))⟩
noncomputable def V0:T->Option Bool
 |.non=>some true
 |.any=>none
 |.val v=>some (decide (v=.non))
 |_=>some false
def gIs(neg:Bool):T->T->(OT->Prop)->Prop:=λt u q=>match u,V0 t with
 |.non,some b=>q (.fz (.bl (xor neg b)))
 |_,_=>False
theorem Q9{F:Hp}{K:Frag}{x:V}{t:T}{b:Bool}(h:Rep K F x t)(e:V0 t=some b):decide (x=.non)=b:=by
 cases h<;>cases e<;>first|rfl|(apply Zp;intro z;cases z)
theorem GR:GO X (compareOp .Is) (gIs false):=afv.imp λx y H Q hP=>by
 obtain⟨S,t,u,R,_,hx,hy,hg,k⟩:=hP;cases hy<;>try exact hg.elim
 unfold gIs at hg;cases e:V0 t with
 |none=>rw[e]at hg;exact hg.elim
 |some b=>rw[e]at hg;exact⟨rfl,k H _ _ hg (.refl _) (NR.fz (by rw[Q9 hx e,Bool.false_xor];exact .bl _))⟩
theorem Gp:GO X (compareOp .IsNot) (gIs true):=acQ.imp λx y H Q hP=>by
 obtain⟨S,t,u,R,_,hx,hy,hg,k⟩:=hP;cases hy<;>try exact hg.elim
 unfold gIs at hg;cases e:V0 t with
 |none=>rw[e]at hg;exact hg.elim
 |some b=>rw[e]at hg;exact⟨rfl,k H _ _ hg (.refl _) (NR.fz (by rw[Q9 hx e,Bool.true_xor];exact .bl _))⟩
end
structure Hid(H:Hp)(S:Addr->Prop):Prop where
 sole:∀b,S b->X5 H b
 ins:∀a C dx fs,S a->H a=some (.ins C dx fs)->S dx
 own:∀b x,S b->H b=some (.own x)->S x
theorem SR.mate{K:Frag}{own:Nat->Ψ}{H:Hp}{σ:L2.St}{o:List OT}(h:SR K own H σ o){j:Nat}{b:Addr}(hb:b∈own j):(∀C d f,H b=some (.ins C d f)->d∈own j)/\∀x,H b=some (.own x)->x∈own j:=by
 have nl:∀{xs:Ζ},H b=some (.lst xs)->(∀C d f,H b=some (.ins C d f)->d∈own j)/\∀x,H b=some (.own x)->x∈own j:=λq=>⟨(λ_ _ _ e=>by rw[q]at e;cases e),(λ_ e=>by rw[q]at e;cases e)⟩;by_cases hj:j<o.length
 .have s:=h.sl j _ (aj hj);cases y:o[j]with
  |und=>rw[y]at s;rw[show own j=[]from s]at hb;cases hb
  |fz t=>rw[y]at s;rw[s.1]at hb;cases hb
  |l1 ts=>rw[y]at s;obtain⟨c,xs,_,w,q,_⟩:=s;rw[w]at hb;cases YR.mp hb;exact nl q
  |l2 aw =>
   rw[y]at s;obtain⟨c,bs,_,w1,_,q1,l,r⟩:=s;rw[w1]at hb;rcases YU.mp hb with z|z
   .exact nl (z ▸ q1)
   .obtain⟨i,hi⟩:=aV z;obtain⟨xs,q2,_⟩:=r i b _ hi (aj (l ▸ (ao.mp hi).1));exact nl q2
  |d1 ks ts=>rw[y]at s;obtain⟨c,xs,_,w,q,_⟩:=s;rw[w]at hb;cases YR.mp hb;exact⟨(λ_ _ _ e=>by rw[q]at e;cases e),(λ_ e=>by rw[q]at e;cases e)⟩
  |la c ts=>rw[y]at s;obtain⟨xs,_,w,q,_⟩:=s;rw[w]at hb;cases YR.mp hb;exact nl q
  |ob c d C' ks ts =>
   rw[y]at s;obtain⟨xs,_,w,q,q2,_⟩:=s;rw[w]at hb ⊢;rcases YU.mp hb with z|z
   .refine⟨λ_ _ _ e=>?_,λ_ e=>?_⟩
    .rw[z,q]at e;cases e;simp
    .rw[z,q]at e;cases e
   .cases YR.mp z;refine⟨λ_ _ _ e=>?_,λ_ e=>?_⟩
    .rw[q2]at e;cases e
    .rw[q2]at e;cases e;simp
 .obtain⟨xs,q⟩:=h.out j (Nat.not_lt.mp hj) b hb;exact nl q
theorem SR.hid{K:Frag}{own:Nat->Ψ}{H:Hp}{σ:L2.St}{o:List OT}(h:SR K own H σ o):Hid H (Ow own) :=
 ⟨λb z=>h.sole z,λa C dx fs ⟨j,z⟩ e=>⟨j,(h.mate z).1 C dx fs e⟩,λb x ⟨j,z⟩ e=>⟨j,(h.mate z).2 x e⟩⟩
noncomputable def mrg(S:Addr->Prop)(H G:Hp):Hp:=λb=>open Classical in if S b then H b else G b
theorem vM{S:Addr->Prop}{H G:Hp}{b:Addr}(h:S b):mrg S H G b=H b:=by unfold mrg;rw[ZY h]
theorem lN{S:Addr->Prop}{H G:Hp}{b:Addr}(h:¬S b):mrg S H G b=G b:=by unfold mrg;rw[ZZ h]
def spH(sp:Sp):Sp:=λvs H Q _=>∃S:Addr->Prop,Hid H S/\sp vs (hd S H) (λv G=>(∀b,S b->G b=none)->Q v (mrg S H G)) λ_ _ _=>False
section
variable{P:Program}{w:World}{K:Frag}{mg:Str->Ω}{base:Heap}
theorem cj.hid{k:Nat}{f:Addr}{fd:FuncData}{ps:Φ}{sp:Sp}(F:cj P w K mg base CX0 k f fd ps sp):cj P w K mg base CX0 k f fd ps (spH sp):=by
 refine⟨λvs H Q E h=>?_,λA outer s H args us vs Q E hr e0 hb r h=>?_⟩
 .obtain⟨S,_,z⟩:=h;exact F.len vs _ _ _ z
 obtain⟨S,hS,z⟩:=h;have non:∀{b:Addr},H b=none->hd S H b=none:=λ{b}e=>by
  by_cases z:S b
  .exact qm z
  .rw[cR z];exact e
 have dS:∀{b:Addr}{u:HO},S b->H b=some u->(∀xs,u≠.tup xs)/\(∀o v,u≠.frz o v)/\∀ps,u≠.tbl ps:=λ{b u}z e=>by
  obtain⟨o,q,w⟩:=hS.sole b z;rw[e]at q;cases q;rcases w with⟨_,rfl⟩|⟨_,rfl⟩|⟨_,_,_,rfl⟩|⟨_,rfl⟩<;>exact⟨λ_ z=>(nomatch z),λ_ _ z=>(nomatch z),λ_ z=>(nomatch z)⟩
 have e1:Qg P w K mg base A outer s (hd S H):=⟨e0.frames,e0.mod,λb o e=>⟨(e0.bs b o e).1,non (e0.bs b o e).2⟩,e0.bsz,e0.funs,λb hb=>non (e0.frf b hb),λb u e=>by
  obtain⟨nb,e'⟩:=cU e;refine(e0.hok b u e').stay (λ_ _ _ z=>z) (λd z=>?_) λd xs z=>?_
  .rw[cR λy=>nb (hS.own d b y z)];exact z
  .rw[cR λy=>(dS y z).1 xs rfl];exact z,e0.bare⟩
 refine codeAny_mono (F.run A outer s (hd S H) args us vs _ _ hr e1 hb r z) λres s' hs=>?_;cases res with
 |error e=>exact hs.elim
 |ok fl =>
  cases fl with
  |next=>exact False.elim hs
  |brk=>exact False.elim hs
  |cont=>exact False.elim hs
  |ret u =>
   obtain⟨v,G,os,bare,un,hok,rv,q⟩:=hs;have there:∀{b:Addr},S b->∃o,s.heap.get? b=some o:=λ{b}y=>by
    obtain⟨u,e,w⟩:=hS.sole b y;have x:=e0.hok b u e;rcases w with⟨xs,rfl⟩|⟨kk,rfl⟩|⟨C,d,f,rfl⟩|⟨y,rfl⟩
    .obtain⟨_,_,_,_,e2⟩:=x;exact⟨_,e2⟩
    .obtain⟨_,_,_,_,_,_,_,e2,_⟩:=x;exact⟨_,e2⟩
    .obtain⟨_,_,_,e2,_⟩:=x;exact⟨_,e2⟩
    .exact x
   have keep:∀{b:Addr}{o:Obj},S b->s.heap.get? b=some o->s'.heap.get? b=some o:=λ{b o}y e=>un.keep b o e (qm y) (λz=>(hS.sole b y).ne (e0.frf b z)) (by simp);have gone:∀b,S b->G b=none:=λb y=>by
    obtain⟨o,ho⟩:=there y;exact un.free b o ho (qm y) (by simp)
   have no':∀{b:Addr}{u:HO},G b=some u->¬S b:=λe z=>by rw[gone _ z]at e;cases e
   have de:∀{b:Addr}{u:HO},G b=some u->mrg S H G b=some u:=λe=>(lN (no' e)).trans e;refine⟨v,mrg S H G,os,bare,⟨λb o e n=>un.keep b o e (non n),λb o e n=>un.slot b o e (non n),λb o e n z=>?_,un.there,λb xs e=>?_,λb o u e=>?_,λb ps e=>?_⟩,λb u e=>?_,rv,q gone⟩
   .rw[lN λy=>(hS.sole b y).ne n];exact un.free b o e (non n) z
   .have n:¬S b:=λy=>(dS y e).1 xs rfl;exact de (un.tups b xs ((cR n).trans e))
   .have n:¬S b:=λy=>(dS y e).2.1 o u rfl;exact de (un.frzs b o u ((cR n).trans e))
   .have n:¬S b:=λy=>(dS y e).2.2 ps rfl;obtain⟨more,this⟩:=un.tbls b ps ((cR n).trans e);exact⟨more,de this⟩
   .by_cases z:S b
    .rw[vM z]at e;have x:=e0.hok b u e;obtain⟨u',e',w⟩:=hS.sole b z;rw[e]at e';cases e';rcases w with⟨xs,rfl⟩|⟨kk,rfl⟩|⟨C,d,f,rfl⟩|⟨y,rfl⟩
     .obtain⟨z1,its,n,r,e2⟩:=x;exact⟨z1,its,n,r,keep z e2⟩
     .obtain⟨z1,y,vs,r,ob,es,ep,e2,c⟩:=x;exact⟨z1,y,vs,r,ob,es,ep,keep z e2,c⟩
     .obtain⟨d1,z1,ne,e2,mA,⟨od,es,ep,e3,c⟩,r⟩:=x;have sd:=hS.ins b C d f z e;exact⟨(vM sd).trans d1,z1,ne,keep z e2,mA,⟨od,es,ep,keep sd e3,c⟩,r⟩
     .obtain⟨ob,e2⟩:=x;exact⟨ob,keep z e2⟩
    .rw[lN z]at e;exact(hok b u e).stay (λ_ _ _ z=>z) (λd z=>de z) λd xs z=>de z
abbrev ST:=List T->(OT->Prop)->Prop
def spT(K:Frag)(S:ST):Sp:=λvs H Q _=>∃ts R,bZ K H vs ts/\S ts R/\∀H' v x,R x->Same H H'->NR K (λ_=>False) H H' v x->Q v H'
abbrev OkT(P:Program)(w:World)(K:Frag)(mg:Str->Ω)(base:Heap)(k:Nat)(x:Str)(ps:Φ)(S:ST):Prop:=OkF P w K mg base k x ps (spT K S)
end
section
variable{X:Cx}
def aeN:RA:=λ_ q=>q []
def ad5(a:RE)(r:RA):RA:=λo q=>a o λx=>r o λts=>q (frz x::ts)
theorem bF:QA X [] aeN:=OJ.imp λσ H Q hP=>by obtain⟨own,o,R,h,hr,k⟩:=hP;exact k H [] [] hr rfl (.refl _) .nil
theorem tQA.mk{K:Frag}{own:Nat->Ψ}{H:Hp}{σ:L2.St}{o:List OT}{r:RA}{R:List T->Prop}{Q:Ζ->Hp->Prop}(h:SR K own H σ o)(hr:r o R){n:Nat}(k:∀H' vs ts,R ts->ts.length=n->Same H H'->bZ K (hd (Ow own) H') vs ts->Q vs H'):tQA K n r σ H Q:=⟨own,o,R,h,hr,k⟩
theorem bx{e:Expr}{es:List Expr}{a:RE}{r:RA}(ha:QE X e a)(hr:QA X es r)(hs:starEach (e::es) X.env=(false,eval e X.env)::starEach es X.env:=by rfl):QA X (e::es) (ad5 a r):=(oJ ha hr hs).imp λσ H Q ⟨own,o,R,h,hr,k⟩ =>
 tQ.mk h hr λH1 v x q E1 r1=>tQA.mk (h.same E1) q λH2 vs ts q2 ln E2 r2=>k H2 (v::vs) (frz x::ts) q2 (ZH (· + 1) ln) (E1.trans E2) (.cons (r1.same (bU E2)) r2)
def Yz(S:ST)(r:RA):RE:=λo q=>r o λts=>S ts q
theorem bI{p pos:Pos}{e:Expr}{es:List Expr}{r:RA}{x:Str}{k:Nat}{ps:Φ}{S:ST}(G:OkT X.prog X.w X.K X.mg X.base k x ps S)(hr:fD k X.A)(hg:Gl X x)(ha:QA X (e::es) r)(ce:(x==("__debug__":Str))=false:=by decide)
 (he:starEach (e::es) X.env=(false,eval e X.env)::starEach es X.env:=by rfl)(bi:(backTo pos (starEach es X.env)).any (·.1)=false:=by rfl):QE X (.Call (.Name x p) (e::es) [] pos) (Yz S r):=by
 obtain⟨f,fd,F,b,hm,kp⟩:=G;refine(G3 (sp:=spH (spT X.K S)) ⟨f,fd,F.hid,b,hm,kp⟩ hr hg ha ce he bi).imp λσ H Q ⟨own,o,R,h,hr,k⟩=>tQA.mk h hr λH1 vs ts q _ E1 r1=>?_;have h1:=h.same E1;refine⟨Ow own,h1.hid,ts,R,r1,q,λG v x rx E n gone=>?_⟩;have EH:Same H1 (mrg (Ow own) H1 G):=λb u e=>by
  by_cases z:Ow own b
  .rw[vM z];exact e
  .rw[lN z];exact E b u ((cR z).trans e)
 have EG:Same G (mrg (Ow own) H1 G):=λb u e=>by rw[lN λz=>by rw[gone b z]at e;cases e];exact e
 refine k _ v x rx (E1.trans EH) (NR.back (H:=H1) ?_ E1);obtain⟨B,nb,s⟩:=n;have out:∀a∈B,¬Ow own a:=λa ha z=>(s.sole ha).ne (gone a z);refine⟨B,λa ha=>by have:=nb a ha;rwa[cR (out a ha)]at this,s.same (h_ (λb z=>?_) EG) EG⟩;rcases z with z|z
 .exact .inr (gone b z)
 .exact .inl (.inr z)
end
def rB(a:RE):RT:=λo q=>a o λx=>match frz x with|.bl b=>q b|_=>False
def tru:T->(Bool->Prop)->Prop
 |.bl b,q=>q b
 |.int i,q=>q (i != 0)
 |.non,q=>q false
 |.lst ts,q=>q (!ts.isEmpty)
 |.tup ts,q=>q (!ts.isEmpty)
 |_,_=>False
def alU(a:RE):RT:=λo q=>a o λx=>tru (frz x) q
def agj(a b:RT):RT:=λo q=>a o λc=>sw c (b o q) (q false)
def rOr(a b:RT):RT:=λo q=>a o λc=>sw c (q true) (b o q)
def amP(a:RT):RT:=λo q=>a o λc=>q (!c)
def ag1(a b:RE):RE:=λo q=>a o λx=>match frz x with|.bl c=>sw c (b o q) (q (.fz (.bl false)))|_=>False
def aky(a:RE):RE:=λo q=>a o λx=>match frz x with|.bl c=>q (.fz (.bl (!c)))|_=>False
def rIf(c:RT)(a b:RE):RE:=λo q=>c o λk=>sw k (a o q) (b o q)
theorem tQT.mk{K:Frag}{own:Nat->Ψ}{H:Hp}{σ:L2.St}{o:List OT}{r:RT}{R:Bool->Prop}{Q:Bool->Hp->Prop}(h:SR K own H σ o)(hr:r o R)(k:∀H' b,R b->Same H H'->Q b H'):tQT K r σ H Q:=⟨own,o,R,h,hr,k⟩
theorem Rep.isEmpty{K:Frag}{F:Hp}{xs:Ζ}{ts:List T}(h:bZ K F xs ts):xs.isEmpty=ts.isEmpty:=by cases h<;>rfl
theorem Io{c:Bool}{p q p' q':Prop}(h:sw c p q)(i:p->p')(j:q->q'):if c=true then p' else q':=by
 cases c
 .exact amn (j h)
 .exact aml (i h)
section
variable{X:Cx}{a b c:Expr}{ra rb rc:RE}{qa qb qc:RT}{pos:Pos}{rest:List Expr}
theorem bY{op:CmpOp}{g:T->T->(OT->Prop)->Prop}(ho:GO X (compareOp op) g)(ha:QE X a ra)(hb:QE X b rb)(hm:behindInMarks op b=false:=by exact aaj _):QT X (.Compare a [op] [b] pos) (rB (rOp g ra rb)) :=
 (adF ho ha hb hm).imp λσ H Q ⟨own,o,R,h,hr,k⟩=>q2 (ra:=ra) (rb:=rb) (tQ.mk h hr λH1 v x q E1 r1=>by
  revert r1 q
  generalize frz x=t;intro q r1;cases r1<;>try exact q.elim
  exact⟨_,rfl,k _ _ q E1⟩)
theorem dX(ha:QE X a ra)(he:∀cr,isTrue a X.env cr=(do let v <- cr;standAt a.pos;holding [v] (truthy v)):=by exact λ_=>rfl):QT X a (alU ra):=(Yn ha he).imp λσ H Q ⟨own,o,R,h,hr,k⟩=>tQ.mk h hr λH1 v x q E1 r1=>by
 revert r1 q
 generalize frz x=t;intro q r1;cases t<;>try exact q.elim
 .cases r1;exact⟨false,rfl,k _ _ q E1⟩
 .cases r1;exact⟨_,rfl,k _ _ q E1⟩
 .cases r1;exact⟨_,rfl,k _ _ q E1⟩
 .obtain⟨p,xs,rfl,e,r⟩:=r1.tupI;exact⟨_,.inr (.inl ⟨xs,dW.tup e,rfl⟩),by rw[Rep.isEmpty r];exact k _ _ q E1⟩
 .obtain⟨p,xs,rfl,e,r⟩:=r1.lstI;exact⟨_,.inl ⟨xs,.of (cU e).2,rfl⟩,by rw[Rep.isEmpty r];exact k _ _ q E1⟩
theorem fV(ha:QT X a qa):QT X (.UnaryOp .Not a pos) (amP qa):=(agt ha).imp λσ H Q hP=>by obtain⟨own,o,R,h,hr,k⟩:=hP;exact tQT.mk h hr λH1 b q E1=>k H1 _ q E1
theorem Cu(ha:QT X a qa):QW X (.BoolOp .And [a] pos) qa:=pw_and1 ha
theorem kI(ha:QT X a qa):QW X (.BoolOp .Or [a] pos) qa:=pw_or1 ha
theorem Jh(ha:QT X a qa)(hb:QW X (.BoolOp .And (b::rest) pos) qb):QW X (.BoolOp .And (a::b::rest) pos) (agj qa qb):=(pw_and ha hb).imp λσ H Q hP=>by obtain⟨own,o,R,h,hr,k⟩:=hP;exact tQT.mk h hr λH1 c q E1=>Io q (λq=>tQT.mk (h.same E1) q λH2 d q E2=>k H2 d q (E1.trans E2)) λq=>k H1 _ q E1
theorem nR(ha:QT X a qa)(hb:QW X (.BoolOp .Or (b::rest) pos) qb):QW X (.BoolOp .Or (a::b::rest) pos) (rOr qa qb):=(pw_or ha hb).imp λσ H Q hP=>by obtain⟨own,o,R,h,hr,k⟩:=hP;exact tQT.mk h hr λH1 c q E1=>Io q (λq=>k H1 _ q E1) λq=>tQT.mk (h.same E1) q λH2 d q E2=>k H2 d q (E1.trans E2)
theorem QW.qt(h:QW X a qa):QT X a qa:=PW.pt h
theorem SN{op}(h:QE X a ra):QE X (.BoolOp op [a] pos) ra:=afW h
theorem Tz(ha:QE X a ra)(hb:QE X (.BoolOp .And (b::rest) pos) rb):QE X (.BoolOp .And (a::b::rest) pos) (ag1 ra rb):=(aej ha hb).imp λσ H Q ⟨own,o,R,h,hr,k⟩=>tQ.mk h hr λH1 v x q E1 r1=>by
 revert r1 q
 generalize frz x=t;intro q r1;cases r1<;>try exact q.elim
 exact⟨_,rfl,Io q (λq=>⟨own,o,R,h.same E1,q,λH2 v x q E2 n=>k H2 v x q (E1.trans E2) (n.back E1)⟩) λq=>k H1 _ _ q E1 (NR.fz (.bl _))⟩
theorem aem(ha:QE X a ra):QE X (.UnaryOp .Not a pos) (aky ra):=(ae2 ha).imp λσ H Q ⟨own,o,R,h,hr,k⟩=>tQ.mk h hr λH1 v x q E1 r1=>by
 revert r1 q
 generalize frz x=t;intro q r1;cases r1<;>try exact q.elim
 exact⟨_,rfl,k H1 _ _ q E1 (NR.fz (.bl _))⟩
theorem Vk{c:Expr}(hc:QT X c qc)(ha:QE X a ra)(hb:QE X b rb):QE X (.IfExp c a b pos) (rIf qc ra rb):=(YM hc ha hb).imp λσ H Q ⟨own,o,R,h,hr,k⟩=>tQT.mk h hr λH1 c q E1 =>
 Io q (λq=>⟨own,o,R,h.same E1,q,λH2 v x q E2 n=>k H2 v x q (E1.trans E2) (n.back E1)⟩) λq=>⟨own,o,R,h.same E1,q,λH2 v x q E2 n=>k H2 v x q (E1.trans E2) (n.back E1)⟩
def rCh(g g':T->T->(OT->Prop)->Prop)(a b c:RE):RE:=λo q=>a o λx=>b o λy=>g (frz x) (frz y) λz=>match frz z with|.bl k=>sw k (c o λw=>g' (frz y) (frz w) q) (q (.fz (.bl false)))|_=>False
theorem q3{op dt:CmpOp}{g g':T->T->(OT->Prop)->Prop}(ho:GO X (compareOp op) g)(di:GO X (compareOp dt) g'){σ:L2.St}{H:Hp}{Q:VK}(h:tQ X.K (rCh g g' ra rb rc) σ H Q):Ud (λx y H Q=>∃S t u R,(∀b,S b->H b≠none)/\Rep X.K (hd S H) x t/\Rep X.K (hd S H) y u/\g t u R/\∀H' v z,R z->Same H H'->NR X.K S H H' v z->Q v H') (λx y H Q=>∃S t u R,(∀b,S b->H b≠none)/\Rep X.K (hd S H) x t/\Rep X.K (hd S H) y u/\g' t u R/\∀H' v z,R z->Same H H'->NR X.K S H H' v z->Q v H') (tQ X.K ra) (tQ X.K rb) (tQ X.K rc) σ H Q:=by
 obtain⟨own,o,R,h,hr,k⟩:=h;refine tQ.mk h hr λH1 v x q E1 r1=>tQ.mk (h.same E1) q λH2 w y q2 E2 r2=>?_;have h2:=h.same (E1.trans E2);refine⟨Ow own,_,_,_,λb z=>(h2.sole z).ne,r1.same (bU E2),r2,q2,λH3 u z rz E3 n=>?_⟩;have kx:=n.rep λb z=>(h2.sole z).ne
 revert kx rz
 generalize frz z=t;intro rz kx;cases kx<;>try exact rz.elim
 have h3:=h2.same E3;refine⟨_,rfl,Io rz (λq=>tQ.mk h3 q λH4 w' z q4 E4 r4=>⟨Ow own,_,_,R,λb z=>((h3.same E4).sole z).ne,r2.same (bU (E3.trans E4)),r4,q4,λH' u z rz E5 n=>k H' u z rz (E1.trans (E2.trans (E3.trans (E4.trans E5)))) (n.back (E1.trans (E2.trans (E3.trans E4))))⟩) λq=>k H3 _ _ q (E1.trans (E2.trans E3)) (NR.fz (.bl _))⟩
theorem Qq{op dt:CmpOp}{g g':T->T->(OT->Prop)->Prop}(ho:GO X (compareOp op) g)(di:GO X (compareOp dt) g')(ha:QE X a ra)(hb:QE X b rb)(hc:QE X c rc)(hm:lastMarks [op,dt] [b,c]=false:=by with_unfolding_all rfl):QE X (.Compare a [op,dt] [b,c] pos) (rCh g g' ra rb rc):=(Zr ho di ha hb hc hm).imp λ_ _ _=>q3 ho di
theorem Rm{op dt:CmpOp}{g g':T->T->(OT->Prop)->Prop}(ho:GO X (compareOp op) g)(di:GO X (compareOp dt) g')(ha:QE X a ra)(hb:QE X b rb)(hc:QE X c rc)(hm:lastMarks [op,dt] [b,c]=false:=by with_unfolding_all rfl):QT X (.Compare a [op,dt] [b,c] pos) (rB (rCh g g' ra rb rc)) :=
 (aac ho di ha hb hc hm).imp λσ H Q ⟨own,o,R,h,hr,k⟩=>q3 (ra:=ra) (rb:=rb) (rc:=rc) ho di (tQ.mk h hr λH1 v x q E1 r1=>by
  revert r1 q
  generalize frz x=t;intro q r1;cases r1<;>try exact q.elim
  exact⟨_,rfl,k _ _ q E1⟩)
end
noncomputable def nth{α:Type} : List α->Nat->Option α
 |[],_=>none
 |x::_,0=>some x
 |_::l,n+1=>nth l n
theorem rR{α:Type} : ∀(l:List α)(n:Nat),nth l n=l[n]?
 |[],_=>rfl
 |_::_,0=>rfl
 |_::l,n+1=>by simpa[nth]using rR l n
def ixT{α:Type}(ts:List α):Int->Option α
 |.ofNat n=>nth ts n
 |.negSucc n=>nth ts.reverse n
theorem Tv{α:Type}(ts:List α)(i:Int):ixT ts i=atI ts i:=by
 unfold ixT atI ixN;cases i with
 |ofNat n =>
  show nth ts n=_;rw[rR,ZY (show 0<=Int.ofNat n from Wp n)];by_cases h:n<ts.length
  .rw[ZY (by show(n:Int)<_;lia)];rfl
  .rw[ZZ (by show ¬(n:Int)<_;lia),aM (Nat.not_lt.mp h)];rfl
 |negSucc n =>
  show nth ts.reverse n=_;rw[rR,ZZ (by lia)];by_cases h:n<ts.length
  .rw[ZY (by lia),List.getElem?_reverse h];show _=ts[_]?;rw[show(Int.negSucc n+(ts.length:Int)).toNat=ts.length-1-n by lia]
  .rw[ZZ (by lia),aM (by rw[List.length_reverse];exact VU h)];rfl
theorem bZ.ix{K:Frag}{F:Hp}{xs:Ζ}{ts:List T}{i:Int}{t:T}(h:bZ K F xs ts)(e:ixT ts i=some t):∃x,atI xs i=some x/\Rep K F x t:=by
 rw[Tv]at e;unfold atI at e ⊢;rw[h.len];cases j:ixN ts.length i with
 |none=>rw[j]at e;cases e
 |some n=>rw[j]at e;exact h.at_ e
def oT{α:Type}(x:Option α)(q:α->Prop):Prop:=match x with|some t=>q t|none=>False
theorem ad6{α:Type}{x:Option α}{q:α->Prop}(h:oT x q):∃t,x=some t/\q t:=by
 cases x with
 |none=>exact h.elim
 |some t=>exact⟨t,rfl,h⟩
def gIx:T->T->(OT->Prop)->Prop
 |.tup ts,.int i,q=>oT (ixT ts i) λt=>q (.fz t)
 |.lst ts,.int i,q=>∃t,ixT ts i=some t/\q (.fz t)
 |.scr ts,.int i,q=>∃t,ixT ts i=some t/\q (.fz t)
 |.str s,.int i,q=>s.length<=sizeLine/\∃c,ixT s.cps.toList i=some c/\q (.fz (.str ⟨#[c]⟩))
 |_,_,_=>False
section
variable{X:Cx}{a b c e:Expr}{ra rb rc re:RE}{qa qb qc:RT}{pos p2:Pos}{lo hi:Option Expr}
theorem gix:IxR X (λx y H Q=>∃S t u R,(∀b,S b->H b≠none)/\Rep X.K (hd S H) x t/\Rep X.K (hd S H) y u/\gIx t u R/\∀H' v z,R z->Same H H'->NR X.K S H H' v z->Q v H'):=by
 refine(yj.or (aeS.or afZ)).imp λx y H Q h=>?_;obtain⟨S,t,u,R,_,hx,hy,hg,k⟩:=h;cases u with
 |int i=>?_
 |_=>cases t<;>exact hg.elim
 cases hy;cases t with
 |any=>exact hg.elim
 |non=>exact hg.elim
 |bl _=>exact hg.elim
 |int _=>exact hg.elim
 |val _=>exact hg.elim
 |dct _ _=>exact hg.elim
 |ins _ _ _=>exact hg.elim
 |str s=>?_
 |tup ts=>?_
 |lst ts=>?_
 |scr ts=>?_
 .cases hx;obtain⟨z,c,e,q⟩:=hg;rw[Tv]at e;exact .inr (.inr ⟨_,_,c,rfl,rfl,z,e,k H _ _ q (.refl _) (NR.fz (.str _))⟩)
 .obtain⟨p,xs,rfl,e,r⟩:=hx.tupI;obtain⟨t,j,q⟩:=ad6 hg;obtain⟨v,e',r'⟩:=r.ix j;exact .inr (.inl ⟨p,xs,i,v,rfl,rfl,dW.tup e,e',k H _ _ q (.refl _) (NR.fz r')⟩)
 .obtain⟨p,xs,rfl,e,r⟩:=hx.lstI;obtain⟨t,j,q⟩:=hg;obtain⟨v,e',r'⟩:=r.ix j;exact .inl ⟨p,xs,_,v,rfl,rfl,.of (cU e).2,e',k H _ _ q (.refl _) (NR.fz r')⟩
 .obtain⟨p,xs,rfl,e,r⟩:=hx.scrI;obtain⟨t,j,q⟩:=hg;obtain⟨v,e',r'⟩:=r.ix j;exact .inl ⟨p,xs,_,v,rfl,rfl,dW.seq e,e',k H _ _ q (.refl _) (NR.fz r')⟩
theorem bJ(ha:QE X a ra)(hb:QE X b rb)(hs:tU b:=by exact λ_ _=>rfl):QE X (.Subscript a b pos) (rOp gIx ra rb):=(Kd gix ha hb hs).imp λ_ _ _=>q2
abbrev RO:=List OT->(Option Int->Prop)->Prop
def tQO(K:Frag)(r:RO):TO:=λσ H Q=>∃own o R,SR K own H σ o/\r o R/\∀H' b,R b->Same H H'->Q b H'
def QO(X:Cx)(e:Option Expr)(r:RO):Prop:=PO X e (tQO X.K r)
def anh:RO:=λ_ q=>q none
def ajC(a:RE):RO:=λo q=>a o λx=>match frz x with|.int i=>q (some i)|_=>False
theorem PO.imp{X:Cx}{e:Option Expr}{t t':TO}(h:PO X e t)(i:∀σ H Q,t' σ H Q->t σ H Q):PO X e t':=λaa s σ H Q I q=>h aa s σ H Q I (i σ H Q q)
theorem Gg:QO X none anh:=abN.imp λσ H Q hP=>by obtain⟨own,o,R,h,hr,k⟩:=hP;exact k H _ hr (.refl _)
theorem g8(h:QE X e re):QO X (some e) (ajC re):=(ady h).imp λσ H Q ⟨own,o,R,h,hr,k⟩=>tQ.mk h hr λH1 v x q E1 r1=>by
 revert r1 q
 generalize frz x=t;intro q r1;cases r1<;>try exact q.elim
 exact⟨_,rfl,k _ _ q E1⟩
noncomputable def gG{α:Type}(xs:List α)(lo hi:Option Int):List α:=(xs.drop (HT.sIx xs.length 0 lo)).take (HT.sIx xs.length xs.length hi-HT.sIx xs.length 0 lo)
theorem bZ.cut{K:Frag}{F:Hp}{xs:Ζ}{ts:List T}(h:bZ K F xs ts)(lo hi:Option Int):bZ K F (Ww xs lo hi) (gG ts lo hi):=by
 unfold Ww gG;rw[h.len];exact(h.drop _).take _
def gSl:T->Option Int->Option Int->(OT->Prop)->Prop
 |.lst ts,lo,hi,q=>q (.l1 (gG ts lo hi))
 |.scr ts,lo,hi,q=>q (.l1 (gG ts lo hi))
 |.str s,lo,hi,q=>s.length<=sizeLine/\q (.fz (.str (Fj s lo hi)))
 |_,_,_,_=>False
def rSl(a:RE)(lo hi:RO):RE:=λo q=>a o λx=>lo o λl=>hi o λu=>gSl (frz x) l u q
theorem j9{rl rh:RO}(he:QE X e re)(hl:QO X lo rl)(hu:QO X hi rh):QE X (.Subscript e (.Slice lo hi none p2) pos) (rSl re rl rh):=(Yl (adg.or afI) he hl hu).imp λσ H Q ⟨own,o,R,h,hr,k⟩ =>
 tQ.mk h hr λH1 v x q E1 r1=>⟨own,o,_,h.same E1,q,λH2 l q E2=>⟨own,o,_,(h.same E1).same E2,q,λH3 u q E3=>by
  have E:=E1.trans (E2.trans E3);have r1:=r1.same (bU (E2.trans E3))
  revert r1 q
  generalize frz x=t;intro q r1;cases t<;>try exact q.elim
  .cases r1;exact .inr ⟨_,rfl,q.1,k _ _ _ q.2 E (NR.fz (.str _))⟩
  .obtain⟨p,xs,rfl,e,r⟩:=r1.lstI;exact .inl ⟨p,xs,rfl,.of (cU e).2,λa ha=>k _ _ _ q (E.trans (Same.upd ha)) ((zF (r.cut l u) (Same.upd ha) ha cM).back E)⟩
  .obtain⟨p,xs,rfl,e,r⟩:=r1.scrI;exact .inl ⟨p,xs,rfl,dW.seq e,λa ha=>k _ _ _ q (E.trans (Same.upd ha)) ((zF (r.cut l u) (Same.upd ha) ha cM).back E)⟩⟩⟩
end
section
variable{X:Cx}{e:Expr}{es:List Expr}{r:RA}{pos:Pos}
def agy(r:RA):RE:=λo q=>r o λts=>q (.fz (.tup ts))
def ahF(r:RA):RE:=λo q=>r o λts=>q (.l1 ts)
theorem cW{k:Nat}(h:QA X es r)(hz:es.length<=sizeLine:=by decide):QE X (.Tuple es k pos) (agy r):=(aeh h).imp λσ H Q ⟨own,o,R,h,hr,k⟩=>tQA.mk h hr λH1 vs ts q ln E1 r1 =>
 ⟨by rw[r1.len,ln];exact hz,λp hp=>k _ _ _ q (E1.trans (Same.upd hp)) (NR.fz (.tup (.of (by rw[cR λz=>(h.sole z).ne (E1.free hp)];exact cM)) (r1.same (bU (Same.upd hp)))))⟩
theorem d_(h:QA X es r)(hz:es.length<=sizeLine:=by decide):QE X (.List es pos) (ahF r):=(aft h).imp λσ H Q ⟨own,o,R,h,hr,k⟩=>tQA.mk h hr λH1 vs ts q ln E1 r1 =>
 ⟨by rw[r1.len,ln];exact hz,λp hp=>k _ _ _ q (E1.trans (Same.upd hp)) ((zF r1 (Same.upd hp) hp cM).back E1)⟩
def GC(X:Cx)(f:Value)(g:ST):Prop:=jk X f λxs H Q=>∃S ts R,(∀b,S b->H b≠none)/\bZ X.K (hd S H) xs ts/\g ts R/\∀H' v z,R z->Same H H'->NR X.K S H H' v z->Q v H'
variable{x:Str}{p:Pos}{id Ty:String}{g:ST}
theorem bV(hc:GC X (.builtin id) g)(hg:Gl X x)(hm:X.mg x=none)(hv:bootBuiltins x=some (.builtin id))(ha:QA X (e::es) r)(hn:x≠"__name__":=by decide)(ce:(x==("__debug__":Str))=false:=by decide)
 (he:starEach (e::es) X.env=(false,eval e X.env)::starEach es X.env:=by rfl)(bi:(backTo pos (starEach es X.env)).any (·.1)=false:=by rfl):QE X (.Call (.Name x p) (e::es) [] pos) (Yz g r) :=
 (Qo hc hg hm hv ha hn ce he bi).imp λσ H Q hP=>by obtain⟨own,o,R,h,hr,k⟩:=hP;exact tQA.mk h hr λH1 vs ts q _ E1 r1=>⟨Ow own,ts,R,λb z=>((h.same E1).sole z).ne,r1,q,λH' v z rz E n=>k H' v z rz (E1.trans E) (n.back E1)⟩
theorem yr(hc:GC X (.type Ty) g)(hg:Gl X x)(hm:X.mg x=none)(hv:bootBuiltins x=some (.type Ty))(ha:QA X (e::es) r)(hn:x≠"__name__":=by decide)(ce:(x==("__debug__":Str))=false:=by decide)
 (he:starEach (e::es) X.env=(false,eval e X.env)::starEach es X.env:=by rfl)(bi:(backTo pos (starEach es X.env)).any (·.1)=false:=by rfl):QE X (.Call (.Name x p) (e::es) [] pos) (Yz g r) :=
 (W5 hc hg hm hv ha hn ce he bi).imp λσ H Q hP=>by obtain⟨own,o,R,h,hr,k⟩:=hP;exact tQA.mk h hr λH1 vs ts q _ E1 r1=>⟨Ow own,ts,R,λb z=>((h.same E1).sole z).ne,r1,q,λH' v z rz E n=>k H' v z rz (E1.trans E) (n.back E1)⟩
theorem bZ.one{K:Frag}{F:Hp}{xs:Ζ}{t:T}(h:bZ K F xs [t]):∃x,xs=[x]/\Rep K F x t:=by
 cases h with
 |cons a b=>cases b;exact⟨_,rfl,a⟩
theorem bZ.two{K:Frag}{F:Hp}{xs:Ζ}{t u:T}(h:bZ K F xs [t,u]):∃x y,xs=[x,y]/\Rep K F x t/\Rep K F y u:=by
 cases h with
 |cons a b =>
  obtain⟨y,rfl,c⟩:=b.one;exact⟨_,y,rfl,a,c⟩
def g1(g:T->(OT->Prop)->Prop):ST:=λts q=>match ts with|[t]=>g t q|_=>False
theorem GC.one{f:Value}{g:T->(OT->Prop)->Prop}{r:Ζ->Hp->VK->Prop}(h:jk X f r)(i:∀S t x H Q R,Rep X.K (hd S H) x t->g t R->(∀H' v z,R z->Same H H'->NR X.K S H H' v z->Q v H')->r [x] H Q):GC X f (g1 g):=h.imp λxs H Q hP=>by
 obtain⟨S,ts,R,_,rs,hg,k⟩:=hP
 match ts,hg with
 |[t],hg =>
  obtain⟨x,rfl,rx⟩:=rs.one;exact i S t x H Q R rx hg k
def anq:T->(OT->Prop)->Prop
 |.lst ts,q=>q (.fz (.int ts.length))
 |.tup ts,q=>q (.fz (.int ts.length))
 |.scr ts,q=>q (.fz (.int ts.length))
 |_,_=>False
theorem dh:GC X (.builtin "len") (g1 anq):=.one M8 λS t x H Q R rx hg k=>by
 cases t<;>try exact hg.elim
 .obtain⟨p,xs,rfl,e,r⟩:=rx.tupI;exact⟨p,xs,rfl,.inr (dW.tup e),k H _ _ hg (.refl _) (NR.fz (by rw[r.len];exact .int _))⟩
 .obtain⟨p,xs,rfl,e,r⟩:=rx.lstI;exact⟨p,xs,rfl,.inl (.of (cU e).2),k H _ _ hg (.refl _) (NR.fz (by rw[r.len];exact .int _))⟩
 .obtain⟨p,xs,rfl,e,r⟩:=rx.scrI;exact⟨p,xs,rfl,.inl (dW.seq e),k H _ _ hg (.refl _) (NR.fz (by rw[r.len];exact .int _))⟩
def alY:T->(OT->Prop)->Prop
 |.str s,q=>s.length<=sizeLine/\q (.fz (.int s.length))
 |_,_=>False
def ami:T->(OT->Prop)->Prop
 |.dct ks _,q=>q (.fz (.int ks.length))
 |_,_=>False
theorem Xv:jk X (.builtin "len") (λxs H Q=>∃p ar,xs=[.ref p]/\Rd H p (.dK ar)/\Q (.int ar.length) H):=by
 intro aa s σ H xs us Q I r h;obtain⟨p,ar,rfl,hp,q⟩:=h;obtain⟨u,rfl,rx⟩:=vals1 r;cases rx;have hok:ar.length<=sizeLine/\(p==sysModules)=false/\∃vs,KV ar vs/\s.heap.DictOf (iQ X.prog X.w) p vs:=by
  rcases hp with hp|⟨o,hp⟩
  .exact I.hok p _ hp
  .exact(I.hok p _ hp).2
 obtain⟨hz,hS,vs,rr,m⟩:=hok;have hl:=wW;have aS:ar.length=vs.length:=rr.length;exact call_len_dict hS m (by lia) ⟨.int ar.length,H,I.tok _,⟨_,by rw[aS]⟩,q⟩
theorem Vu:GC X (.builtin "len") (g1 ami):=.one Xv λS t x H Q R rx hg k=>by
 cases t<;>try exact hg.elim
 obtain⟨p,xs,rfl,e,l,r⟩:=rx.dctI;exact⟨p,_,rfl,dW.rd e,k H _ _ hg (.refl _) (NR.fz (by rw[VX,l,UV];exact .int _))⟩
def aly:T->(OT->Prop)->Prop
 |.int i,q=>q (.fz (.int i.natAbs))
 |_,_=>False
theorem G8:GC X (.builtin "abs") (g1 aly):=.one Yr λS t x H Q R rx hg k=>by
 cases t<;>try exact hg.elim
 cases rx;exact⟨_,rfl,k H _ _ hg (.refl _) (NR.fz (by rw[afa];exact .int _))⟩
theorem bZ.ints{K:Frag}{F:Hp} : ∀{xs:Ζ}{ns:List Int},bZ K F xs (ns.map T.int)->xs=ns.map V.int
 |_,[],.nil=>rfl
 |_,n::ns,.cons a b=>by cases a;rw[bZ.ints b];rfl
theorem bZ.bls{K:Frag}{F:Hp} : ∀{xs:Ζ}{ns:List Bool},bZ K F xs (ns.map T.bl)->xs=ns.map V.bl
 |_,[],.nil=>rfl
 |_,n::ns,.cons a b=>by cases a;rw[bZ.bls b];rfl
theorem DR{K:Frag}{F:Hp} : ∀(ns:List Int),bZ K F (ns.map V.int) (ns.map T.int)
 |[]=>.nil
 |_::ns=>.cons (.int _) (DR ns)
def am3:T->(OT->Prop)->Prop
 |.lst ts,q=>∃ns:List Int,ts=ns.map T.int/\q (.fz (.int ns.sum))
 |_,_=>False
theorem Oj(hc:X.calm=true):GC X (.builtin "sum") (g1 am3):=.one (Xa hc) λS t x H Q R rx hg k=>by
 cases t<;>try exact hg.elim
 obtain⟨p,xs,rfl,e,r⟩:=rx.lstI;obtain⟨ns,rfl,q⟩:=hg;exact⟨p,ns,rfl,(r.ints ▸ (cU e).2),k H _ _ q (.refl _) (NR.fz (.int _))⟩
def anm(f:List Bool->Bool):T->(OT->Prop)->Prop
 |.lst ts,q=>∃bs:List Bool,ts=bs.map T.bl/\q (.fz (.bl (f bs)))
 |_,_=>False
theorem afF(hc:X.calm=true):GC X (.builtin "all") (g1 (anm λbs=>bs.all λb=>b)):=.one (XD hc) λS t x H Q R rx hg k=>by
 cases t<;>try exact hg.elim
 obtain⟨p,xs,rfl,e,r⟩:=rx.lstI;obtain⟨ns,rfl,q⟩:=hg;exact⟨p,ns,rfl,(r.bls ▸ (cU e).2),k H _ _ q (.refl _) (NR.fz (.bl _))⟩
def amb:T->(OT->Prop)->Prop
 |.lst ts,q=>∃ns:List Int,ts=ns.map T.int/\ns.length<64/\∀ms:List Int,ms.Perm ns->ms.Pairwise (· <= ·)->q (.l1 (ms.map T.int))
 |_,_=>False
theorem WK:GC X (.builtin "sorted") (g1 amb):=.one W6 λS t x H Q R rx hg k=>by
 cases t<;>try exact hg.elim
 obtain⟨p,xs,rfl,e,r⟩:=rx.lstI;obtain⟨ns,rfl,l,q⟩:=hg;exact⟨p,ns,rfl,(r.ints ▸ (cU e).2),l,λms a ha m1 m2=>k _ _ _ (q ms m1 m2) (Same.upd ha) (zF (DR ms) (Same.upd ha) ha cM)⟩
def ahW:T->(OT->Prop)->Prop
 |.lst ts,q=>q (.l1 ts)
 |_,_=>False
theorem O6:GC X (.type "list") (g1 ahW):=.one TQ λS t x H Q R rx hg k=>by
 cases t<;>try exact hg.elim
 obtain⟨p,xs,rfl,e,r⟩:=rx.lstI;exact⟨p,xs,rfl,(cU e).2,λa ha=>k _ _ _ hg (Same.upd ha) (zF r (Same.upd ha) ha cM)⟩
def al9:T->(OT->Prop)->Prop
 |.int i,q=>q (.fz (.int i))
 |.bl b,q=>q (.fz (.int (if b then 1 else 0)))
 |_,_=>False
theorem af4:GC X (.type "int") (g1 al9):=.one WW λS t x H Q R rx hg k=>by
 cases t<;>try exact hg.elim
 .cases rx;exact .inr ⟨_,rfl,k H _ _ hg (.refl _) (NR.fz (.int _))⟩
 .cases rx;exact .inl ⟨_,rfl,k H _ _ hg (.refl _) (NR.fz (.int _))⟩
inductive Knd where
 |int|bool|str|list|tuple
noncomputable def Knd.s:Knd->String
 |.int=>"int"
 |.bool=>"bool"
 |.str=>"str"
 |.list=>"list"
 |.tuple=>"tuple"
noncomputable def isK:Knd->T->Option Bool
 |.int,.int _=>some true
 |.int,.bl _=>some true
 |.bool,.bl _=>some true
 |.str,.str _=>some true
 |.list,.lst _=>some true
 |.tuple,.tup _=>some true
 |_,.any=>none
 |_,.val _=>none
 |_,.scr _=>none
 |_,.ins _ _ _=>none
 |_,.dct _ _=>none
 |_,_=>some false
theorem afz(kd:Knd):GC X (.builtin "isinstance") (λts q=>match ts with|[t,.val v]=>v=.ty kd.s/\oT (isK kd t) λb=>q (.fz (.bl b))|_=>False):=by
 intro aa s σ H xs us Q I rs h;obtain⟨S,ts,R,_,rp,hg,k⟩:=h
 match ts,hg with
 |[t,.val v],hg =>
  obtain⟨x,y,rfl,rx,ry⟩:=rp.two;cases ry;obtain⟨rfl,hg⟩:=hg;obtain⟨b,j,q⟩:=ad6 hg;have hk:kd.s∈["bool","int","str","list","tuple","dict"]:=by cases kd<;>decide
  cases t with
  |tup ts =>
   obtain⟨p,ys,rfl,e,r⟩:=rx.tupI;have eb:b=K3 "tuple" kd.s:=by cases kd<;>cases j<;>decide
   exact QX aa s σ H _ us Q I rs ⟨p,kd.s,ys,rfl,hk,dW.tup e,k H _ _ q (.refl _) (NR.fz (eb ▸ .bl _))⟩
  |lst ts =>
   obtain⟨p,ys,rfl,e,r⟩:=rx.lstI;have eb:b=K3 "list" kd.s:=by cases kd<;>cases j<;>decide
   exact wJ aa s σ H _ us Q I rs ⟨_,kd.s,"list",rfl,hk,by show(match H p with|some (.lst _)=>some "list" |some (.tup _)=>some "tuple" |some (.dK _)=>some "dict" |_=>none)=_;rw[(cU e).2],k H _ _ q (.refl _) (NR.fz (eb ▸ .bl _))⟩
  |non =>
   cases rx;have eb:b=K3 "NoneType" kd.s:=by cases kd<;>cases j<;>decide
   exact wJ aa s σ H _ us Q I rs ⟨_,kd.s,"NoneType",rfl,hk,rfl,k H _ _ q (.refl _) (NR.fz (eb ▸ .bl _))⟩
  |bl c =>
   cases rx;have eb:b=K3 "bool" kd.s:=by cases kd<;>cases j<;>decide
   exact wJ aa s σ H _ us Q I rs ⟨_,kd.s,"bool",rfl,hk,rfl,k H _ _ q (.refl _) (NR.fz (eb ▸ .bl _))⟩
  |int i =>
   cases rx;have eb:b=K3 "int" kd.s:=by cases kd<;>cases j<;>decide
   exact wJ aa s σ H _ us Q I rs ⟨_,kd.s,"int",rfl,hk,rfl,k H _ _ q (.refl _) (NR.fz (eb ▸ .bl _))⟩
  |str c =>
   cases rx;have eb:b=K3 "str" kd.s:=by cases kd<;>cases j<;>decide
   exact wJ aa s σ H _ us Q I rs ⟨_,kd.s,"str",rfl,hk,rfl,k H _ _ q (.refl _) (NR.fz (eb ▸ .bl _))⟩
  |_=>cases kd<;>cases j
def am9(kd:Knd)(a:RE):RE:=λo q=>a o λx=>oT (isK kd (frz x)) λb=>q (.fz (.bl b))
theorem Ii(kd:Knd){a:Expr}{ra:RE}{y:Str}{p2:Pos}(ha:QE X a ra)(hg:Gl X "isinstance")(hm:X.mg "isinstance"=none)(hg2:Gl X y)(j3:X.mg y=none)(kM:bootBuiltins y=some (.type kd.s))(hU:y≠"__name__":=by decide)(lI:(y==("__debug__":Str))=false:=by decide)
 (he:starEach (a::[.Name y p2]) X.env=(false,eval a X.env)::starEach [.Name y p2] X.env:=by rfl):QE X (.Call (.Name "isinstance" p) [a,.Name y p2] [] pos) (am9 kd ra) :=
 (Qo (afz kd) hg hm boot_isinstance (oJ ha (oJ (abR (v:=.ty kd.s) hg2 j3 kM rfl hU lI) OJ) he) (by decide) (by decide) he).imp λσ H Q ⟨own,o,R,h,hr,k⟩=>tQ.mk h hr λH1 v x q E1 r1 =>
  ⟨Ow own,[frz x,.val (.ty kd.s)],R,λb z=>((h.same E1).sole z).ne,.cons r1 (.cons (.val _) .nil),⟨rfl,q⟩,λH' v z rz E n=>k H' v z rz (E1.trans E) (n.back E1)⟩
end
structure DT where
 nx:List OT->Prop
 rt:OT->Prop
 bk:List OT->Prop:=λ_=>False
 ct:List OT->Prop:=λ_=>False
abbrev RS:=DT->List OT->Prop
structure Lnk(K:Frag)(F:Hp)(E:DT)(D:Ends):Prop where
 nx:∀own H σ o,E.nx o->Same F (hd (Ow own) H)->SR K own H σ o->D.nx σ H
 rt:∀S H v x B,E.rt x->Same F (hd S H)->Slo K (hd S H) H (some v) B x->(∀a∈B,S a)->D.rt v H
 bk:∀own H σ o,E.bk o->Same F (hd (Ow own) H)->SR K own H σ o->D.bk σ H
 ct:∀own H σ o,E.ct o->Same F (hd (Ow own) H)->SR K own H σ o->D.ct σ H
theorem Lnk.step{K:Frag}{F F':Hp}{E:DT}{D:Ends}(h:Lnk K F E D)(S:Same F F'):Lnk K F' E D :=
 ⟨λown H σ o e s=>h.nx own H σ o e (S.trans s),λT H v x B e s=>h.rt T H v x B e (S.trans s),λown H σ o e s=>h.bk own H σ o e (S.trans s),λown H σ o e s=>h.ct own H σ o e (S.trans s)⟩
def tQS(K:Frag)(r:RS):TS:=λD σ H=>∃own o E,SR K own H σ o/\r E o/\Lnk K (hd (Ow own) H) E D
def QS(X:Cx)(st:Stmt)(r:RS):Prop:=PS X st (tQS X.K r)
def QSs(X:Cx)(st:List Stmt)(r:RS):Prop:=PSs X st (tQS X.K r)
theorem PS.imp{X:Cx}{st:Stmt}{t t':TS}(h:PS X st t)(i:∀D σ H,t' D σ H->t D σ H):PS X st t':=λaa s σ H D I q=>h aa s σ H D I (i D σ H q)
theorem PSs.imp{X:Cx}{st:List Stmt}{t t':TS}(h:PSs X st t)(i:∀D σ H,t' D σ H->t D σ H):PSs X st t':=λaa s σ H D I q=>h aa s σ H D I (i D σ H q)
def agQ:RS:=λE o=>E.nx o
def jh(a b:RS):RS:=λE o=>a { E with nx:=b E } o
def agR(i:Nat)(a:RE):RS:=λE o=>a o λx=>E.nx (o.set i (.fz (frz x)))
def afh(i:Nat)(a:RE):RS:=λE o=>a o λx=>E.nx (o.set i x)
def aiu(a:RE):RS:=λE o=>a o λ_=>E.nx o
def am1(a:RE):RS:=λE o=>a o E.rt
def ad1(i:Nat):RS:=λE o=>match slot o i with|.und=>False|x=>E.rt x
def agI(c:RT)(a b:RS):RS:=λE o=>c o λk=>sw k (a E o) (b E o)
def afP:RS:=λ_ _=>False
def ahB(i:Nat)(a:RS):RS:=λE o=>match slot o i with|.und=>False|x=>a E (o.set i (.fz (frz x)))
section
variable{K:Frag}{own:Nat->Ψ}{H H':Hp}{σ:L2.St}{o:List OT}
theorem SR.putA(h:SR K own H σ o)(E:Same H H'){v:V}{x:OT}(n:NR K (Ow own) H H' v x)(i:Nat):∃ah,SR K ah H' (σ.set i (some v)) (o.set i x)/\Same (hd (Ow own) H) (hd (Ow ah) H'):=by
 by_cases hi:i<o.length
 .exact h.put E n hi
 .rw[Zyt (Nat.not_lt.mp hi),Zyt (h.len ▸ Nat.not_lt.mp hi)];exact⟨own,h.same E,bU E⟩
theorem NR.frz{S:Addr->Prop}{v:V}{x:OT}(n:NR K S H H' v x)(hs:∀b,S b->H b≠none):NR K S H H' v (.fz (L2.frz x)):=NR.fz (n.rep hs)
theorem Slo.val{F:Hp}{v:Option V}{A:Ψ}{x:OT}(h:Slo K F H v A x)(n:x≠.und):∃u,v=some u:=by
 cases x with
 |und=>exact absurd rfl n
 |fz t=>exact⟨_,h.2.choose_spec.1⟩
 |l1 ts=>obtain⟨a,xs,e,_⟩:=h;exact⟨_,e⟩
 |l2 ts=>obtain⟨a,xs,e,_⟩:=h;exact⟨_,e⟩
 |d1 ks ts=>obtain⟨a,xs,e,_⟩:=h;exact⟨_,e⟩
 |ob a d C ks ts=>obtain⟨xs,e,_⟩:=h;exact⟨_,e⟩
 |la a ts=>obtain⟨xs,e,_⟩:=h;exact⟨_,e⟩
theorem SR.val(h:SR K own H σ o){i:Nat}{x:OT}(e:slot o i=x)(n:x≠.und):∃u,σ[i]?=some (some u)/\Slo K (hd (Ow own) H) H (some u) (own i) x:=by
 have s:=h.sl i x (gn e n);obtain⟨u,hu⟩:=s.val n;rw[hu]at s;refine⟨u,?_,s⟩;cases z:σ[i]? with
 |none=>rw[z]at hu;cases hu
 |some w=>rw[z]at hu;exact ZH some hu
end
section
variable{X:Cx}{st:Stmt}{sts:List Stmt}{a b:RS}{e:Expr}{re:RE}{pos:Pos}
theorem bT:QSs X [] agQ:=acq.imp λD σ H hP=>by obtain⟨own,o,E,h,hr,L⟩:=hP;exact L.nx own H σ o hr (.refl _) h
theorem ali{D:Ends}{σ:L2.St}{H:Hp}(h:tQS X.K (jh a b) D σ H):ah1 (tQS X.K a) (tQS X.K b) D σ H:=by
 obtain⟨own,o,E,h,hr,L⟩:=h;exact⟨own,o,_,h,hr,λah H' σ' o' q S h'=>⟨ah,o',E,h',q,L.step S⟩,L.rt,L.bk,L.ct⟩
theorem bC(h1:QS X st a)(h2:QSs X sts b):QSs X (st::sts) (jh a b):=(aa4 h1 h2).imp λ_ _ _=>ali
theorem bG(h:QS X st a):QSs X [st] a:=abI h
theorem bM(i:Nat){x:Str}{br:Pos}(hN:X.N.Nodup)(hx:Loc X.env.scope x)(he:QE X e re)(hi:X.N[i]?=some x:=by rfl)(hs:swapsWith e (some (.Name x br)) pos.line X.env=pure false:=by rfl)(hf:X.fn x=true\/X.env.scope.names.lookup x=some .local:=by first|exact .inl rfl|exact .inr rfl|assumption) :
  QS X (.Assign [.Name x br] e pos) (agR i re):=(aah hN hi hx he hs hf).imp λD σ H ⟨own,o,E,h,hr,L⟩=>⟨own,o,_,h,hr,λH' v y q S n=>by
 obtain⟨ah,h',S'⟩:=h.putA S (n.frz λb z=>(h.sole z).ne) i;exact L.nx ah H' _ _ q S' h'⟩
theorem g_(i:Nat){x:Str}{br:Pos}(hN:X.N.Nodup)(hx:Loc X.env.scope x)(he:QE X e re)(hi:X.N[i]?=some x:=by rfl)(hs:swapsWith e (some (.Name x br)) pos.line X.env=pure false:=by rfl)(hf:X.fn x=true\/X.env.scope.names.lookup x=some .local:=by first|exact .inl rfl|exact .inr rfl|assumption) :
  QS X (.Assign [.Name x br] e pos) (afh i re):=(aah hN hi hx he hs hf).imp λD σ H ⟨own,o,E,h,hr,L⟩=>⟨own,o,_,h,hr,λH' v y q S n=>by
 obtain⟨ah,h',S'⟩:=h.putA S n i;exact L.nx ah H' _ _ q S' h'⟩
theorem jJ(he:QE X e re)(hs:swapsWith e none pos.line X.env=pure false:=by rfl):QS X (.Expr e pos) (aiu re):=(xU he hs).imp λD σ H hP=>by obtain⟨own,o,E,h,hr,L⟩:=hP;exact⟨own,o,_,h,hr,λH' v y q S n=>L.nx own H' σ o q (bU S) (h.same S)⟩
theorem bQ(he:QE X e re):QS X (.Return (some e) pos) (am1 re):=(S5 he).imp λD σ H ⟨own,o,E,h,hr,L⟩=>⟨own,o,_,h,hr,λH' v y q S n=>by
 obtain⟨B,nb,s⟩:=n;exact L.rt _ H' v y B q (h_ (λb z=>z.imp id (nb b)) S) s λa ha=>.inr ha⟩
theorem jE(i:Nat){x:Str}{p:Pos}(hN:X.N[i]?=some x:=by rfl)(hv:q_ X.env.scope x=true:=by rfl)(hd:(x==("__debug__":Str))=false:=by decide)(bg:(x==("__classdict__":Str))=false:=by decide):QS X (.Return (some (.Name x p)) pos) (ad1 i):=(S5 (pv i hN hv hd bg)).imp λD σ H hP=>by
 obtain⟨own,o,E,h,hr,L⟩:=hP;have hr:E.rt (slot o i)/\slot o i≠.und:=by
  unfold ad1 at hr;cases e:slot o i<;>rw[e]at hr<;>first|exact hr.elim|exact⟨hr,λz=>by cases z⟩
 obtain⟨u,e,s⟩:=h.val rfl hr.2;exact⟨u,e,L.rt (Ow own) H u _ _ hr.1 (.refl _) s λa ha=>⟨i,ha⟩⟩
theorem cG{c:Expr}{ss ts:List Stmt}{qc:RT}(hc:QT X c qc)(ha:QSs X ss a)(hb:QSs X ts b):QS X (.If c ss ts pos) (agI qc a b):=(akk hc ha hb).imp λD σ H ⟨own,o,E,h,hr,L⟩=>tQT.mk h hr λH1 c q E1 =>
 Io q (λq=>⟨own,o,E,h.same E1,q,L.step (bU E1)⟩) λq=>⟨own,o,E,h.same E1,q,L.step (bU E1)⟩
theorem fM:QS X st afP:=ZK.imp λD σ H hP=>by obtain⟨own,o,E,h,hr,L⟩:=hP;exact hr
theorem GX(i:Nat)(hs:QS X st a):QS X st (ahB i a):=PS.imp hs λD σ H hP=>by
 obtain⟨own,o,E,h,hr,L⟩:=hP;have hr:a E (o.set i (.fz (frz (slot o i))))/\slot o i≠.und:=by
  unfold ahB at hr;cases e:slot o i<;>rw[e]at hr<;>first|exact hr.elim|exact⟨hr,λz=>by cases z⟩
 obtain⟨u,e1,s⟩:=h.val rfl hr.2;obtain⟨ah,h',S⟩:=h.frz (gn rfl hr.2) e1;exact⟨ah,_,E,h',hr.1,L.step S⟩
theorem Dj{S:Addr->Prop}{H:Hp}{D:Addr}{u:HO}(h:S D):hd S (upd H D u)=hd S H:=funext λb=>by
 by_cases z:S b
 .rw[qm z,qm z]
 .rw[cR z,cR z,cF λ(e:b=D)=>z (e.symm ▸ h)]
noncomputable def asL:OT->Option (List T×(List T->OT))
 |.l1 ts=>some (ts,.l1)
 |.la a ts=>some (ts,.la a)
 |_=>none
def onL(x:OT)(k:List T->(List T->OT)->Prop):Prop:=match asL x with|some (ts,c)=>k ts c|none=>False
theorem Dd{x:OT}{k:List T->(List T->OT)->Prop}(h:onL x k):∃ts c,k ts c/\((x=.l1 ts/\c=.l1)\/∃a,x=.la a ts/\c=.la a):=by
 cases x with
 |l1 ts=>exact⟨ts,_,h,.inl ⟨rfl,rfl⟩⟩
 |la a ts=>exact⟨ts,_,h,.inr ⟨a,rfl,rfl⟩⟩
 |_=>exact h.elim
def am8(i:Nat)(a:RE):RS:=λE o=>onL (slot o i) λts c=>a o λy=>ts.length<sizeLine/\E.nx (o.set i (c (ts++[frz y])))
theorem SR.l1{K:Frag}{own:Nat->Ψ}{H:Hp}{σ:L2.St}{o:List OT}(h:SR K own H σ o){i:Nat}{ts:List T}{c:List T->OT}(e:(slot o i=.l1 ts/\c=.l1)\/∃a,slot o i=.la a ts/\c=.la a):∃l xs,σ[i]?=some (some (.ref l))/\own i=[l]/\H l=some (.lst xs)/\bZ K (hd (Ow own) H) xs ts/\∀(H':Hp)(ys:Ζ)us,H' l=some (.lst ys)->bZ K (hd (Ow own) H') ys us->Slo K (hd (Ow own) H') H' (some (.ref l)) [l] (c us):=by
 rcases e with⟨e,rfl⟩|⟨a,e,rfl⟩
 .obtain⟨u,e1,l,xs,e2,e3,e4,r⟩:=h.val e (by intro z;cases z);cases e2;exact⟨l,xs,e1,e3,e4,r,λH' ys us a b=>⟨l,ys,rfl,rfl,a,b⟩⟩
 .obtain⟨u,e1,xs,e2,e3,e4,r⟩:=h.val e (by intro z;cases z);cases e2;exact⟨a,xs,e1,e3,e4,r,λH' ys us a b=>⟨ys,rfl,rfl,a,b⟩⟩
theorem Il{o:List OT}{i:Nat}{ts:List T}{c:List T->OT}(e:(slot o i=.l1 ts/\c=.l1)\/∃a,slot o i=.la a ts/\c=.la a):∃x,o[i]?=some x:=by
 rcases e with⟨e,_⟩|⟨a,e,_⟩
 .exact⟨_,gn e (by intro z;cases z)⟩
 .exact⟨_,gn e (by intro z;cases z)⟩
theorem SR.chg1{K:Frag}{own:Nat->Ψ}{H:Hp}{σ:L2.St}{o:List OT}(h:SR K own H σ o){i:Nat}{us:List T}{c:List T->OT}(e:∃x,o[i]?=some x){l:Addr}{ys:Ζ}(eσ:σ[i]?=some (some (.ref l)))(eo:own i=[l])(sl:∀(H':Hp)(ys:Ζ)us,H' l=some (.lst ys)->bZ K (hd (Ow own) H') ys us->Slo K (hd (Ow own) H') H' (some (.ref l)) [l] (c us))(r:bZ K (hd (Ow own) H) ys us):SR K own (upd H l (.lst ys)) σ (o.set i (c us))/\Same (hd (Ow own) H) (hd (Ow own) (upd H l (.lst ys))):=by
 obtain⟨x,e⟩:=e;refine h.chg e (λb u hb e=>(cF λz=>hb (by rw[eo,z];simp)).trans e) ?_;rw[eσ,eo];exact sl _ ys us cM (by rw[Dj ⟨i,by rw[eo];simp⟩];exact r)
theorem nG(i:Nat){x:Str}{am af p:Pos}(he:QE X e re)(hN:X.N[i]?=some x:=by rfl)(hv:q_ X.env.scope x=true:=by rfl)(bv:(x==("__debug__":Str))=false:=by decide)(bg:(x==("__classdict__":Str))=false:=by decide)
 (hb:attributeBase (.Name x p) "append" X.env (eval (.Name x p) X.env)=eval (.Name x p) X.env:=by rfl)
 (hf:((backTo af (starEach [e] X.env)).all (λx=>!x.1)&&(backToKw af (keywordEach [] X.env)).all (λx=>x.1.isSome)&&decide ([e].length+([] : List Keyword).length+(if([] : List Keyword).isEmpty then 0 else 1)<30))=true:=by rfl)
 (hl:(am.endLine==af.line)=true:=by rfl)(b9:starEach [e] X.env=(false,eval e X.env)::starEach [] X.env:=by rfl)(hp:(backTo af (starEach [] X.env)).any (·.1)=false:=by rfl)
 (hs:swapsWith (.Call (.Attribute (.Name x p) "append" am) [e] [] af) none pos.line X.env=pure false:=by rfl) :
  QS X (.Expr (.Call (.Attribute (.Name x p) "append" am) [e] [] af) pos) (am8 i re):=(xU (Yc (pv i hN hv bv bg) (oJ he OJ b9) hb hf hl b9 hp) hs).imp λD σ H hP=>by
 obtain⟨own,o,E,h,hr,L⟩:=hP;obtain⟨ts,c,hr,es⟩:=Dd hr;obtain⟨l,xs,e1,e2,e3,r,sl⟩:=h.l1 es;refine⟨_,e1,l,xs,rfl,e3,tQ.mk h hr λH1 v y q E1 r1=>⟨v,xs,rfl,E1 _ _ e3,by rw[r.len];exact q.1,?_⟩⟩;obtain⟨h',S⟩:=(h.same E1).chg1 (Il es) e1 e2 sl ((r.same (bU E1)).app (.cons r1 .nil));exact L.nx own _ σ _ q.2 ((bU E1).trans S) h'
def alr(i:Nat)(a b:RE):RS:=λE o=>onL (slot o i) λts c=>a o λy=>b o λk=>(match frz k with|.int j=>∃n,ixN ts.length j=some n/\E.nx (o.set i (c (ts.set n (frz y))))|_=>False)
theorem Dv(i:Nat){x:Str}{k:Expr}{rk:RE}{az p:Pos}(he:QE X e re)(hk:QE X k rk)(hN:X.N[i]?=some x:=by rfl)(hv:q_ X.env.scope x=true:=by rfl)(bv:(x==("__debug__":Str))=false:=by decide)(bg:(x==("__classdict__":Str))=false:=by decide)
 (ha:∀v,assign (.Subscript (.Name x p) k az) X.env v=(do
   let ov <- holding [v] (eval (.Name x p) X.env)
   let iv <- holding [v,ov] (eval k X.env)
   standAt az
   holding [v,ov,iv] (setItem ov iv v)
   release [v,ov,iv] []):=by intro _;rfl)
 (hs:swapsWithSole [.Subscript (.Name x p) k az] e pos.line X.env=pure false:=by rfl)(hw:swappedStores [.Subscript (.Name x p) k az] e X.env=pure none:=by rfl)
 (h1:(assignEach [.Subscript (.Name x p) k az] X.env).map (·.2)=[assign (.Subscript (.Name x p) k az) X.env]:=by rfl):QS X (.Assign [.Subscript (.Name x p) k az] e pos) (alr i re rk):=(T_ he (Zz (pv i hN hv bv bg) hk set_list ha) hs hw h1).imp λD σ H hP=>by
 obtain⟨own,o,E,h,hr,L⟩:=hP;obtain⟨ts,c,hr,es⟩:=Dd hr;obtain⟨l,xs,e1,e2,e3,r,sl⟩:=h.l1 es;refine tQ.mk h hr λH1 v y q E1 r1=>⟨_,e1,tQ.mk (h.same E1) q λH2 w z q E2 r2=>?_⟩;have r1:=r1.same (bU E2)
 revert r2 q
 generalize frz z=t;intro q r2;cases t<;>try exact q.elim
 cases r2;obtain⟨n,en,q⟩:=q;have bS:=E1.trans E2;refine⟨l,xs,_,n,rfl,rfl,bS _ _ e3,by rw[r.len];exact en,?_⟩;obtain⟨h',S⟩:=(h.same bS).chg1 (Il es) e1 e2 sl (bZ.set r1 n (r.same (bU bS)));exact L.nx own _ σ _ q ((bU bS).trans S) h'
def alP(i:Nat)(b:RE):RE:=λo q=>onL (slot o i) λts _=>b o λy=>(match frz y with|.int j=>∃t,ixT ts j=some t/\q (.fz t)|_=>False)
theorem uM(i:Nat){x:Str}{p:Pos}{b:Expr}{rb:RE}(hb:QE X b rb)(hN:X.N[i]?=some x:=by rfl)(hv:q_ X.env.scope x=true:=by rfl)(bv:(x==("__debug__":Str))=false:=by decide)
 (bg:(x==("__classdict__":Str))=false:=by decide)(hs:tU b:=by exact λ_ _=>rfl):QE X (.Subscript (.Name x p) b pos) (alP i rb):=(Kd yj (pv i hN hv bv bg) hb hs).imp λσ H Q hP=>by
 obtain⟨own,o,R,h,hr,k⟩:=hP;obtain⟨ts,c,hr,es⟩:=Dd hr;obtain⟨a,xs,e1,e2,e3,r,sl⟩:=h.l1 es;refine⟨_,e1,tQ.mk h hr λH1 v y q E1 r1=>?_⟩
 revert r1 q
 generalize frz y=t;intro q r1;cases t<;>try exact q.elim
 cases r1;obtain⟨t,j,q⟩:=q;obtain⟨v,e',r'⟩:=r.ix j;exact⟨a,xs,_,v,rfl,rfl,.of (E1 _ _ e3),e',k H1 _ _ q E1 (NR.fz (r'.same (bU E1)))⟩
def adY(i:Nat)(f:Int->Int->Int)(a:RE):RS:=λE o=>match slot o i with|.fz (.int k)=>a o λy=>(match frz y with|.int j=>E.nx (o.set i (.fz (.int (f k j))))|_=>False)|_=>False
theorem aaz(i:Nat){x:Str}{op:Operator}{f:Int->Int->Int}{br:Pos}(hN:X.N.Nodup)(hx:Loc X.env.scope x)(ho:PIp X op (ipI f))(he:QE X e re)(hi:X.N[i]?=some x:=by rfl)(hf:X.fn x=true\/X.env.scope.names.lookup x=some .local:=by first|exact .inl rfl|exact .inr rfl|assumption):QS X (.AugAssign (.Name x br) op e pos) (adY i f re):=(aaD hN hi hx he ho hf).imp λD σ H hP=>by
 obtain⟨own,o,E,h,hr,L⟩:=hP;unfold adY at hr;cases es:slot o i with
 |fz t =>
  rw[es]at hr;cases t<;>try exact hr.elim
  obtain⟨u,e1,r⟩:=h.get (gn es (by intro z;cases z));cases r;refine⟨_,e1,tQ.mk h hr λH1 v y q E1 r1=>?_⟩
  revert r1 q
  generalize frz y=t;intro q r1;cases t<;>try exact q.elim
  cases r1;refine⟨_,_,rfl,rfl,?_⟩;obtain⟨ah,h',S⟩:=(h.same E1).putA (.refl _) (NR.fz (.int _)) i;exact L.nx ah _ _ _ q ((bU E1).trans S) h'
 |_=>rw[es]at hr;exact hr.elim
def DY(n:Nat)(own ah:Nat->Ψ)(σ σ':L2.St):Prop:=(∀j,ah j=own j\/(j<n/\ah j=[]))/\σ'.length=σ.length/\∀j,n<=j->σ'[j]?=σ[j]?
theorem DY.refl{n:Nat}{own:Nat->Ψ}{σ:L2.St} : DY n own own σ σ:=⟨λ_=>.inl rfl,rfl,λ_ _=>rfl⟩
theorem DY.trans{n:Nat}{own own1 bX:Nat->Ψ}{σ σ1 σ2:L2.St}(a:DY n own own1 σ σ1)(b:DY n own1 bX σ1 σ2):DY n own bX σ σ2 :=
 ⟨λj=>(b.1 j).elim (λe=>(a.1 j).imp (λz=>e.trans z) λz=>⟨z.1,e.trans z.2⟩) .inr,b.2.1.trans a.2.1,λj hj=>(b.2.2 j hj).trans (a.2.2 j hj)⟩
theorem DY.same{n:Nat}{own ah:Nat->Ψ}{σ σ':L2.St}(a:DY n own ah σ σ'){H:Hp} : Same (hd (Ow own) H) (hd (Ow ah) H):=h_ (λb hP=>by obtain⟨j,z⟩:=hP;exact .inl ⟨j,(a.1 j).elim (λe=>e ▸ z) λe=>by rw[e.2]at z;cases z⟩) λ_ _ z=>z
def tQG(K:Frag)(n:Nat)(g:T->List OT->(List OT->Prop)->Prop):TG:=λv σ H Q=>∃own o t R,SR K own H σ o/\Rep K (hd (Ow own) H) v t/\g t o R/\∀ah σ' o',R o'->DY n own ah σ σ'->SR K ah H σ' o'->Q σ' H
def QG(X:Cx)(n:Nat)(tg:Expr)(g:T->List OT->(List OT->Prop)->Prop):Prop:=PG X tg (tQG X.K n g)
def QGs(X:Cx)(n:Nat)(tg:List Expr)(g:List T->List OT->(List OT->Prop)->Prop):Prop:=PGs X tg λv σ H Q=>∃own o t R,SR X.K own H σ o/\bZ X.K (hd (Ow own) H) v t/\g t o R/\∀ah σ' o',R o'->DY n own ah σ σ'->SR X.K ah H σ' o'->Q σ' H
theorem PGs.imp{tg:List Expr}{t t':TGs}(h:PGs X tg t)(i:∀v σ H Q,t' v σ H Q->t v σ H Q):PGs X tg t':=λaa s σ H v u Q I r q=>h aa s σ H v u Q I r (i _ _ _ _ q)
def hName(i:Nat):T->List OT->(List OT->Prop)->Prop:=λt o q=>q (o.set i (.fz t))
def amy:List T->List OT->(List OT->Prop)->Prop:=λts o q=>match ts with|[]=>q o|_=>False
def ais(g:T->List OT->(List OT->Prop)->Prop)(gs:List T->List OT->(List OT->Prop)->Prop):List T->List OT->(List OT->Prop)->Prop:=λts o q=>match ts with|t::ts=>g t o λo'=>gs ts o' q|_=>False
def amw(n:Nat)(gs:List T->List OT->(List OT->Prop)->Prop):T->List OT->(List OT->Prop)->Prop:=λt o q=>match t with|.tup ts=>ts.length=n/\gs ts o q|_=>False
theorem SR.setF{K:Frag}{own:Nat->Ψ}{H:Hp}{σ:L2.St}{o:List OT}(h:SR K own H σ o){v:V}{t:T}(r:Rep K (hd (Ow own) H) v t){n i:Nat}(hi:i<n):∃ah,SR K ah H (σ.set i (some v)) (o.set i (.fz t))/\DY n own ah σ (σ.set i (some v)):=by
 have le:Same (hd (Ow own) H) (hd (Ow (own1 own i [])) H):=h_ (λb z=>.inl (z.of1.elim id λy=>(nomatch y))) λ_ _ z=>z;have go:DY n own (own1 own i []) σ (σ.set i (some v)):=⟨λj=>by
  by_cases z:j=i
  .exact .inr ⟨z ▸ hi,by rw[z,jg]⟩
  .exact .inl (fB z),VS,λj hj=>UP (by lia)⟩
 by_cases hl:i<o.length
 .refine⟨own1 own i [],⟨by rw[VS,VS,h.len],λj y e=>?_,λj hj a ha=>?_,λj k a e1 e2=>?_⟩,go⟩
  .by_cases z:j=i
   .subst z;rw[Tu hl]at e;cases e;rw[jg,Tu (h.len ▸ hl)];exact⟨rfl,v,rfl,r.same le⟩
   .rw[UP (Ne.symm z)]at e;rw[fB z,UP (Ne.symm z)];exact(h.sl j y e).same le λ_ _ z=>z
  .rw[VS]at hj;rw[fB (by lia)]at ha;exact h.out j hj a ha
  .by_cases z:j=i
   .rw[z,jg]at e1;cases e1
   by_cases y:k=i
   .rw[y,jg]at e2;cases e2
   .rw[fB z]at e1;rw[fB y]at e2;exact h.dis j k a e1 e2
 .refine⟨own,?_,⟨λ_=>.inl rfl,go.2⟩⟩;rw[Zyt (Nat.not_lt.mp hl),Zyt (h.len ▸ Nat.not_lt.mp hl)];exact h
theorem b_{n:Nat}(i:Nat){x:Str}(hN:X.N.Nodup)(hx:Loc X.env.scope x)(hi:X.N[i]?=some x:=by rfl)(hn:i<n:=by decide)(hf:X.fn x=true\/X.env.scope.names.lookup x=some .local:=by first|exact .inl rfl|exact .inr rfl|assumption):QG X n (.Name x pos) (hName i):=(lR hN hi hx hf).imp λv σ H Q hP=>by
 obtain⟨own,o,t,R,h,r,hg,k⟩:=hP;obtain⟨ah,h',S⟩:=h.setF r hn;exact k ah _ _ hg S h'
theorem dF{n:Nat} : QGs X n [] amy:=abv.imp λv σ H Q hP=>by
 obtain⟨own,o,t,R,h,r,hg,k⟩:=hP;cases r with
 |nil=>exact⟨rfl,k own σ o hg .refl h⟩
 |cons _ _=>exact hg.elim
theorem bR{n:Nat}{e:Expr}{es:List Expr}{g:T->List OT->(List OT->Prop)->Prop}{gs:List T->List OT->(List OT->Prop)->Prop}(h1:QG X n e g)(h2:QGs X n es gs)(hs:(assignEach (e::es) X.env).map (·.2)=assign e X.env::(assignEach es X.env).map (·.2):=by rfl):QGs X n (e::es) (ais g gs):=(aaG h1 h2 hs).imp λv σ H Q hP=>by
 obtain⟨own,o,t,R,h,r,hg,k⟩:=hP;cases r with
 |nil=>exact hg.elim
 |cons a b=>exact⟨_,_,rfl,own,o,_,_,h,a,hg,λah σ' o' q S h'=>⟨ah,o',_,R,h',b.same S.same,q,λbX σ2 o2 q S2 h2=>k bX σ2 o2 q (S.trans S2) h2⟩⟩
theorem fu{m:Nat}{es:List Expr}{k:Nat}{gs:List T->List OT->(List OT->Prop)->Prop}{n:Nat}(hc:X.calm=true)(h:QGs X m es gs)(hn:(assignEach es X.env).length=n:=by rfl)(b9:(assignEach es X.env).findIdx? (·.1)=none:=by rfl):QG X m (.Tuple es k pos) (amw n gs):=(ae0 hc h hn b9).imp λv σ H Q hP=>by
 obtain⟨own,o,t,R,h,r,hg,k⟩:=hP;cases t<;>try exact hg.elim
 obtain⟨a,xs,rfl,e,r⟩:=r.tupI;exact⟨a,xs,rfl,dW.tup e,r.len.trans hg.1,own,o,_,R,h,r,hg.2,k⟩
def amK(a:RE)(g:T->List OT->(List OT->Prop)->Prop):RS:=λE o=>a o λx=>g (frz x) o E.nx
theorem T6{n:Nat}{tg:Expr}{g:T->List OT->(List OT->Prop)->Prop}(he:QE X e re)(hg:QG X n tg g)(hs:swapsWithSole [tg] e pos.line X.env=pure false:=by rfl)(hw:swappedStores [tg] e X.env=pure none:=by rfl)(h1:(assignEach [tg] X.env).map (·.2)=[assign tg X.env]:=by rfl):QS X (.Assign [tg] e pos) (amK re g) :=
 (T_ he hg hs hw h1).imp λD σ H hP=>by obtain⟨own,o,E,h,hr,L⟩:=hP;exact tQ.mk h hr λH1 v y q E1 r1=>⟨own,o,_,_,h.same E1,r1,q,λah σ' o' q S h'=>L.nx ah H1 σ' o' q ((bU E1).trans S.same) h'⟩
end
section
variable{P:Program}{w:World}{K:Frag}{mg:Str->Ω}{base:Heap}
noncomputable def start'(n:Nat)(ts:List T):List OT:=ts.map OT.fz++List.replicate (n-ts.length) .und
theorem SR.start{H:Hp}{vs:Ζ}{ts:List T}(r:bZ K H vs ts)(N:Φ):SR K (λ_=>[]) H (start N vs) (start' N.length ts):=by
 have e0:Ow (λ_=>[])=λ_=>False:=funext λb=>propext ⟨λhP=>by obtain⟨_,z⟩:=hP;exact(nomatch z),False.elim⟩;refine⟨by unfold start' L2.start;simp[r.len],λi x e=>?_,λ_ _ _ z=>(nomatch z),λi j a z=>(nomatch z)⟩;rw[e0,Vb];unfold start' at e;unfold L2.start;by_cases hi:i<ts.length
 .rw[aF (by simpa using hi),aq,aj hi]at e;cases e;obtain⟨v,e1,r1⟩:=r.at_ (aj hi);rw[aF (by rw[ak,r.len];exact hi),aq,e1];exact⟨rfl,v,rfl,r1⟩
 .rw[aD (by simpa using hi),ak,X0]at e;by_cases hj:i-ts.length<N.length-ts.length
  .rw[ZY hj]at e;cases e;rfl
  .rw[ZZ hj]at e;cases e
theorem Fun.okT{x ai:Str}{st:Stmt}{f:Addr}{fd:FuncData}{N ps:Φ}{k:Nat}{S:ST}(F:Fun K x ai st f fd)(sc:bL N ps (bH st))(len:∀ts R,S ts R->ts.length=ps.length)
 (cf:∀(ag:Value)(A:Around)(outer:List Env)(s:Shared)(H:Hp)(E:XK),fD k (A.deeper (envOfC ai (bH st) s.heap.objs.size f ag)) ->
   ∃r,QSs (Ob CX0 P w K mg base N ai (bH st) f ag A outer s H E).nox (fL st) r/\∀ts R,S ts R->r { nx:=λ_=>R (.fz .non),rt:=R } (start' N.length ts)):cj P w K mg base CX0 (k+1) f fd ps (spT K S):=by
 refine F.ok sc (λvs H Q E h=>?_) λag A outer s H vs Q E hr h=>?_
 .obtain⟨ts,R,r,hS,_⟩:=h;exact r.len.trans (len ts R hS)
 .obtain⟨ts,R,r,hS,q⟩:=h;obtain⟨rd,h1,h2⟩:=cf ag A outer s H E hr;have e0:hd (Ow λ_=>[]) H=H:=by rw[show Ow (λ_=>[])=λ_=>False from funext λb=>propext ⟨λhP=>by obtain⟨_,z⟩:=hP;exact(nomatch z),False.elim⟩,Vb]
  have bu:∀(S:Addr->Prop)H' v x B,R x->Same H (hd S H')->Slo K (hd S H') H' (some v) B x->(∀a∈B,S a)->Q v H':=λS' H' v x B rx E s hB =>
   q H' v x rx (E.trans dW) ⟨B,λa ha=>E.free (qm (hB a ha)),s.same (h_ (λb z=>.inl (z.elim False.elim (hB b))) λ_ _ z=>z) λ_ _ z=>z⟩
  refine⟨_,h1,λ_=>[],_,_,SR.start r N,h2 ts R hS,⟨λown H' σ o rx E h=>?_,λS' H' v x B rx E s hB=>bu S' H' v x B rx (e0 ▸ E) s hB,λ_ _ _ _ z=>z.elim,λ_ _ _ _ z=>z.elim⟩⟩;exact bu (Ow own) H' .non _ [] rx (e0 ▸ E) ⟨rfl,_,rfl,.non⟩ λ_ z=>(nomatch z)
end
abbrev RI:=List OT->(List T->Prop)->Prop
def Wlk(K:Frag)(J:It)(F:Hp)(xs:List T):Prop:=∀(S:Addr->Prop)(H:Hp)(i:Nat),(∀b,S b->H b≠none)->Same F (hd S H) ->
 (i=xs.length->J.stop i H)/\∀t,xs[i]?=some t->J.go i H/\∀x H',J.yld i H x H'->Same H H'/\Rep K (hd S H') x t
def tQI(K:Frag)(r:RI):TI:=λσ H Q=>∃own o R,SR K own H σ o/\r o R/\∀H' J xs,R xs->Same H H'->Wlk K J (hd (Ow own) H') xs->Q J H'
def QI(X:Cx)(tg it:Expr)(r:RI):Prop:=PI X tg it (tQI X.K r)
theorem PI.imp{X:Cx}{tg it:Expr}{t t':TI}(h:PI X tg it t)(i:∀σ H Q,t' σ H Q->t σ H Q):PI X tg it t':=λaa s σ H Q I q=>h aa s σ H Q I (i σ H Q q)
def amN(a:RE):RI:=λo q=>a o λx=>match frz x with|.lst ts=>q ts|_=>False
theorem aaI{S:Addr->Prop}{H:Hp}{t:Addr}{u:HO}(n:H t=none)(hs:∀b,S b->H b≠none):hd S (upd H t u) t=some u:=by rw[cR λz=>hs t z n];exact cM
section
variable{X:Cx}{tg:Expr}{e a b:Expr}{re ra rb:RE}{p pos az:Pos}
theorem cH(he:QE X e re):QI X tg e (amN re):=(acj he).imp λσ H Q ⟨own,o,R,h,hr,k⟩=>tQ.mk h hr λH1 v x q E1 r1=>by
 revert r1 q
 generalize frz x=t;intro q r1;cases t<;>try exact q.elim
 obtain⟨a,xs,rfl,e,r⟩:=r1.lstI;refine⟨a,rfl,⟨xs,.of (cU e).2⟩,k H1 _ _ q E1 λS H2 i _ SF=>⟨λhi=>⟨xs,.of (cU (SF _ _ e)).2,by rw[r.len];exact WG hi.symm⟩,λt ht=>?_⟩⟩;obtain⟨y,ey,ry⟩:=r.at_ ht;refine⟨⟨xs,y,.of (cU (SF _ _ e)).2,ey⟩,?_⟩;rintro x H3 ⟨rfl,hx⟩;have:=hx xs (.of (cU (SF _ _ e)).2);rw[ey]at this;cases this;exact⟨.refl _,ry.same SF⟩
noncomputable def rng(lo:Int)(n:Nat):List T:=(List.range n).map λk:Nat=>.int (lo+k)
theorem Wf{K:Frag}{lo:Int}{n:Nat}{F:Hp} : Wlk K (Itr lo n) F (rng lo n):=λS H i _ _=>⟨λhi=>by rw[rng,ak,WJ]at hi;exact WG hi.symm,λt ht=>by
 unfold rng at ht;rw[aq]at ht;by_cases hi:i<n
 .rw[Up hi]at ht;cases ht;refine⟨hi,?_⟩;rintro x H' ⟨rfl,rfl⟩;exact⟨.refl _,.int _⟩
 .rw[aM (by simpa using hi)]at ht;cases ht⟩
def anH(r:RA):RI:=λo q=>r o λts=>match ts with|[.int j]=>(-(2^62)<=j/\j<2^62)/\q (rng 0 j.toNat)|_=>False
def anr(r:RA):RI:=λo q=>r o λts=>match ts with|[.int i,.int j]=>(-(2^62)<=i/\i<2^62/\-(2^62)<=j/\j<2^62)/\q (rng i (j-i).toNat)|_=>False
theorem cY{r:RA}(hg:Gl X "range")(hm:X.mg "range"=none)(ha:QA X [a] r)(hs:starEach [a] X.env=[(false,eval a X.env)]:=by rfl):QI X tg (.Call (.Name "range" p) [a] [] pos) (anH r):=(W4 hg hm ha hs).imp λσ H Q ⟨own,o,R,h,hr,k⟩=>⟨own,o,_,h,hr,λH1 vs ts q _ E1 r1=>by
 match ts,q with
 |[.int j],q =>
  obtain⟨x,rfl,rx⟩:=r1.one;cases rx;exact⟨j,rfl,q.1.1,q.1.2,k H1 _ _ q.2 E1 Wf⟩⟩
theorem Ku{r:RA}(hg:Gl X "range")(hm:X.mg "range"=none)(ha:QA X [a,b] r)(hs:starEach [a,b] X.env=[(false,eval a X.env),(false,eval b X.env)]:=by rfl)(eK:starEach [b] X.env=[(false,eval b X.env)]:=by rfl):QI X tg (.Call (.Name "range" p) [a,b] [] pos) (anr r):=(Xw hg hm ha hs eK).imp λσ H Q ⟨own,o,R,h,hr,k⟩=>⟨own,o,_,h,hr,λH1 vs ts q _ E1 r1=>by
 match ts,q with
 |[.int i,.int j],q =>
  obtain⟨x,y,rfl,rx,ry⟩:=r1.two;cases rx;cases ry;exact⟨i,j,rfl,q.1,k H1 _ _ q.2 E1 Wf⟩⟩
def yV(ts:List T):List T:=ts.zipIdx.map λp=>.tup [.int (p.2:Nat),p.1]
def amv(r:RA):RI:=λo q=>r o λts=>match ts with|[.lst ts]=>q (yV ts)|_=>False
theorem Ae{r:RA}{b5:List Expr}{x1}(hg:Gl X "enumerate")(hm:X.mg "enumerate"=none)(ha:QA X [a] r)(hs:starEach [a] X.env=[(false,eval a X.env)]:=by rfl):QI X (.Tuple b5 x1 az) (.Call (.Name "enumerate" p) [a] [] pos) (amv r):=(ac8 hg hm ha hs).imp λσ H Q ⟨own,o,R,h,hr,k⟩=>⟨own,o,_,h,hr,λH1 vs ts q _ E1 r1=>by
 match ts,q with
 |[.lst ts],q =>
  obtain⟨x,rfl,rx⟩:=r1.one;obtain⟨a,xs,rfl,e,r⟩:=rx.lstI;refine⟨a,xs,rfl,(cU e).2,k H1 _ _ q E1 λS H2 i hs SF=>⟨λhi=>⟨xs,(cU (SF _ _ e)).2,by rw[r.len,hi];simp[yV]⟩,λt ht=>?_⟩⟩;unfold yV at ht;rw[aq]at ht;by_cases hi:i<ts.length
  .rw[aj (by simpa using hi),List.getElem_zipIdx]at ht;cases ht;obtain⟨y,ey,ry⟩:=r.at_ (aj hi);refine⟨⟨xs,(cU (SF _ _ e)).2,by rw[r.len];exact hi⟩,?_⟩;rintro x H3 ⟨eP,x',t,e',ex,n,rfl,rfl⟩;rw[(cU (SF _ _ e)).2]at e';cases e';rw[ey]at ex;cases ex;refine⟨Same.upd n,.tup (.of (aaI n hs)) (.cons ?_ (.cons (ry.same (SF.trans (bU (Same.upd n)))) .nil))⟩;rw[show((0+i:Nat):Int)=(i:Int)by lia];exact .int _
  .rw[aM (by simpa using hi)]at ht;cases ht⟩
def DP(ts us:List T):List T:=(ts.zip us).map λp=>.tup [p.1,p.2]
def alW(r:RA):RI:=λo q=>r o λts=>match ts with|[.lst ts,.lst us]=>q (DP ts us)|_=>False
theorem Ia{r:RA}{b5:List Expr}{x1}(hg:Gl X "zip")(hm:X.mg "zip"=none)(ha:QA X [a,b] r)(hs:starEach [a,b] X.env=[(false,eval a X.env),(false,eval b X.env)]:=by rfl)(eK:starEach [b] X.env=[(false,eval b X.env)]:=by rfl):QI X (.Tuple b5 x1 az) (.Call (.Name "zip" p) [a,b] [] pos) (alW r):=(aeP hg hm ha hs eK).imp λσ H Q ⟨own,o,R,h,hr,k⟩=>⟨own,o,_,h,hr,λH1 vs ts q _ E1 r1=>by
 match ts,q with
 |[.lst ts,.lst us],q =>
  obtain⟨x,y,rfl,rx,ry⟩:=r1.two;obtain⟨a,xs,rfl,e,r⟩:=rx.lstI;obtain⟨b,ys,rfl,e2,r2⟩:=ry.lstI;refine⟨a,b,xs,ys,rfl,(cU e).2,(cU e2).2,k H1 _ _ q E1 λS H2 i hs SF=>⟨λhi=>⟨xs,ys,(cU (SF _ _ e)).2,(cU (SF _ _ e2)).2,?_⟩,λt ht=>?_⟩⟩
  .rw[r.len,r2.len];rw[DP,ak,VX]at hi;lia
  .unfold DP at ht;rw[aq]at ht;by_cases hi:i<ts.length/\i<us.length
   .rw[aj (by rw[VX];omega),Zys]at ht;cases ht;obtain⟨y,ey,ry⟩:=r.at_ (aj hi.1);obtain⟨z,ez,rz⟩:=r2.at_ (aj hi.2);refine⟨⟨xs,ys,(cU (SF _ _ e)).2,(cU (SF _ _ e2)).2,by rw[r.len];exact hi.1,by rw[r2.len];exact hi.2⟩,?_⟩;rintro x H3 ⟨eP,ja,x',y',t,e',kc,ex,ey',n,rfl,rfl⟩;rw[(cU (SF _ _ e)).2]at e';cases e';rw[(cU (SF _ _ e2)).2]at kc;cases kc;rw[ey]at ex;cases ex;rw[ez]at ey';cases ey';have S3:=SF.trans (bU (S:=S) (Same.upd (o:=.tup [y,z]) n));exact⟨Same.upd n,.tup (.of (aaI n hs)) (.cons (ry.same S3) (.cons (rz.same S3) .nil))⟩
   .rw[aM (by rw[VX];omega)]at ht;cases ht⟩
def uQ(g:T->List OT->(List OT->Prop)->Prop)(b:RS)(E:DT):List T->List OT->Prop
 |[],o=>E.nx o
 |t::ts,o=>∃N:List OT->Prop,(∀o,N o->uQ g b E ts o)/\g t o λo'=>b { E with nx:=N,ct:=N,bk:=E.nx } o'
def al4(it:RI)(g:T->List OT->(List OT->Prop)->Prop)(b:RS):RS:=λE o=>it o λxs=>uQ g b E xs o
theorem dG{n:Nat}{iter:Expr}{b7:List Stmt}{ri:RI}{g:T->List OT->(List OT->Prop)->Prop}{rb:RS}(hp:PassesOwn (model X.prog X.w) X.A X.env X.xe)(hc:X.calm=true)(hi:QI X tg iter ri)(hg:QG X n tg g)(hb:QSs X b7 rb)
 (hs:∀x,foldedSetIterable iter X.env x=pure x:=by intro _;rfl):QS X (.For tg iter b7 [] pos) (al4 ri g rb):=(af8 hp hc hi hg hb hs).imp λD σ H ⟨own,o,E,h,hr,L⟩=>⟨own,o,_,h,hr,λH1 J xs q E1 wk=>by
 refine⟨λi m σ' H'=>∃ah o',SR X.K ah H' σ' o'/\Same (hd (Ow own) H1) (hd (Ow ah) H')/\uQ g rb E (xs.drop i) o'/\i<=xs.length/\m=xs.length-i,⟨_,own,o,h.same E1,.refl _,q,aZ _,rfl⟩,?_⟩;rintro i m σ' H' ⟨ah,o',h',S',hl,il,rfl⟩;obtain⟨w1,w2⟩:=wk (Ow ah) H' i (λb z=>(h'.sole z).ne) S';have S0:=(bU E1).trans S';by_cases hi:i<xs.length
 .right;obtain⟨go,yl⟩:=w2 _ (aj hi);rw[Zzv hi]at hl;obtain⟨N,hN,hl⟩:=hl;refine⟨go,λσ2 H2=>∃bX o2,SR X.K bX H2 σ2 o2/\Same (hd (Ow own) H1) (hd (Ow bX) H2)/\uQ g rb E (xs.drop (i+1)) o2,λσ2 H2 ⟨bX,o2,a,b,c⟩=>⟨xs.length-(i+1),by omega,bX,o2,a,b,c,hi,rfl⟩,λx H2 y=>?_⟩;obtain⟨E2,rx⟩:=yl x H2 y;refine⟨ah,o',_,_,h'.same E2,rx,hl,λeW σ3 o3 q3 g3 h3=>⟨eW,o3,_,h3,q3,?_⟩⟩;have S3:=S'.trans ((bU (S:=Ow ah) E2).trans g3.same);have L3:=L.step ((bU E1).trans S3);exact⟨λcx H4 σ4 o4 q S h=>⟨cx,o4,h,S3.trans S,hN _ q⟩,L3.rt,λcx H4 σ4 o4 q S h=>L3.nx cx H4 σ4 o4 q S h,λcx H4 σ4 o4 q S h=>⟨cx,o4,h,S3.trans S,hN _ q⟩⟩
 .left;refine⟨w1 (by lia),?_⟩;rw[TR (Nat.not_lt.mp hi)]at hl;exact L.nx ah H' σ' o' hl S0 h'⟩
def aew(c:RT)(b:RS):RS:=λE o=>∃W:Nat->List OT->Prop,(∃m,W m o)/\∀m o,W m o->c o λk=>sw k (∃N:List OT->Prop,(∀o',N o'->∃m',m'<m/\W m' o')/\b { E with nx:=N,ct:=N,bk:=E.nx } o) (E.nx o)
theorem Cj{c:Expr}{b7:List Stmt}{rc:RT}{rb:RS}(hp:PassesOwn (model X.prog X.w) X.A X.env X.xe)(hc:QT X c rc)(hb:QSs X b7 rb):QS X (.While c b7 [] pos) (aew rc rb):=(Yy hp hc hb).imp λD σ H hP=>by
 obtain⟨own,o,E,h,hr,L⟩:=hP;obtain⟨W,⟨m0,w0⟩,st⟩:=hr;refine⟨λm σ' H'=>∃ah o',SR X.K ah H' σ' o'/\Same (hd (Ow own) H) (hd (Ow ah) H')/\W m o',⟨m0,own,o,h,.refl _,w0⟩,?_⟩;rintro m σ' H' ⟨ah,o',h',S',wm⟩;refine tQT.mk h' (st m o' wm) λH1 k q E1=>Io q (λhP=>?_) λq=>L.nx ah H1 σ' o' q (S'.trans (bU E1)) (h'.same E1);obtain⟨N,hN,q⟩:=hP;have S1:=S'.trans (bU E1);have L1:=L.step S1;refine⟨λσ2 H2=>∃bX o2,SR X.K bX H2 σ2 o2/\Same (hd (Ow own) H) (hd (Ow bX) H2)/\N o2,λσ2 H2 hP=>?_,ah,o',_,h'.same E1,q,⟨λcx H4 σ4 o4 q S h=>⟨cx,o4,h,S1.trans S,q⟩,L1.rt,λcx H4 σ4 o4 q S h=>L1.nx cx H4 σ4 o4 q S h,λcx H4 σ4 o4 q S h=>⟨cx,o4,h,S1.trans S,q⟩⟩⟩;obtain⟨bX,o2,a,b,c⟩:=hP;obtain⟨m',lt,w⟩:=hN o2 c;exact⟨m',lt,bX,o2,a,b,w⟩
end
def jd(g:T->List OT->(List OT->Prop)->Prop)(c:RT)(e:RE)(o:List OT):List T->(List T->Prop)->Prop
 |[],q=>q []
 |t::ts,q=>∃(N:T->Prop)(M:Prop),(∀y,N y->jd g c e o ts λus=>q (y::us))/\(M->jd g c e o ts q)/\g t o λo'=>c o' λb=>sw b (e o' λy=>N (frz y)) M
def alw:RT:=λ_ q=>q true
def W7(it:RI)(n:Nat)(g:T->List OT->(List OT->Prop)->Prop)(c:RT)(e:RE):RE:=λo q=>it o λxs=>xs.length<=sizeLine/\jd g c e (List.replicate n .und++o) xs λus=>q (.l1 us)
noncomputable def ownS(n L:Nat)(own:Nat->Ψ)(D:Addr):Nat->Ψ:=λi=>if i<n then[]else if i<n+L then own (i-n)else if i=n+L then[D]else own (i-n-1)
theorem Ow.ownS{n L:Nat}{own:Nat->Ψ}{D b:Addr} : Ow (ownS n L own D) b↔Ow own b\/b=D:=by
 constructor
 .rintro⟨i,z⟩;unfold L2.ownS at z;by_cases h1:i<n
  .rw[ZY h1]at z;cases z
  rw[ZZ h1]at z;by_cases h2:i<n+L
  .rw[ZY h2]at z;exact .inl ⟨_,z⟩
  rw[ZZ h2]at z;by_cases h3:i=n+L
  .rw[ZY h3]at z;exact .inr (YR.mp z)
  .rw[ZZ h3]at z;exact .inl ⟨_,z⟩
 .rintro(⟨i,z⟩|rfl)
  .by_cases h:i<L
   .exact⟨n+i,by unfold L2.ownS;rw[ZZ (Ts (X2 _ _)),ZY (Nat.add_lt_add_left h _),show n+i-n=i by exact JU _ _];exact z⟩
   .exact⟨n+i+1,by unfold L2.ownS;rw[ZZ (by lia),ZZ (by lia),ZZ (by lia),show n+i+1-n-1=i by lia];exact z⟩
  .exact⟨n+L,by unfold L2.ownS;rw[ZZ (Ts (X2 _ _)),ZZ (X9 _),ZY rfl];simp⟩
theorem SR.block{K:Frag}{own:Nat->Ψ}{H:Hp}{σ:L2.St}{o:List OT}(h:SR K own H σ o){D:Addr}{ys:Ζ}{H':Hp}(E:Same H H')(nD:H D=none)(eD:H' D=some (.lst ys))(pre:L2.St):SR K (ownS pre.length o.length own D) H' (pre++σ) (List.replicate pre.length .und++o):=by
 have le:Same (hd (Ow own) H) (hd (Ow (ownS pre.length o.length own D)) H'):=h_ (λb z=>(Ow.ownS.mp z).imp id λ(e:b=D)=>e ▸ nD) E;have fm:∀j,D∉own j:=λj z=>(h.sole ⟨j,z⟩).ne nD;refine⟨by simp[h.len],λi x e=>?_,λi hi a ha=>?_,λi j a e1 e2=>?_⟩
 .by_cases h1:i<pre.length
  .rw[aF (by simpa using h1),X0,ZY h1]at e;cases e;show ownS _ _ _ _ i=[];unfold ownS;rw[ZY h1]
  .rw[aD (by simpa using h1),aN]at e;have h2:i-pre.length<o.length:=(ao.mp e).1;rw[aD (Nat.not_lt.mp h1)];have:ownS pre.length o.length own D i=own (i-pre.length):=by unfold ownS;rw[ZZ h1,ZY (by omega)]
   rw[this];exact(h.sl _ x e).same le E
 .rw[aA,aN]at hi;unfold ownS at ha;rw[ZZ (by lia),ZZ (Ts hi)]at ha;by_cases h3:i=pre.length+o.length
  .rw[ZY h3]at ha;cases YR.mp ha;exact⟨_,eD⟩
  .rw[ZZ h3]at ha;obtain⟨xs,e⟩:=h.out _ (by lia) a ha;exact⟨xs,E _ _ e⟩
 .unfold ownS at e1 e2;by_cases a1:i<pre.length
  .rw[ZY a1]at e1;cases e1
  by_cases b1:j<pre.length
  .rw[ZY b1]at e2;cases e2
  rw[ZZ a1]at e1;rw[ZZ b1]at e2;by_cases a2:i<pre.length+o.length<;>by_cases b2:j<pre.length+o.length
  .rw[ZY a2]at e1;rw[ZY b2]at e2;have:=h.dis _ _ a e1 e2;omega
  .rw[ZY a2]at e1;rw[ZZ b2]at e2;by_cases b3:j=pre.length+o.length
   .rw[ZY b3]at e2;cases YR.mp e2;exact absurd e1 (fm _)
   .rw[ZZ b3]at e2;have:=h.dis _ _ a e1 e2;omega
  .rw[ZZ a2]at e1;rw[ZY b2]at e2;by_cases a3:i=pre.length+o.length
   .rw[ZY a3]at e1;cases YR.mp e1;exact absurd e2 (fm _)
   .rw[ZZ a3]at e1;have:=h.dis _ _ a e1 e2;lia
  .rw[ZZ a2]at e1;rw[ZZ b2]at e2;by_cases a3:i=pre.length+o.length<;>by_cases b3:j=pre.length+o.length
   .exact Eq.trans a3 (Eq.symm b3)
   .rw[ZY a3]at e1;rw[ZZ b3]at e2;cases YR.mp e1;exact absurd e2 (fm _)
   .rw[ZZ a3]at e1;rw[ZY b3]at e2;cases YR.mp e2;exact absurd e1 (fm _)
   .rw[ZZ a3]at e1;rw[ZZ b3]at e2;have:=h.dis _ _ a e1 e2;lia
theorem Qu{n:Nat}{own ah:Nat->Ψ}{pre σ σ':L2.St}(hp:pre.length=n)(g:DY n own ah (pre++σ) σ'):∃b6:L2.St,b6.length=n/\σ'=b6++σ:=by
 obtain⟨_,l,k⟩:=g;refine⟨σ'.take n,by rw[aY,l,aA];lia,?_⟩;refine Zzs λi=>?_;by_cases hi:i<n
 .rw[aF (by rw[aY,l,aA];lia),List.getElem?_take_of_lt hi]
 .rw[aD (by rw[aY,l,aA];lia),k i (VU hi),aD (by lia),aY,l,aA]
  congr 1
  lia
theorem Qw{K:Frag}{σ:L2.St}{Q:VK}{n:Nat}{g:T->List OT->(List OT->Prop)->Prop}{rc:RT}{re:RE}{own:Nat->Ψ}{o:List OT}{H1:Hp}{J:It}{xs:List T}{R:OT->Prop}{D:Addr}(h1:SR K own H1 σ o)(wk:Wlk K J (hd (Ow own) H1) xs)(lx:xs.length<=sizeLine)(q:jd g rc re (List.replicate n .und++o) xs λus=>R (.l1 us))(nD:H1 D=none)(k:∀H' v x,R x->Same H1 H'->NR K (Ow own) H1 H' v x->Q v H') :
  ∃W:Nat->Nat->Ζ->Hp->Prop,(∃m,W 0 m [] (upd H1 D (.lst [])))/\∀i m ys Hc,W i m ys Hc ->
   (J.stop i Hc/\Q (.ref D) Hc)\/(J.go i Hc/\∀x H',J.yld i Hc x H'->∀pre:L2.St,pre.length=n->tMG (tQG K n g) x (pre++σ) H' λσ2 H2=>∃b6:L2.St,b6.length=n/\σ2=b6++σ/\tMT (tQT K rc) σ2 H2 λb H3 =>
    match b with
    |true=>tM (tQ K re) σ2 H3 λy H4=>ys.length<sizeLine/\H4 D=some (.lst ys)/\∃m',m'<m/\W (i+1) m' (ys++[y]) (upd H4 D (.lst (ys++[y])))
    |false=>∃m',m'<m/\W (i+1) m' ys H3):=by
 generalize hO:List.replicate n OT.und++o=ob at q;refine⟨λi m ys Hc=>∃ts,Hc D=some (.lst ys)/\Same H1 Hc/\bZ K (hd (λb=>Ow own b\/b=D) Hc) ys ts/\ys.length<=i/\i<=xs.length/\m=xs.length-i/\jd g rc re ob (xs.drop i) λus=>R (.l1 (ts++us)),⟨_,[],cM,Same.upd nD,.nil,aG _,aZ _,rfl,q⟩,?_⟩;rintro i m ys Hc ⟨ts,eD,Ec,rs,il,ix,rfl,hl⟩;have hn:∀b,Ow own b\/b=D->Hc b≠none:=λb z=>z.elim (λz=>((h1.same Ec).sole z).ne) λe z=>by rw[e,eD]at z;cases z
 have SD:Same (hd (Ow own) H1) (hd (λb=>Ow own b\/b=D) Hc):=h_ (λb z=>z.imp id λ(e:b=D)=>e ▸ nD) Ec;obtain⟨w1,w2⟩:=wk (λb=>Ow own b\/b=D) Hc i hn SD;by_cases hi:i<xs.length
 .right;obtain⟨go,yl⟩:=w2 _ (aj hi);rw[Zzv hi]at hl;obtain⟨N,M,hN,hM,hl⟩:=hl;refine⟨go,λx H2 y pre hp=>?_⟩;obtain⟨E2,rx⟩:=yl x H2 y;have eO:(λb=>Ow own b\/b=D)=Ow (ownS n o.length own D):=funext λb=>propext Ow.ownS.symm;have hb:SR K (ownS n o.length own D) H2 (pre++σ) ob:=by
   have:=h1.block (Ec.trans E2) nD (E2 _ _ eD) pre;rw[hp,hO]at this;exact this
  rw[eO]at rx rs;refine⟨_,⟨ownS n o.length own D,ob,_,_,hb,rx,hl,λeW σ3 o3 q3 g3 h3=>?_⟩,λ_ _ z=>z⟩;obtain⟨b6,c9,rfl⟩:=Qu hp g3;have e3:eW=ownS n o.length own D:=funext λj=>by
   rcases g3.1 j with e|⟨e1,e2⟩
   .exact e
   .rw[e2];unfold ownS;rw[ZY e1]
  subst e3;refine⟨b6,c9,rfl,_,tQT.mk h3 q3 λH3 b q4 E3=>?_,λ_ _ z=>z⟩;have q4:sw b (re o3 λy=>N (frz y)) M:=q4;cases b with
  |false=>exact⟨xs.length-(i+1),by lia,ts,E3 _ _ (E2 _ _ eD),Ec.trans (E2.trans E3),by rw[eO];exact rs.same (bU (E2.trans E3)),by exact aL il (X2 _ _),by exact hi,rfl,hM q4⟩
  |true =>
   refine⟨_,tQ.mk (h3.same E3) q4 λH4 v y q5 E4 r4=>⟨by lia,E4 _ _ (E3 _ _ (E2 _ _ eD)),xs.length-(i+1),by lia,ts++[frz y],cM,λb u e=>?_,?_,by rw[aA,List.length_singleton];exact Nat.succ_le_succ il,by exact hi,rfl,?_⟩,λ_ _ z=>z⟩
   .rw[cF λz=>by rw[z,nD]at e;cases e];exact E4 _ _ (E3 _ _ (E2 _ _ (Ec _ _ e)))
   .rw[Dj (S:=λb=>Ow own b\/b=D) (.inr rfl),eO];exact(rs.same (bU (E2.trans (E3.trans E4)))).app (.cons r4 .nil)
   .have:=hN _ q5;simp only[WZ,List.singleton_append];exact this
 .left;have:i=xs.length:=by lia
  refine⟨w1 this,?_⟩;rw[TR (VU hi)]at hl;have hl:R (.l1 (ts++[])):=hl;rw[List.append_nil]at hl;exact k Hc _ _ hl Ec (NR.l1 nD eD rs)
theorem Ig{K:Frag}{σ:L2.St}{H:Hp}{Q:VK}{ri:RI}{n:Nat}{g:T->List OT->(List OT->Prop)->Prop}{rc:RT}{re:RE}(h:tQ K (W7 ri n g rc re) σ H Q):rE (tQI K ri) n (tMG (tQG K n g)) (tMT (tQT K rc)) (tM (tQ K re)) σ H Q:=by
 obtain⟨own,o,R,h,hr,k⟩:=h;exact⟨own,o,_,h,hr,λH1 J xs q E1 wk D nD=>Qw (h.same E1) wk q.1 q.2 nD λH' v x rx E n=>k H' v x rx (E1.trans E) (n.back E1)⟩
section
variable{X:Cx}{tg iter a9:Expr}{aI:List Expr}{ri:RI}{g:T->List OT->(List OT->Prop)->Prop}{rc:RT}{re:RE}{scope:Scope}{pos:Pos}
def QTs(X:Cx)(aI:List Expr)(r:RT):Prop:=PTs X aI (tQT X.K r)
theorem cI:QTs X [] alw:=λaa s σ H Q I hP=>by obtain⟨own,o,R,h,hr,k⟩:=hP;exact abO aa s σ H Q I (k H true hr (.refl _))
theorem Pa{c:Expr}{rc:RT}(h:QT X c rc):QTs X [c] rc:=acL h
theorem dH(sc:Scope)(N N' xs:Φ)(hi:QI X tg iter ri)(hg:∀{C s₀ H₀ ex pn},QG (X.compG N' scope xs C s₀ H₀ ex pn) xs.length tg g)(ht:∀{C s₀ H₀ ex pn},QTs (X.compG N' scope xs C s₀ H₀ ex pn) aI rc)(he:∀{C s₀ H₀ ex pn},QE (X.compG N' scope xs C s₀ H₀ ex pn) a9 re)
 (cy:X.env.scope=sc:=by rfl)(c5:X.N=N:=by rfl)(hc:X.calm=true:=by rfl)(hk:scope.kind=.function:=by rfl)(h:CK sc scope N N' xs:=by decide +kernel)(hs:∀z,foldedSetIterable iter X.env z=pure z:=by intro _;rfl):QE X (.ListComp a9 [⟨tg,iter,aI,0⟩] scope pos) (W7 ri xs.length g rc re) :=
 (aaL (gt:=tQG X.K xs.length g) (tc:=tQT X.K rc) (te:=tQ X.K re) sc N N' xs hi hg ht he cy c5 hc hk h hs).imp λ_ _ _=>Ig
theorem acJ(sc:Scope)(N N':Φ)(x0:Str)(hi:QI X tg iter ri)(hg:∀{C s₀ H₀ ex pn},QG (X.compGC N' scope x0 C s₀ H₀ ex pn) 1 tg g)(ht:∀{C s₀ H₀ ex pn},QTs (X.compGC N' scope x0 C s₀ H₀ ex pn) aI rc)(he:∀{C s₀ H₀ ex pn},QE (X.compGC N' scope x0 C s₀ H₀ ex pn) a9 re)
 (cy:X.env.scope=sc:=by rfl)(c5:X.N=N:=by rfl)(hc:X.calm=true:=by rfl)(hk:scope.kind=.function:=by rfl)(fA:∀n acc,cellsFrom n scope.names acc=(x0,n)::acc:=by intro _ _;rfl)(fw:∀h,pushCells h scope.names=h.push { cls:=.type "cell",data:=.cell none }:=by intro _;rfl)(h:(∀y∈scope.names,y.2=.cell->y.1=x0)/\CK0 sc scope N N' [x0]:=by decide +kernel)(hs:∀z,foldedSetIterable iter X.env z=pure z:=by intro _;rfl):QE X (.ListComp a9 [⟨tg,iter,aI,0⟩] scope pos) (W7 ri 1 g rc re) :=
 (Z_ (gt:=tQG X.K 1 g) (tc:=tQT X.K rc) (te:=tQ X.K re) sc N N' x0 hi hg ht he cy c5 hc hk fA fw h hs).imp λ_ _ _=>Ig
theorem Vy{N0:Φ}{x0:Str}{sO:Scope}{C0:Addr}{s0:Shared}{H0:Hp}{eB:Ψ}{dP:Δ}(sc:Scope)(N N' xs:Φ)(hi:QI (X.compGC N0 sO x0 C0 s0 H0 eB dP) tg iter ri)(hg:∀{C s₀ H₀ ex pn},QG ((X.compGC N0 sO x0 C0 s0 H0 eB dP).compG N' scope xs C s₀ H₀ ex pn) xs.length tg g)(ht:∀{C s₀ H₀ ex pn},QTs ((X.compGC N0 sO x0 C0 s0 H0 eB dP).compG N' scope xs C s₀ H₀ ex pn) aI rc)(he:∀{C s₀ H₀ ex pn},QE ((X.compGC N0 sO x0 C0 s0 H0 eB dP).compG N' scope xs C s₀ H₀ ex pn) a9 re)
 (cy:X.env.scope=sc:=by rfl)(c5 : [x0]++N0=N:=by rfl)(hc:X.calm=true:=by rfl)(hk:scope.kind=.function:=by rfl)(h:CK (rlb sc sO) scope N N' xs:=by decide +kernel)(hs:∀z,foldedSetIterable iter (X.compGC N0 sO x0 C0 s0 H0 eB dP).env z=pure z:=by intro _;rfl):QE (X.compGC N0 sO x0 C0 s0 H0 eB dP) (.ListComp a9 [⟨tg,iter,aI,0⟩] scope pos) (W7 ri xs.length g rc re) :=
 PE.imp (aen (gt:=tQG X.K xs.length g) (tc:=tQT X.K rc) (te:=tQ X.K re) sc N N' xs hi hg ht he cy c5 hc hk h hs) λ_ _ _=>Ig
theorem afR{i0:Nat}{y0:Str}{py b8:Pos}(sc:Scope)(N N' xs:Φ)(hi:QI X tg iter ri)(hg:∀{C s₀ H₀ ex pn},QG (X.compG N' scope xs C s₀ H₀ ex pn) xs.length tg g)(ht:∀{C s₀ H₀ ex pn},QTs (X.compG N' scope xs C s₀ H₀ ex pn) aI rc)(he:∀{C s₀ H₀ ex pn},QE (X.compG N' scope xs C s₀ H₀ ex pn) a9 re)(fy:PG X (.Name y0 py) (yS i0))
 (cy:X.env.scope=sc:=by rfl)(c5:X.N=N:=by rfl)(hc:X.calm=true:=by rfl)(hk:scope.kind=.function:=by rfl)(h:CK sc scope N N' xs:=by decide +kernel)(fr:swapsWith (.ListComp a9 [⟨tg,iter,aI,0⟩] scope pos) (some (.Name y0 py)) b8.line X.env=pure true:=by rfl)(hs:∀z,foldedSetIterable iter X.env z=pure z:=by intro _;rfl) :
  QS X (.Assign [.Name y0 py] (.ListComp a9 [⟨tg,iter,aI,0⟩] scope pos) b8) (afh i0 (W7 ri xs.length g rc re)):=(Yp (gt:=tQG X.K xs.length g) (tc:=tQT X.K rc) (te:=tQ X.K re) sc N N' xs hi hg ht he fy cy c5 hc hk h fr hs).imp λD σ H ⟨own,o,E,h,hr,L⟩=>Ig ⟨own,o,_,h,hr,λH' v y q S n=>by
 obtain⟨ah,h',S'⟩:=h.putA S n i0;exact L.nx ah H' _ _ q S' h'⟩
theorem fj{N' xs:Φ}{C s₀ H₀ ex pn}{n i:Nat}{x:Str}{p:Pos}(hN:(xs++N').Nodup:=by decide +kernel)(hi:(xs++N')[i]?=some x:=by rfl)(hn:i<n:=by decide)(hx:Loc (X.compG N' scope xs C s₀ H₀ ex pn).env.scope x:=by exact Or.inl rfl)(hf:(X.compG N' scope xs C s₀ H₀ ex pn).fn x=true\/(X.compG N' scope xs C s₀ H₀ ex pn).env.scope.names.lookup x=some .local:=by exact Or.inr rfl):QG (X.compG N' scope xs C s₀ H₀ ex pn) n (.Name x p) (hName i):=b_ i hN hx hi hn hf
theorem adH{N':Φ}{x0:Str}{C s₀ H₀ ex pn}{p:Pos}(hN:([x0]++N').Nodup:=by decide +kernel)(hx:Loc (X.compGC N' scope x0 C s₀ H₀ ex pn).env.scope x0:=by exact Or.inr rfl):QG (X.compGC N' scope x0 C s₀ H₀ ex pn) 1 (.Name x0 p) (hName 0)   := b_ 0 hN hx rfl (by decide) (.inl (beq_self_eq_true _))
end
theorem Xc{g:T->List OT->(List OT->Prop)->Prop}{c:RT}{e:RE}{o:List OT}{t:T}{ts:List T}{q:List T->Prop}(h:g t o λo'=>c o' λb=>sw b (e o' λy=>jd g c e o ts λus=>q (frz y::us)) (jd g c e o ts q)):jd g c e o (t::ts) q:=⟨λy=>jd g c e o ts λus=>q (y::us),_,λ_ h=>h,id,h⟩
section
variable{X:Cx}{a b e:Expr}{ra rb re:RE}{rt:RT}{pos:Pos}
theorem bZ.reps{K:Frag}{F:Hp}{xs:Ζ}{ts:List T}(h:bZ K F xs ts):∀n:Nat,bZ K F (List.replicate n xs).flatten (List.replicate n ts).flatten
 |0=>.nil
 |n+1=>by rw[List.replicate_succ,List.replicate_succ,List.flatten_cons,List.flatten_cons];exact h.app (bZ.reps h n)
theorem cB:GO X (binaryOp .Mult) al7:=λaa s σ H x y v u Q I rx ry h=>by
 obtain⟨S,t,w,R,_,hx,hy,hg,k⟩:=h;cases w with
 |int j=>?_
 |_=>cases t<;>exact hg.elim
 cases hy;cases t<;>try exact hg.elim
 .cases hx;exact acN aa s σ H _ _ v u Q I rx ry ⟨_,_,rfl,rfl,hg.1,k H _ _ hg.2 (.refl _) (NR.fz (.int _))⟩
 .cases hx;obtain⟨c,rfl,h1,h2,q⟩:=hg;exact ac1 aa s σ H _ _ v u Q I rx ry ⟨c,j,rfl,rfl,h1,h2,λz hz=>k H _ _ (q z hz) (.refl _) (NR.fz (.str _))⟩
 .obtain⟨p,xs,rfl,e,r⟩:=hx.lstI;obtain⟨⟨h1,h2,h3⟩,q⟩:=hg;exact afx aa s σ H _ _ v u Q I rx ry ⟨p,j,xs,rfl,rfl,(cU e).2,h1,h2,by rw[r.len];exact h3,λa ha=>k _ _ _ (q _ rfl) (Same.upd ha) (zF (r.reps j.toNat) (Same.upd ha) ha cM)⟩
mutual
def ofD:PyData->T
 |.none=>.non
 |.bool b=>.bl b
 |.int i=>.int i
 |.str s=>.str s
 |.list ds=>.lst (Yd ds)
 |.tuple ds=>.tup (Yd ds)
 |.dict _=>.any
def Yd:List PyData->List T
 |[]=>[]
 |d::ds=>ofD d::Yd ds
end
mutual
theorem Rep.shows{K:Frag}{F:Hp} : ∀{x:V}{t:T},Rep K F x t->∀d,t=ofD d->d.canLay0=true->f9 K F x d
 |_,_,.any v,d,e,s=>by cases d<;>cases e;cases s
 |_,_,.non,d,e,_=>by cases d<;>cases e;exact .non
 |_,_,.bl b,d,e,_=>by cases d<;>cases e;exact .bl _
 |_,_,.int i,d,e,_=>by cases d<;>cases e;exact .int _
 |_,_,.str s,d,e,_=>by cases d<;>cases e;exact .str _
 |_,_,.val v,d,e,_=>by cases d<;>cases e
 |_,_,.tup q h,d,e,s=>by
  cases d<;>cases e;exact .tup q (bZ.shows h _ rfl s)
 |_,_,.lst q h,d,e,s=>by
  cases d<;>cases e;exact .lst q (bZ.shows h _ rfl s)
 |_,_,.scr q h,d,e,_=>by cases d<;>cases e
 |_,_,.dct q l h,d,e,_=>by cases d<;>cases e
 |_,_,.ins q d' l h,d,e,_=>by cases d<;>cases e
theorem bZ.shows{K:Frag}{F:Hp} : ∀{xs:Ζ}{ts:List T},bZ K F xs ts->∀ds,ts=Yd ds->PyData.canLayAll0 ds=true->eG K F xs ds
 |_,_,.nil,ds,e,_=>by cases ds<;>cases e;exact .nil
 |_,_,.cons a b,ds,e,s=>by
  cases ds<;>cases e;obtain⟨s1,s2⟩:=Bool.and_eq_true_iff.mp s;exact .cons (Rep.shows a _ rfl s1) (bZ.shows b _ rfl s2)
end
noncomputable def xr:Bool->Bool->Bool
 |false,b=>b
 |true,b=>!b
noncomputable def eqS:T->T->Option Bool
 |.int i,.int j=>some (decide (i=j))
 |.str i,.str j=>some (decide (i=j))
 |.bl i,.bl j=>some (decide (i=j))
 |.non,.non=>some true
 |.non,.int _=>some false
 |.int _,.non=>some false
 |.non,.str _=>some false
 |.str _,.non=>some false
 |.int _,.str _=>some false
 |.str _,.int _=>some false
 |.tup [.int a,.int b],.tup [.int c,.int d]=>some (decide (a=c)&&decide (b=d))
 |_,_=>none
def gEq(neg:Bool)(t u:T)(q:OT->Prop):Prop:=match eqS t u with
 |some b=>q (.fz (.bl (xr neg b)))
 |none=>∃d e,t=ofD d/\u=ofD e/\SeqAt.shaped d=true/\SeqAt.shaped e=true/\q (.fz (.bl (xr neg (PyData.eqv d e))))
theorem adU(a b c d:Int):PyData.eqv (.tuple [.int a,.int b]) (.tuple [.int c,.int d])=(decide (a=c)&&decide (b=d)):=by
 simp only[PyData.eqv,PyData.eqvAll,Bool.and_true]
 rfl
theorem afs{K:Frag}{F H:Hp}{x y:V}{t u:T}{b:Bool}(S:Same F H)(hx:Rep K F x t)(hy:Rep K F y u)(e:eqS t u=some b):(abg x y=true/\decide (x=y)=b)\/∃d e,f9 K H x d/\f9 K H y e/\SeqAt.shaped d=true/\SeqAt.shaped e=true/\PyData.eqv d e=b:=by
 unfold eqS at e;split at e<;>cases e
 .cases hx;cases hy;exact .inl ⟨rfl,by simp⟩
 .cases hx;cases hy;exact .inl ⟨rfl,by simp⟩
 .cases hx;cases hy;exact .inl ⟨rfl,by simp⟩
 .cases hx;cases hy;exact .inl ⟨rfl,rfl⟩
 .cases hx;cases hy;exact .inl ⟨rfl,rfl⟩
 .cases hx;cases hy;exact .inl ⟨rfl,rfl⟩
 .cases hx;cases hy;exact .inl ⟨rfl,rfl⟩
 .cases hx;cases hy;exact .inl ⟨rfl,rfl⟩
 .cases hx;cases hy;exact .inl ⟨rfl,rfl⟩
 .cases hx;cases hy;exact .inl ⟨rfl,rfl⟩
 .exact .inr ⟨.tuple [.int _,.int _],.tuple [.int _,.int _],(hx.shows _ rfl rfl).same S,(hy.shows _ rfl rfl).same S,rfl,rfl,adU _ _ _ _⟩
theorem ZF(neg:Bool){op:CmpOp}(h1:OpR X (compareOp op) λx y H Q=>abg x y=true/\Q (.bl (xr neg (decide (x=y)))) H)(h2:OpR X (compareOp op) (afG X.K neg)):GO X (compareOp op) (gEq neg):=λaa s σ H x y v u Q I rx ry h=>by
 obtain⟨S,t,w,R,_,hx,hy,hg,k⟩:=h;have xe:∀b:Bool,(if neg then !b else b)=xr neg b:=λb=>by cases neg<;>rfl
 unfold gEq at hg;cases es:eqS t w with
 |some b =>
  rw[es]at hg;rcases afs dW hx hy es with⟨a,c⟩|⟨d,e,s1,s2,s3,s4,c⟩
  .exact h1 aa s σ H x y v u Q I rx ry ⟨a,by rw[c];exact k H _ _ hg (.refl _) (NR.fz (.bl _))⟩
  .exact h2 aa s σ H x y v u Q I rx ry ⟨d,e,s1,s2,s3,s4,by rw[xe,c];exact k H _ _ hg (.refl _) (NR.fz (.bl _))⟩
 |none =>
  rw[es]at hg;obtain⟨d,e,e1,e2,s1,s2,q⟩:=hg;exact h2 aa s σ H x y v u Q I rx ry ⟨d,e,(hx.shows d e1 (Bool.and_eq_true_iff.mp s1).1).same dW,(hy.shows e e2 (Bool.and_eq_true_iff.mp s2).1).same dW,s1,s2,by rw[xe];exact k H _ _ q (.refl _) (NR.fz (.bl _))⟩
theorem go_eq(hu:X.A.units+64<cLine):GO X (compareOp .Eq) (gEq false):=ZF false akV (af7 hu)
theorem sS(hu:X.A.units+64<cLine):GO X (compareOp .NotEq) (gEq true):=ZF true ak7 (aex hu)
def flat:OT->Prop
 |.fz (.int _)=>True
 |.fz (.bl _)=>True
 |.fz (.str _)=>True
 |.fz .non=>True
 |_=>False
def anl(i:Nat)(a:RE):RE:=λo q=>match slot o i with|.und=>False|x=>a (o.set i (.fz (frz x))) λy=>flat y/\q y
def aiP(i:Nat)(a:RT):RT:=λo q=>match slot o i with|.und=>False|x=>a (o.set i (.fz (frz x))) q
theorem Vp{i:Nat}{o:List OT}{P:OT->Prop}(h:match slot o i with|.und=>False|x=>P x):P (slot o i)/\slot o i≠.und:=by
 cases e:slot o i<;>rw[e]at h<;>first|exact h.elim|exact⟨h,λz=>by cases z⟩
theorem Lp(i:Nat)(h:QE X e re):QE X e (anl i re):=PE.imp h λσ H Q hP=>by
 obtain⟨own,o,R,h,hr,k⟩:=hP;obtain⟨hr,ne⟩:=Vp (P:=λx=>re (o.set i (.fz (frz x))) λy=>flat y/\R y) hr;obtain⟨u,e1,s⟩:=h.val rfl ne;obtain⟨ah,h',S⟩:=h.frz (gn rfl ne) e1;refine⟨ah,_,_,h',hr,λH' v x q E n=>k H' v x q.2 E ?_⟩;have fl:=q.1;have rp:=n.rep λb z=>(h'.sole z).ne;cases x with
 |fz t=>cases t<;>first|exact fl.elim|(cases rp;first|exact NR.fz (.int _)|exact NR.fz (.bl _)|exact NR.fz (.str _)|exact NR.fz .non)
 |_=>exact fl.elim
theorem Uy(i:Nat)(h:QT X e rt):QT X e (aiP i rt):=PT.imp h λσ H Q hP=>by
 obtain⟨own,o,R,h,hr,k⟩:=hP;obtain⟨hr,ne⟩:=Vp (P:=λx=>rt (o.set i (.fz (frz x))) R) hr;obtain⟨u,e1,s⟩:=h.val rfl ne;obtain⟨ah,h',S⟩:=h.frz (gn rfl ne) e1;exact⟨ah,_,_,h',hr,k⟩
noncomputable def Xd:T->Option Key
 |.int i=>some (.inl i)
 |.str s=>some (.inr s)
 |_=>none
noncomputable def pO{α:Type} : List Key->List α->Key->Option α
 |k::ks,t::ts,j=>if k=j then some t else pO ks ts j
 |_,_,_=>none
theorem Ov{K:Frag}{F:Hp}{x:V}{t:T}{k:Key}(h:Rep K F x t)(e:Xd t=some k):x=kV k:=by
 cases h<;>cases e<;>rfl
theorem DW{K:Frag}{F:Hp}{k:Key} : ∀{ks:List Key}{xs:Ζ}{ts:List T},bZ K F xs ts->(∀t,pO ks ts k=some t->∃x,Iz (ks.zip xs) k=some x/\Rep K F x t)/\(pO ks ts k=none->Iz (ks.zip xs) k=none)
 |[],_,_,_=>⟨λ_ z=>(nomatch z),λ_=>rfl⟩
 |_::_,_,_,.nil=>⟨λ_ z=>(nomatch z),λ_=>rfl⟩
 |j::ks,_,_,.cons a b=>by
  by_cases h:j=k
  .refine⟨λt z=>?_,λz=>?_⟩
   .unfold pO at z;rw[ZY h]at z;cases z;exact⟨_,PX h,a⟩
   .unfold pO at z;rw[ZY h]at z;cases z
  .obtain⟨i1,i2⟩:=DW (k:=k) (ks:=ks) b;refine⟨λt z=>?_,λz=>?_⟩
   .unfold pO at z;rw[ZZ h]at z;obtain⟨x,e,r⟩:=i1 t z;exact⟨x,(G6 h).trans e,r⟩
   .unfold pO at z;rw[ZZ h]at z;exact(G6 h).trans (i2 z)
def akC:T->T->(OT->Prop)->Prop
 |.dct ks ts,u,q=>∃k t,Xd u=some k/\pO ks ts k=some t/\q (.fz t)
 |_,_,_=>False
theorem Oe(hu:X.A.units+1<cLine)(ha:QE X a ra)(hb:QE X b rb)(hs:aeL b:=by exact λ_ _=>rfl):QE X (.Subscript a b pos) (rOp akC ra rb):=(abw hu ha hb hs).imp λσ H Q ⟨own,o,R,h,hr,k⟩=>tQ.mk h hr λH1 v x q E1 r1=>tQ.mk (h.same E1) q λH2 w y q E2 r2=>by
 have r1:=r1.same (bU E2)
 revert r1 q
 generalize frz x=t;intro q r1;cases t<;>try exact q.elim
 obtain⟨d,xs,rfl,e,l,r⟩:=r1.dctI;obtain⟨j,t,e1,e2,q⟩:=q;obtain⟨z,e3,r3⟩:=(DW r).1 t e2;cases Ov r2 e1;exact⟨d,z,rfl,.inl ⟨_,_,dW.rd e,rfl,e3.symm⟩,k H2 _ _ q (E1.trans E2) (NR.fz r3)⟩
def agq(neg:Bool):T->T->(OT->Prop)->Prop
 |u,.dct ks ts,q=>∃k,Xd u=some k/\q (.fz (.bl (xr neg (pO ks ts k).isSome)))
 |_,_,_=>False
theorem Yw{neg:Bool}{σ:L2.St}{H:Hp}{Q:VK}(h:tQ X.K (rOp (agq neg) ra rb) σ H Q):(tQ X.K ra) σ H λy H1=>(tQ X.K rb) σ H1 λx H2=>∃a o,x=.ref a/\Dz H2 a y o/\Q (.bl (xr neg o.isSome)) H2:=by
 obtain⟨own,o,R,h,hr,k⟩:=h;refine tQ.mk h hr λH1 v x q E1 r1=>tQ.mk (h.same E1) q λH2 w y q E2 r2=>?_;have r1:=r1.same (bU E2)
 revert r2 q
 generalize frz y=t;intro q r2;cases t with
 |dct ks ts =>
  obtain⟨d,xs,rfl,e,l,r⟩:=r2.dctI;obtain⟨j,e1,q⟩:=q;cases Ov r1 e1;refine⟨d,_,rfl,.inl ⟨_,_,dW.rd e,rfl,rfl⟩,?_⟩;have:(Iz (ks.zip xs) j).isSome=(pO ks ts j).isSome:=by
   cases z:pO ks ts j with
   |none=>rw[(DW r).2 z];rfl
   |some t=>obtain⟨x,e,_⟩:=(DW r).1 t z;rw[e];rfl
  rw[this];exact k H2 _ _ q (E1.trans E2) (NR.fz (.bl _))
 |_=>cases frz x<;>exact q.elim
theorem adJ{r:RE}{tt:TE}(i:∀σ H Q,tQ X.K r σ H Q->tt σ H Q){σ:L2.St}{H:Hp}{Q:Bool->Hp->Prop}(h:tQT X.K (rB r) σ H Q):tB tt σ H Q:=by
 obtain⟨own,o,R,h,hr,k⟩:=h;refine i σ H _ (tQ.mk h hr λH1 v x q E1 r1=>?_)
 revert r1 q
 generalize frz x=t;intro q r1;cases r1<;>try exact q.elim
 exact⟨_,rfl,k _ _ q E1⟩
theorem Yg(hu:X.A.units+1<cLine)(ha:QE X a ra)(hb:QE X b rb)(h1:behindInMarks .In b=false:=by rfl):QT X (.Compare a [.In] [b] pos) (rB (rOp (agq false) ra rb)):=(aau (aeO hu ha hb) h1).imp λ_ _ _=>adJ λ_ _ _=>Yw (neg:=false)
theorem WQ(hu:X.A.units+1<cLine)(ha:QE X a ra)(hb:QE X b rb)(h1:behindInMarks .NotIn b=false:=by rfl):QT X (.Compare a [.NotIn] [b] pos) (rB (rOp (agq true) ra rb)):=(aau (Xq hu ha hb) h1).imp λ_ _ _=>adJ λ_ _ _=>Yw (neg:=true)
def ag9:RE:=λ_ q=>q (.d1 [] [])
theorem Ls:QE X (.Dict [] [] pos) ag9:=aaQ.imp λσ H Q ⟨own,o,R,h,hr,k⟩ p hp=>k _ _ _ hr (Same.upd hp) ⟨[p],λa ha=>(YR.mp ha) ▸ hp,p,[],rfl,rfl,cM,rfl,.nil⟩
def anI(i:Nat)(a b:RE):RS:=λE o=>match slot o i with|.d1 ks ts=>a o λy=>b o λk=>∃j,Xd (frz k)=some j/\pO ks ts j=none/\ks.length<sizeLine/\ks.length=ts.length/\E.nx (o.set i (.d1 (ks++[j]) (ts++[frz y])))|_=>False
end
noncomputable def lkF{α:Type} : Φ->List α->Str->Option α
 |k::ks,t::ts,f=>if k=f then some t else lkF ks ts f
 |_,_,_=>none
noncomputable def Hy:Φ->Str->Φ
 |[],f=>[f]
 |k::ks,f=>if k=f then k::ks else k::Hy ks f
noncomputable def yI{α:Type} : Φ->List α->Str->α->List α
 |k::ks,t::ts,f,v=>if k=f then v::ts else t::yI ks ts f v
 |_,ts,_,v=>ts++[v]
theorem aa0{K:Frag}{F:Hp}{f:Str} : ∀{ks:Φ}{xs:Ζ}{ts:List T},bZ K F xs ts->(∀t,lkF ks ts f=some t->∃x,(ks.zip xs).lookup f=some x/\Rep K F x t)/\(lkF ks ts f=none->(ks.zip xs).lookup f=none)
 |[],_,_,_=>⟨λ_ z=>(nomatch z),λ_=>rfl⟩
 |_::_,_,_,.nil=>⟨λ_ z=>(nomatch z),λ_=>rfl⟩
 |j::ks,_,_,.cons a b=>by
  obtain⟨i1,i2⟩:=aa0 (f:=f) (ks:=ks) b;by_cases h:j=f
  .refine⟨λt z=>?_,λz=>?_⟩
   .unfold lkF at z;rw[ZY h]at z;cases z;exact⟨_,by rw[List.zip_cons_cons,List.lookup_cons,h,beq_self_eq_true],a⟩
   .unfold lkF at z;rw[ZY h]at z;cases z
  .have e:∀x(r:List (Str×V)),((j,x)::r).lookup f=r.lookup f:=λx r=>by rw[List.lookup_cons,beq_false_of_ne (Ne.symm h)]
   refine⟨λt z=>?_,λz=>?_⟩
   .unfold lkF at z;rw[ZZ h]at z;obtain⟨x,e1,r⟩:=i1 t z;exact⟨x,(e _ _).trans e1,r⟩
   .unfold lkF at z;rw[ZZ h]at z;exact(e _ _).trans (i2 z)
theorem RJ{f:Str}{v:V} : ∀{ks:Φ}{xs:Ζ},ks.length=xs.length->uU f v (ks.zip xs)=(Hy ks f).zip (yI ks xs f v)/\(Hy ks f).length=(yI ks xs f v).length
 |[],[],_=>⟨rfl,rfl⟩
 |k::ks,x::xs,l=>by
  obtain⟨i1,i2⟩:=RJ (f:=f) (v:=v) (ks:=ks) (xs:=xs) (Nat.succ.inj l);show(if k=f then(k,v)::ks.zip xs else(k,x)::uU f v (ks.zip xs))=_/\_;unfold Hy yI;by_cases h:k=f
  .rw[ZY h,ZY h,ZY h];exact⟨rfl,l⟩
  .rw[ZZ h,ZZ h,ZZ h,i1];exact⟨rfl,ZH (· + 1) i2⟩
 |[],_::_,l=>by cases l
 |_::_,[],l=>by cases l
theorem bZ.put{K:Frag}{F:Hp}{f:Str}{v:V}{t:T}(r:Rep K F v t):∀{ks:Φ}{xs:Ζ}{ts:List T},bZ K F xs ts->bZ K F (yI ks xs f v) (yI ks ts f t)
 |[],_,_,h=>h.app (.cons r .nil)
 |_::_,_,_,.nil=>.cons r .nil
 |k::ks,_,_,.cons a b=>by
  unfold yI;by_cases h:k=f
  .rw[ZY h,ZY h];exact .cons r b
  .rw[ZZ h,ZZ h];exact .cons a (bZ.put r b)
abbrev SI:=Addr->Φ->List T->List T->(Φ->List T->Prop)->Prop
def Slf(a dx b:Addr):Prop:=b=a\/b=dx
def spI(K:Frag)(S:SI):Sp:=λvs H Q _=>∃a dx C ks xs ts us as R,vs=.ref a::us/\H a=some (.ins C dx (ks.zip xs))/\H dx=some (.own a)/\ks.length=xs.length/\bZ K (hd (Slf a dx) H) xs ts/\bZ K (hd (Slf a dx) H) us as/\S C ks ts as R /\
 ∀H' d6 eP eJ,R d6 eJ->Same (hd (Slf a dx) H) (hd (Slf a dx) H')->H' a=some (.ins C dx (d6.zip eP))->H' dx=some (.own a)->d6.length=eP.length->bZ K (hd (Slf a dx) H') eP eJ->Q .non H'
section
variable{P:Program}{w:World}{K:Frag}{mg:Str->Ω}{base:Heap}
def startI(n:Nat)(a dx C:Addr)(ks:Φ)(ts as:List T):List OT:=.ob a dx C ks ts::start' (n-1) as
noncomputable def ahe(a dx:Addr):Nat->Ψ
 |0=>[a,dx]
 |_+1=>[]
theorem Wg(a dx:Addr):Ow (ahe a dx)=Slf a dx:=funext λb=>propext ⟨(λh=>by
  obtain⟨i,z⟩:=h;cases i with
  |zero =>
   rcases YU.mp z with z|z
   .exact .inl z
   .exact .inr (YR.mp z)
  |succ i=>cases z),λz=>⟨0,by show b∈[a,dx];rcases z with rfl|rfl<;>simp⟩⟩
theorem SR.startI{H:Hp}{a dx C:Addr}{ks:Φ}{xs:Ζ}{ts as:List T}{us:Ζ}(ha:H a=some (.ins C dx (ks.zip xs)))(bv:H dx=some (.own a))(l:ks.length=xs.length)(r:bZ K (hd (Slf a dx) H) xs ts)(r2:bZ K (hd (Slf a dx) H) us as)(N:Φ)(hN:us.length+1<=N.length) :
  SR K (ahe a dx) H (L2.start N (.ref a::us)) (L2.startI N.length a dx C ks ts as):=by
 have eO:=Wg a dx;refine⟨?_,λi x e=>?_,λi hi b hb=>?_,λi j b e1 e2=>?_⟩
 .unfold L2.startI start' L2.start;have:=r2.len;simp only[List.length_cons,aA,ak,aN];lia
 .rw[eO];unfold L2.startI at e;cases i with
  |zero =>
   cases e;exact⟨xs,rfl,rfl,ha,bv,l,r⟩
  |succ i =>
   rw[List.getElem?_cons_succ]at e;show Slo K _ _ _ [] x;unfold start' at e;unfold L2.start;rw[List.map_cons,List.cons_append,List.getElem?_cons_succ];by_cases hi:i<as.length
   .rw[aF (by simpa using hi),aq,aj hi]at e;cases e;obtain⟨v,e1,r1⟩:=r2.at_ (aj hi);rw[aF (by rw[ak,r2.len];exact hi),aq,e1];exact⟨rfl,v,rfl,r1⟩
   .rw[aD (by simpa using hi),ak,X0]at e;by_cases hj:i-as.length<N.length-1-as.length
    .rw[ZY hj]at e;cases e;rfl
    .rw[ZZ hj]at e;cases e
 .unfold L2.startI at hi;cases i with
  |zero=>cases hi
  |succ i=>cases hb
 .cases i with
  |zero =>
   cases j with
   |zero=>rfl
   |succ j=>cases e2
  |succ i=>cases e1
theorem Fun.okI{x ai:Str}{st:Stmt}{f:Addr}{fd:FuncData}{N ps:Φ}{k:Nat}{S:SI}(F:Fun K x ai st f fd)(sc:bL N ps (bH st))(len:∀C ks ts as R,S C ks ts as R->as.length+1=ps.length)(hn:ps.length<=N.length)
 (cf:∀(ag:Value)(A:Around)(outer:List Env)(s:Shared)(H:Hp)(E:XK),fD k (A.deeper (envOfC ai (bH st) s.heap.objs.size f ag)) ->
   ∃r,QSs (Ob CX0 P w K mg base N ai (bH st) f ag A outer s H E).nox (fL st) r/\∀a dx C ks ts as R,S C ks ts as R->r { nx:=λo=>∃d6 eJ,slot o 0=.ob a dx C d6 eJ/\R d6 eJ,rt:=λ_=>False } (startI N.length a dx C ks ts as)):cj P w K mg base CX0 (k+1) f fd ps (spI K S):=by
 refine F.ok sc (λvs H Q E h=>?_) λag A outer s H vs Q E hr h=>?_
 .obtain⟨a,dx,C,ks,xs,ts,us,as,R,rfl,_,_,_,_,r2,hS,_⟩:=h;rw[List.length_cons,r2.len];exact len _ _ _ _ _ hS
 .obtain⟨a,dx,C,ks,xs,ts,us,as,R,rfl,ha,bv,l,r,r2,hS,q⟩:=h;obtain⟨rd,h1,h2⟩:=cf ag A outer s H E hr;have s0:=SR.startI ha bv l r r2 N (by rw[r2.len,len _ _ _ _ _ hS];exact hn);have eO:=Wg a dx;refine⟨_,h1,_,_,_,s0,h2 a dx C ks ts as R hS,⟨λown H' σ o rx E h=>?_,λ_ _ _ _ _ z=>z.elim,λ_ _ _ _ z=>z.elim,λ_ _ _ _ z=>z.elim⟩⟩;obtain⟨d6,eJ,es,rx⟩:=rx;rw[eO]at E;obtain⟨u,_,eP,e1,e2,e3,e4,e5,e6⟩:=h.val es (by intro z;cases z);have sub:Same (hd (Ow own) H') (hd (Slf a dx) H'):=h_ (λb z=>.inl ⟨0,by rw[e2];rcases z with rfl|rfl<;>simp⟩) λ_ _ z=>z;exact q H' d6 eP eJ rx (E.trans sub) e3 e4 e5 (e6.same sub)
end
section
variable{X:Cx}{e:Expr}{es:List Expr}{re:RE}{r:RA}{f:Str}{pos am p:Pos}{Fm:Addr->Prop}
def ad4(Fm:Addr->Prop)(i:Nat)(f:Str):RE:=λo q=>match slot o i with|.ob _ _ C ks ts=>Fm C/\∃t,lkF ks ts f=some t/\q (.fz t)|_=>False
theorem adq(i:Nat){x:Str}(c:∀C,Fm C->Cls X.K C/\cA X.K C f)(hN:X.N[i]?=some x:=by rfl)(hv:q_ X.env.scope x=true:=by rfl)(bv:(x==("__debug__":Str))=false:=by decide)(bg:(x==("__classdict__":Str))=false:=by decide)(hb:attributeBase (.Name x p) f X.env (eval (.Name x p) X.env)=eval (.Name x p) X.env:=by rfl):QE X (.Attribute (.Name x p) f pos) (ad4 Fm i f):=(ZR (pv i hN hv bv bg) hb).imp λσ H Q hP=>by
 obtain⟨own,o,R,h,hr,k⟩:=hP;unfold ad4 at hr;cases es:slot o i with
 |ob a dx C ks ts =>
  rw[es]at hr;obtain⟨u,e1,xs,e2,e3,e4,e5,l,r⟩:=h.val es (by intro z;cases z);cases e2;obtain⟨hf,t,e6,q⟩:=hr;obtain⟨v,e7,r7⟩:=(aa0 r).1 t e6;exact⟨_,e1,a,C,dx,_,v,rfl,e4,(c C hf).1,(c C hf).2,e7,k H _ _ q (.refl _) (NR.fz r7)⟩
 |_=>rw[es]at hr;exact hr.elim
def adP(Fm:Addr->Prop)(i:Nat)(f:Str)(a:RE):RS:=λE o=>match slot o i with|.ob b dx C ks ts=>a o λy=>(Fm C/\ks.length<1000)/\E.nx (o.set i (.ob b dx C (Hy ks f) (yI ks ts f (frz y))))|_=>False
theorem qP(i:Nat){x:Str}{az:Pos}(c:∀C,Fm C->Cls X.K C/\cA X.K C f)(he:QE X e re)(hN:X.N[i]?=some x:=by rfl)(hv:q_ X.env.scope x=true:=by rfl)(bv:(x==("__debug__":Str))=false:=by decide)(bg:(x==("__classdict__":Str))=false:=by decide)(hs:swapsWith e (some (.Attribute (.Name x p) f az)) pos.line X.env=pure false:=by rfl):QS X (.Assign [.Attribute (.Name x p) f az] e pos) (adP Fm i f re):=(aeJ (pv i hN hv bv bg) he hs).imp λD σ H hP=>by
 obtain⟨own,o,E,h,hr,L⟩:=hP;unfold adP at hr;cases es:slot o i with
 |ob a dx C ks ts =>
  rw[es]at hr;obtain⟨u,e1,xs,e2,e3,e4,e5,l,r⟩:=h.val es (by intro z;cases z);cases e2;refine tQ.mk h hr λH1 v y q E1 r1=>⟨_,e1,a,C,dx,_,rfl,E1 _ _ e4,(c C q.1.1).1,(c C q.1.1).2,by rw[VX,<- l,UV];exact q.1.2,?_⟩;obtain⟨pz,pl⟩:=RJ (f:=f) (v:=v) l;rw[pz];have gN:dx≠a:=ahx e5 e4 (by intro z;cases z);obtain⟨h',S⟩:=(h.same E1).chg (gn es (by intro z;cases z)) (y:=.ob a dx C (Hy ks f) (yI ks ts f (frz y))) (H':=upd H1 a (.ins C dx ((Hy ks f).zip (yI ks xs f v)))) (λb u hb e=>(cF λz=>hb (by rw[e3,z];simp)).trans e) (by
   rw[e1,Dj ⟨i,by rw[e3];simp⟩];exact⟨_,rfl,e3,cM,(cF gN).trans (E1 _ _ e5),pl,bZ.put r1 (r.same (bU E1))⟩)
  exact L.nx own _ σ _ q.2 ((bU E1).trans S) h'
 |_=>rw[es]at hr;exact hr.elim
def alu(Fm:Addr->Prop)(f:Str)(a:RE):RE:=λo q=>a o λx=>match frz x with|.ins C ks ts=>Fm C/\∃t,lkF ks ts f=some t/\q (.fz t)|_=>False
theorem pI(c:∀C,Fm C->Cls X.K C/\cA X.K C f)(he:QE X e re)(hb:attributeBase e f X.env (eval e X.env)=eval e X.env:=by rfl):QE X (.Attribute e f pos) (alu Fm f re):=(ZR he hb).imp λσ H Q ⟨own,o,R,h,hr,k⟩=>tQ.mk h hr λH1 v x q E1 r1=>by
 revert r1 q
 generalize frz x=t;intro q r1;cases t<;>try exact q.elim
 obtain⟨a,dx,xs,rfl,e,d,l,r⟩:=r1.insI;obtain⟨hf,t,e6,q⟩:=q;obtain⟨v,e7,r7⟩:=(aa0 r).1 t e6;exact⟨a,_,dx,_,v,rfl,(cU e).2,(c _ hf).1,(c _ hf).2,e7,k H1 _ _ q E1 (NR.fz r7)⟩
abbrev OkM(X:Cx)(k:Nat)(fa:Addr)(ps:Φ)(S:ST):Prop:=OkI X.prog X.w X.K X.mg X.base CX0 k fa ps (spT X.K S)
theorem OkI.hid{P:Program}{w:World}{K:Frag}{mg:Str->Ω}{base:Heap}{k:Nat}{fa:Addr}{ps:Φ}{sp:Sp}(G:OkI P w K mg base CX0 k fa ps sp):OkI P w K mg base CX0 k fa ps (spH sp):=by obtain⟨fd,F,b⟩:=G;exact⟨fd,F.hid,b⟩
theorem Px{S:ST}{H1:Hp}{σ:L2.St}{own:Nat->Ψ}{o:List OT}{R:OT->Prop}{Q:VK}{vs:Ζ}{ts:List T}{E:XK}(h1:SR X.K own H1 σ o)(r1:bZ X.K (hd (Ow own) H1) vs ts)(q:S ts R)(k:∀H' v x,R x->Same H1 H'->NR X.K (Ow own) H1 H' v x->Q v H'):spH (spT X.K S) vs H1 Q E:=by
 refine⟨Ow own,h1.hid,ts,R,r1,q,λG v x rx E n gone=>?_⟩;have EH:Same H1 (mrg (Ow own) H1 G):=λb u e=>by
  by_cases z:Ow own b
  .rw[vM z];exact e
  .rw[lN z];exact E b u ((cR z).trans e)
 have EG:Same G (mrg (Ow own) H1 G):=λb u e=>by rw[lN λz=>by rw[gone b z]at e;cases e];exact e
 refine k _ v x rx EH ?_;obtain⟨B,nb,s⟩:=n;have out:∀a∈B,¬Ow own a:=λa ha z=>(s.sole ha).ne (gone a z);refine⟨B,λa ha=>by have:=nb a ha;rwa[cR (out a ha)]at this,s.same (h_ (λb z=>?_) EG) EG⟩;rcases z with z|z
 .exact .inr (gone b z)
 .exact .inl (.inr z)
def adT(C:Addr)(KS:Φ)(S:ST)(a:RE)(r:RA):RE:=λo q=>a o λx=>match frz x with|.ins C' ks ts=>(C'=C/\ks=KS)/\r o λas=>S (.ins C' ks ts::as) q|_=>False
theorem Nf{f:Str} : ∀{KS:Φ}{xs:Ζ},f∉KS->(KS.zip xs).lookup f=none
 |[],_,_=>rfl
 |_::_,[],_=>rfl
 |k::KS,x::xs,h=>by
  rw[List.zip_cons_cons,List.lookup_cons,beq_false_of_ne λ(z:f=k)=>h (by rw[z];exact aO ..)];exact Nf λz=>h (aJ _ z)
theorem Br{o:Expr}{ro:RE}{k:Nat}{fa C:Addr}{ps KS:Φ}{S:ST}{pl:Sem Bool}(he:QE X o ro)(c:Cls X.K C)(hm:Meth X.K C f fa)(G:OkM X k fa ps S)(hr:fD k X.A)(ha:QA X (e::es) r)(hk:f∉KS:=by decide +kernel)
 (b9:starEach (e::es) X.env=(false,eval e X.env)::starEach es X.env:=by rfl)(bi:(backTo pos (starEach es X.env)).any (·.1)=false:=by rfl)
 (ht:eval (.Call (.Attribute o f am) (e::es) [] pos) X.env=(do
   let ov <- eval o X.env
   standAt am.atName
   let(f,first) <- holding [ov] (getMethod ov f pl)
   callWith pos f first (backTo pos (starEach (e::es) X.env)) (backToKw pos (keywordEach [] X.env))):=by rfl) :
  QE X (.Call (.Attribute o f am) (e::es) [] pos) (adT C KS S ro r):=(Zh (pl:=pl) he c hm (OkI.hid G) hr ha b9 bi ht).imp λσ H Q ⟨own,o,R,h,hr,k⟩=>tQ.mk h hr λH1 v x q E1 r1=>by
 revert r1 q
 generalize frz x=t;intro q r1;cases t<;>try exact q.elim
 obtain⟨a,dx,xs,rfl,e,d,l,r⟩:=r1.insI;obtain⟨⟨rfl,rfl⟩,q⟩:=q;refine⟨a,dx,_,rfl,(cU e).2,Nf hk,tQA.mk (h.same E1) q λH2 vs as q _ E2 r2=>?_⟩;exact Px ((h.same E1).same E2) (.cons (r1.same (bU E2)) r2) q λH' v x rx E n=>k H' v x rx (E1.trans (E2.trans E)) (n.back (E1.trans E2))
theorem Cg{o:Expr}{ro:RE}{k:Nat}{fa C:Addr}{ps KS:Φ}{S:ST}{pl:Sem Bool}(he:QE X o ro)(c:Cls X.K C)(hm:Meth X.K C f fa)(G:OkM X k fa ps S)(hr:fD k X.A)(hk:f∉KS:=by decide +kernel)
 (ht:eval (.Call (.Attribute o f am) [] [] pos) X.env=(do
   let ov <- eval o X.env
   standAt am.atName
   let(f,first) <- holding [ov] (getMethod ov f pl)
   callWith pos f first (backTo pos (starEach [] X.env)) (backToKw pos (keywordEach [] X.env))):=by rfl) :
  QE X (.Call (.Attribute o f am) [] [] pos) (adT C KS S ro aeN):=(Wu (pl:=pl) he c hm (OkI.hid G) hr ht).imp λσ H Q ⟨own,o,R,h,hr,k⟩=>tQ.mk h hr λH1 v x q E1 r1=>by
 revert r1 q
 generalize frz x=t;intro q r1;cases t<;>try exact q.elim
 obtain⟨a,dx,xs,rfl,e,d,l,r⟩:=r1.insI;obtain⟨⟨rfl,rfl⟩,q⟩:=q;refine⟨a,dx,_,rfl,(cU e).2,Nf hk,?_⟩;exact Px (E:=E0) (h.same E1) (.cons r1 .nil) q λH' v x rx E n=>k H' v x rx (E1.trans E) (n.back E1)
def aj1(C:Addr)(S:SI)(r:RA):RE:=λo q=>r o λas=>S C [] [] as λks ts=>q (.fz (.ins C ks ts))
theorem Ax{x:Str}{k:Nat}{fa C:Addr}{ps:Φ}{S:SI}(M:Mk X.K C fa)(G:OkI X.prog X.w X.K X.mg X.base CX0 k fa ps (spI X.K S))(hr:fD (k+1) X.A)(hg:Gl X x)(hm:X.mg x=some (.ref C))(ha:QA X (e::es) r)(ce:(x==("__debug__":Str))=false:=by decide)
 (he:starEach (e::es) X.env=(false,eval e X.env)::starEach es X.env:=by rfl)(bi:(backTo pos (starEach es X.env)).any (·.1)=false:=by rfl):QE X (.Call (.Name x p) (e::es) [] pos) (aj1 C S r):=(Yu M (OkI.hid G) hr hg hm ha ce he bi).imp λσ H Q ⟨own,o,R,h,hr,k⟩=>tQA.mk h hr λH1 vs as q _ E1 r1 a dx na nd ne=>by
 have h1:=h.same E1;have E2:Same H1 (upd (upd H1 dx (.own a)) a (.ins C dx [])):=(Same.upd nd).trans (Same.upd ((cF (Ne.symm ne)).trans na));have h2:=h1.same E2;have oa:¬Ow own a:=λz=>(h1.sole z).ne na;have od:¬Ow own dx:=λz=>(h1.sole z).ne nd;refine⟨Ow own,h2.hid,a,dx,C,[],[],[],vs,as,_,rfl,(cR oa).trans cM,(cR od).trans ((cF ne).trans cM),rfl,.nil,r1.same (λb u e=>?_),q,λG d6 eP eJ rx E ea ed l r gone=>⟨rfl,?_⟩⟩
 .obtain⟨n,e⟩:=cU e;have n2:¬Slf a dx b:=λz=>by rcases z with rfl|rfl<;>rw[e]at *<;>contradiction
  rw[cR n2,cR n];exact E2 _ _ e
 .have EG:Same G (mrg (Ow own) (upd (upd H1 dx (.own a)) a (.ins C dx [])) G):=λb u e=>by rw[lN λz=>by rw[gone b z]at e;cases e];exact e
  refine k _ _ _ rx (E1.trans λb u e=>?_) (NR.fz (.ins (dx:=dx) (ks:=d6) (xs:=eP) ?_ ?_ l (r.same λb u e=>?_)))
  .by_cases z:Ow own b
   .rw[vM z];exact E2 _ _ e
   .have n2:¬Slf a dx b:=λz=>by rcases z with rfl|rfl<;>rw[e]at *<;>contradiction
    exact EG _ _ (cU (E b u ((cR n2).trans ((cR z).trans (E2 _ _ e))))).2
  .rw[cR oa];exact EG _ _ ea
  .rw[cR od];exact EG _ _ ed
  .have e':=(cU e).2;rw[cR λz=>by rw[gone b z]at e';cases e'];exact EG _ _ e'
def adX(i:Nat)(S:SI)(r:RA):RS:=λE o=>match slot o i with|.ob a dx C ks ts=>r o λas=>S C ks ts as λd6 eJ=>E.nx (o.set i (.ob a dx C d6 eJ))|_=>False
theorem Gi(i:Nat){x y m:Str}{p2 af:Pos}{k:Nat}{fa B:Addr}{ps:Φ}{S:SI}{pl:Sem Bool}(c:Eh X.K B m fa)(G:OkI X.prog X.w X.K X.mg X.base CX0 k fa ps (spI X.K S))(hr:fD k X.A)(hg:Gl X x)(hm:X.mg x=some (.ref B))(ha:QA X es r)
 (hN:X.N[i]?=some y:=by rfl)(hv:q_ X.env.scope y=true:=by rfl)(bv:(y==("__debug__":Str))=false:=by decide)(bg:(y==("__classdict__":Str))=false:=by decide)(ce:(x==("__debug__":Str))=false:=by decide)
 (b9:starEach (.Name y p2::es) X.env=(false,eval (.Name y p2) X.env)::starEach es X.env:=by rfl)(bi:(backTo af (starEach es X.env)).any (·.1)=false:=by rfl)
 (ht:eval (.Call (.Attribute (.Name x p) m am) (.Name y p2::es) [] af) X.env=(do
   let ov <- eval (.Name x p) X.env
   standAt am.atName
   let(f,first) <- holding [ov] (getMethod ov m pl)
   callWith af f first (backTo af (starEach (.Name y p2::es) X.env)) (backToKw af (keywordEach [] X.env))):=by rfl)
 (hs:swapsWith (.Call (.Attribute (.Name x p) m am) (.Name y p2::es) [] af) none pos.line X.env=pure false:=by rfl) :
  QS X (.Expr (.Call (.Attribute (.Name x p) m am) (.Name y p2::es) [] af) pos) (adX i S r):=(xU (Zb (pl:=pl) c (OkI.hid G) hr hg hm (oJ (pv i hN hv bv bg) ha b9) ce b9 bi ht) hs).imp λD σ H hP=>by
 obtain⟨own,o,E,h,hr,L⟩:=hP;unfold adX at hr;cases es:slot o i with
 |ob a dx C ks ts =>
  rw[es]at hr;obtain⟨u,e1,xs,e2,e3,e4,e5,l,r⟩:=h.val es (by intro z;cases z);cases e2;refine⟨_,e1,tQA.mk h hr λH1 vs as q _ E1 r1=>?_⟩;have h1:=h.same E1;have sub:∀b,Slf a dx b->b∈own i:=λb z=>by rw[e3];rcases z with rfl|rfl<;>simp
  have bus:∀b,b∈own i->Slf a dx b:=λb z=>by
   rw[e3]at z;rcases YU.mp z with z|z
   .exact .inl z
   .exact .inr (YR.mp z)
  have hid:Hid H1 (λb=>Ow own b/\¬Slf a dx b):=⟨λb z=>h1.sole z.1,λb C d f ⟨⟨j,z⟩,n⟩ e=>⟨⟨j,(h1.mate z).1 C d f e⟩,λy=>n (bus b ((h1.dis j i d ((h1.mate z).1 C d f e) (sub d y)) ▸ z))⟩,λb x ⟨⟨j,z⟩,n⟩ e=>⟨⟨j,(h1.mate z).2 x e⟩,λy=>n (bus b ((h1.dis j i x ((h1.mate z).2 x e) (sub x y)) ▸ z))⟩⟩;have eqF:∀H':Hp,hd (Slf a dx) (hd (λb=>Ow own b/\¬Slf a dx b) H')=hd (Ow own) H':=λH'=>funext λb=>by
   by_cases z:Slf a dx b
   .rw[qm z,qm ⟨i,sub b z⟩]
   .rw[cR z];by_cases y:Ow own b
    .rw[qm (⟨y,z⟩ : Ow own b/\¬Slf a dx b),qm y]
    .rw[cR (λw=>y w.1),cR y]
  have na:¬(Ow own a/\¬Slf a dx a):=λz=>z.2 (.inl rfl);have nd:¬(Ow own dx/\¬Slf a dx dx):=λz=>z.2 (.inr rfl);refine⟨_,hid,a,dx,C,ks,xs,ts,vs,as,_,rfl,(cR na).trans (E1 _ _ e4),(cR nd).trans (E1 _ _ e5),l,by rw[eqF];exact r.same (bU E1),by rw[eqF];exact r1,q,λG d6 eP eJ rx EE ea ed l' r' gone=>?_⟩;rw[eqF]at EE;have de:∀{b:Addr}{u:HO},G b=some u->mrg (λb=>Ow own b/\¬Slf a dx b) H1 G b=some u:=λ{b u}e=>(lN λz=>by rw[gone b z]at e;cases e).trans e;obtain⟨h',S'⟩:=h1.chg (gn es (by intro z;cases z)) (y:=.ob a dx C d6 eJ) (H':=mrg (λb=>Ow own b/\¬Slf a dx b) H1 G) (λb u hb e=>by
   by_cases z:Ow own b
   .rw[vM ⟨z,λy=>hb (sub b y)⟩];exact e
   .exact de (cU (EE b u ((cR z).trans e))).2) (by
   rw[e1];refine⟨eP,rfl,e3,de ea,de ed,l',r'.same λb u e=>?_⟩;obtain⟨n1,e⟩:=cU e;rw[cR λz=>by rw[gone b ⟨z,n1⟩]at e;cases e];exact de e)
  exact L.nx own _ σ _ rx ((bU E1).trans S') h'
 |_=>rw[es]at hr;exact hr.elim
end
section
variable{X:Cx}{a b c e:Expr}{ra rb rc re:RE}{pos p:Pos}
theorem lW{x:Str}{A:Addr}{i j:Int}{pos:Pos}(hg:Gl X x)(hm:X.mg x=some (.ref A))(kt:∀H,SqT X.K H A [.int i,.int j])(hd:(x==("__debug__":Str))=false:=by decide):QE X (.Name x pos) (rC (.tup [.int i,.int j])):=qC (Y_ hg hm hd) λF=>.tup (kt F) (.cons (.int _) (.cons (.int _) .nil))
theorem QE.any{Fm:Addr->Prop}{r:Addr->RE}(h:∀C,Fm C->QE X e (r C)):QE X e (λo q=>∃C,Fm C/\r C o q):=λaa s σ H Q I ⟨own,o,R,hs,⟨C,hC,hr⟩,k⟩=>h C hC aa s σ H Q I ⟨own,o,R,hs,hr,k⟩
theorem qK{tg iter a9:Expr}{aI:List Expr}{ri:RI}{g:T->List OT->(List OT->Prop)->Prop}{rc:RT}{scope:Scope}{i0:Nat}{y0:Str}{py b8:Pos}(sc:Scope)(N N' xs:Φ)(hi:QI X tg iter ri)(hg:∀{C s₀ H₀ ex pn},QG (X.compG N' scope xs C s₀ H₀ ex pn) xs.length tg g)(ht:∀{C s₀ H₀ ex pn},QTs (X.compG N' scope xs C s₀ H₀ ex pn) aI rc)(he:∀{C s₀ H₀ ex pn},QE (X.compG N' scope xs C s₀ H₀ ex pn) a9 re)(fy:PG X (.Name y0 py) (yS i0))
 (cy:X.env.scope=sc:=by rfl)(c5:X.N=N:=by rfl)(hc:X.calm=true:=by rfl)(hk:scope.kind=.function:=by rfl)(h:CK sc scope N N' xs:=by decide +kernel)(fr:swapsWith (.ListComp a9 [⟨tg,iter,aI,0⟩] scope pos) (some (.Name y0 py)) b8.line X.env=pure true:=by rfl)(hs:∀z,foldedSetIterable iter X.env z=pure z:=by intro _;rfl) :
  QS X (.Assign [.Name y0 py] (.ListComp a9 [⟨tg,iter,aI,0⟩] scope pos) b8) (agR i0 (W7 ri xs.length g rc re)):=(Yp (gt:=tQG X.K xs.length g) (tc:=tQT X.K rc) (te:=tQ X.K re) sc N N' xs hi hg ht he fy cy c5 hc hk h fr hs).imp λD σ H ⟨own,o,E,h,hr,L⟩=>Ig ⟨own,o,_,h,hr,λH' v y q S n=>by
 obtain⟨ah,h',S'⟩:=h.putA S (n.frz λb z=>(h.sole z).ne) i0;exact L.nx ah H' _ _ q S' h'⟩
def alT(i j:Nat)(r:RA):RS:=λE o=>r o λts=>match ts with|[t,u]=>E.nx ((o.set i (.fz t)).set j (.fz u))|_=>False
theorem agp(i j:Nat){x y:Str}{r:RA}{px py pt:Pos}{kt k2 pt2}(hc:X.calm=true)(hN:X.N.Nodup)(hZ:i≠j)(ha:QA X [a,b] r)(hi:X.N[i]?=some x:=by rfl)(hj:X.N[j]?=some y:=by rfl)
 (hx:X.env.scope.names.lookup x=some .local:=by rfl)(hy:X.env.scope.names.lookup y=some .local:=by rfl)
 (hw:swappedStores [.Tuple [.Name x px,.Name y py] kt pt] (.Tuple [a,b] k2 pt2) X.env=pure (some [x,y]):=by rfl)
 (hs:swapsWithSole [.Tuple [.Name x px,.Name y py] kt pt] (.Tuple [a,b] k2 pt2) pos.line X.env=pure false:=by rfl) :
  QS X (.Assign [.Tuple [.Name x px,.Name y py] kt pt] (.Tuple [a,b] k2 pt2) pos) (alT i j r):=(ad9 hc hN hi hj hZ hx hy ha hw hs).imp λD σ H ⟨own,o,E,h,hr,L⟩=>⟨own,o,_,h,hr,λH1 vs ts q _ E1 r1=>by
 match ts,q with
 |[t,u],q =>
  obtain⟨v,w,rfl,rv,ky⟩:=r1.two;refine⟨v,w,rfl,?_⟩;obtain⟨ah,h',go⟩:=(h.same E1).setF rv (X1 i);obtain⟨bX,h2,S2⟩:=h'.putA (.refl _) (NR.fz (ky.same go.same)) j;exact L.nx bX H1 _ _ q ((bU E1).trans (go.same.trans S2)) h2⟩
theorem ix2{α β:Type}{xs:List α}{ys:List β}{j:Int}{y:β}(l:xs.length=ys.length)(e:ixT ys j=some y):∃n x,ixN ys.length j=some n/\ys[n]?=some y/\xs[n]?=some x/\atI xs j=some x:=by
 rw[Tv]at e;unfold atI at e ⊢;rw[l];cases z:ixN ys.length j with
 |none=>rw[z]at e;cases e
 |some n =>
  rw[z]at e;have hn:n<xs.length:=l ▸ (ao.mp e).1;exact⟨n,xs[n],rfl,e,aj hn,aj hn⟩
theorem Iu{α:Type} : ∀{l:List α},l.Nodup->∀{i j:Nat}{x:α},l[i]?=some x->l[j]?=some x->i=j
 |[],_,_,_,_,e,_=>by cases e
 |y::l,nd,i,j,x,e1,e2=>by
  obtain⟨n1,n2⟩:=List.nodup_cons.mp nd;cases i with
  |zero =>
   cases j with
   |zero=>rfl
   |succ j=>cases e1;exact absurd (aC (by simpa using e2)) n1
  |succ i =>
   cases j with
   |zero=>cases e2;exact absurd (aC (by simpa using e1)) n1
   |succ j=>exact ZH (· + 1) (Iu n2 (by simpa using e1) (by simpa using e2))
theorem SR.l2{K:Frag}{own:Nat->Ψ}{H:Hp}{σ:L2.St}{o:List OT}(h:SR K own H σ o){i:Nat}{aw:List (List T)}(e:slot o i=.l2 aw):∃l bs,σ[i]?=some (some (.ref l))/\own i=l::bs/\(l::bs).Nodup/\H l=some (.lst (bs.map V.ref))/\bs.length=aw.length/\∀(i:Nat)b ts,bs[i]?=some b->aw[i]?=some ts->∃xs,H b=some (.lst xs)/\bZ K (hd (Ow own) H) xs ts:=by
 obtain⟨u,e1,l,bs,e2,e3,nd,e4,ln,r⟩:=h.val e (by intro z;cases z);cases e2;exact⟨l,bs,e1,e3,nd,e4,ln,r⟩
theorem SR.chg2{K:Frag}{own:Nat->Ψ}{H:Hp}{σ:L2.St}{o:List OT}(h:SR K own H σ o){i n:Nat}{aw:List (List T)}(e:slot o i=.l2 aw){l b:Addr}{bs:Ψ}{ys:Ζ}{us:List T}(eσ:σ[i]?=some (some (.ref l)))(eo:own i=l::bs)(nd:(l::bs).Nodup)(e4:H l=some (.lst (bs.map V.ref)))(ln:bs.length=aw.length)(r:∀(i:Nat)b ts,bs[i]?=some b->aw[i]?=some ts->∃xs,H b=some (.lst xs)/\bZ K (hd (Ow own) H) xs ts)(eb:bs[n]?=some b)(ry:bZ K (hd (Ow own) H) ys us) :
  SR K own (upd H b (.lst ys)) σ (o.set i (.l2 (aw.set n us)))/\Same (hd (Ow own) H) (hd (Ow own) (upd H b (.lst ys))):=by
 have bm:=aC eb;obtain⟨nl,jI⟩:=List.nodup_cons.mp nd;refine h.chg (gn e (by intro z;cases z)) (λc u hc e=>(cF λz=>hc (by rw[eo,z];exact aJ _ bm)).trans e) ?_;rw[eσ,Dj ⟨i,by rw[eo];exact aJ _ bm⟩];refine⟨l,bs,rfl,eo,nd,(cF λ(z:l=b)=>nl (by rw[z];exact bm)).trans e4,by rw[VS];exact ln,λk c ts e1 e2=>?_⟩;by_cases z:k=n
 .subst z;rw[eb]at e1;cases e1;rw[Tu (ln ▸ (ao.mp eb).1)]at e2;cases e2;exact⟨ys,cM,ry⟩
 .rw[UP (Ne.symm z)]at e2;obtain⟨xs,q,rx⟩:=r k c ts e1 e2;refine⟨xs,(cF λy=>?_).trans q,rx⟩;have h1:=(ao.mp e1).1;have h2:=(ao.mp eb).1;exact z (Iu jI e1 (by rw[eb,y]))
theorem S8{bs:Ψ}{j:Int}{c:Addr}(e:atI bs j=some c):atI (bs.map V.ref) j=some (.ref c):=by
 have:atI (bs.map V.ref) j=(atI bs j).map V.ref:=by unfold atI;rw[ak];cases ixN bs.length j<;>simp
 rw[this,e];rfl
def adS(i:Nat)(a b:RE):RE:=λo q=>match slot o i with
 |.l2 aw=>a o λx=>(match frz x with|.int j=>∃ts,ixT aw j=some ts/\b o λy=>(match frz y with|.int m=>∃t,ixT ts m=some t/\q (.fz t)|_=>False)|_=>False)
 |_=>False
theorem acY(i:Nat){x:Str}{p2:Pos}(ha:QE X a ra)(hb:QE X b rb)(hN:X.N[i]?=some x:=by rfl)(hv:q_ X.env.scope x=true:=by rfl)(bv:(x==("__debug__":Str))=false:=by decide)
 (bg:(x==("__classdict__":Str))=false:=by decide)(iL:tU a:=by exact λ_ _=>rfl)(hs:tU b:=by exact λ_ _=>rfl):QE X (.Subscript (.Subscript (.Name x p) a p2) b pos) (adS i ra rb):=(Kd yj (Kd yj (pv i hN hv bv bg) ha iL) hb hs).imp λσ H Q hP=>by
 obtain⟨own,o,R,h,hr,k⟩:=hP;unfold adS at hr;cases es:slot o i with
 |l2 aw =>
  rw[es]at hr;obtain⟨l,bs,e1,e3,nd,e4,ln,r⟩:=h.l2 es;refine⟨_,e1,tQ.mk h hr λH1 v x q E1 r1=>?_⟩
  revert r1 q
  generalize frz x=t;intro q r1;cases t<;>try exact q.elim
  cases r1;obtain⟨ts,ej,q⟩:=q;obtain⟨n,c,_,et,ec,ei⟩:=ix2 (xs:=bs) ln ej;obtain⟨xs,eq,rx⟩:=r n c ts ec et;refine⟨l,bs.map V.ref,_,.ref c,rfl,rfl,.of (E1 _ _ e4),?_,tQ.mk (h.same E1) q λH2 w y q E2 r2=>?_⟩
  .exact S8 ei
  .revert r2 q
   generalize frz y=t;intro q r2;cases t<;>try exact q.elim
   cases r2;obtain⟨t,em,q⟩:=q;obtain⟨z,e7,r7⟩:=rx.ix em;have bS:=E1.trans E2;exact⟨c,xs,_,z,rfl,rfl,.of (bS _ _ eq),e7,k H2 _ _ q bS (NR.fz (r7.same (bU bS)))⟩
 |_=>rw[es]at hr;exact hr.elim
def adZ(i:Nat)(a b:RE):RS:=λE o=>match slot o i with
 |.l2 aw=>a o λx=>(match frz x with|.int j=>∃n ts,ixN aw.length j=some n/\aw[n]?=some ts/\ts.length<sizeLine/\b o λy=>E.nx (o.set i (.l2 (aw.set n (ts++[frz y]))))|_=>False)
 |_=>False
theorem ix3{α β:Type}{xs:List α}{ys:List β}{j:Int}{n:Nat}{y:β}(l:xs.length=ys.length)(e:ixN ys.length j=some n)(ey:ys[n]?=some y):∃x,xs[n]?=some x/\atI xs j=some x:=by
 have hn:n<xs.length:=l ▸ (ao.mp ey).1;exact⟨xs[n],aj hn,by unfold atI;rw[l,e];exact aj hn⟩
theorem ac4(i:Nat){x:Str}{am af p2:Pos}(ha:QE X a ra)(he:QE X e re)(hN:X.N[i]?=some x:=by rfl)(hv:q_ X.env.scope x=true:=by rfl)(bv:(x==("__debug__":Str))=false:=by decide)(bg:(x==("__classdict__":Str))=false:=by decide)(iL:tU a:=by exact λ_ _=>rfl)
 (hb:attributeBase (.Subscript (.Name x p) a p2) "append" X.env (eval (.Subscript (.Name x p) a p2) X.env)=eval (.Subscript (.Name x p) a p2) X.env:=by rfl)
 (hf:((backTo af (starEach [e] X.env)).all (λx=>!x.1)&&(backToKw af (keywordEach [] X.env)).all (λx=>x.1.isSome)&&decide ([e].length+([] : List Keyword).length+(if([] : List Keyword).isEmpty then 0 else 1)<30))=true:=by rfl)
 (hl:(am.endLine==af.line)=true:=by rfl)(b9:starEach [e] X.env=(false,eval e X.env)::starEach [] X.env:=by rfl)(hp:(backTo af (starEach [] X.env)).any (·.1)=false:=by rfl)
 (hs:swapsWith (.Call (.Attribute (.Subscript (.Name x p) a p2) "append" am) [e] [] af) none pos.line X.env=pure false:=by rfl) :
  QS X (.Expr (.Call (.Attribute (.Subscript (.Name x p) a p2) "append" am) [e] [] af) pos) (adZ i ra re):=(xU (Yc (Kd yj (pv i hN hv bv bg) ha iL) (oJ he OJ b9) hb hf hl b9 hp) hs).imp λD σ H hP=>by
 obtain⟨own,o,E,h,hr,L⟩:=hP;unfold adZ at hr;cases es:slot o i with
 |l2 aw =>
  rw[es]at hr;obtain⟨l,bs,e1,e3,nd,e4,ln,r⟩:=h.l2 es;refine⟨_,e1,tQ.mk h hr λH1 v x q E1 r1=>?_⟩
  revert r1 q
  generalize frz x=t;intro q r1;cases t<;>try exact q.elim
  cases r1;obtain⟨n,ts,en,et,sz,q⟩:=q;obtain⟨c,ec,ei⟩:=ix3 (xs:=bs) ln en et;obtain⟨xs,eq,rx⟩:=r n c ts ec et;refine⟨l,bs.map V.ref,_,.ref c,rfl,rfl,.of (E1 _ _ e4),S8 ei,c,xs,rfl,E1 _ _ eq,tQ.mk (h.same E1) q λH2 w y q E2 r2=>?_⟩;have bS:=E1.trans E2;refine⟨w,xs,rfl,bS _ _ eq,by rw[rx.len];exact sz,?_⟩;obtain⟨h',S⟩:=(h.same bS).chg2 es e1 e3 nd (bS _ _ e4) ln (λi b ts a c=>let⟨xs,p,q⟩:=r i b ts a c;⟨xs,bS _ _ p,q.same (bU bS)⟩) ec ((rx.same (bU bS)).app (.cons r2 .nil));exact L.nx own _ σ _ q ((bU bS).trans S) h'
 |_=>rw[es]at hr;exact hr.elim
def adN(i:Nat)(c a b:RE):RS:=λE o=>match slot o i with
 |.l2 aw=>c o λy=>a o λx=>(match frz x with|.int j=>∃n ts,ixN aw.length j=some n/\aw[n]?=some ts/\b o λz=>(match frz z with|.int m=>∃k,ixN ts.length m=some k/\E.nx (o.set i (.l2 (aw.set n (ts.set k (frz y)))))|_=>False)|_=>False)
 |_=>False
theorem adC(i:Nat){x:Str}{az p2:Pos}(he:QE X e re)(ha:QE X a ra)(hk:QE X b rb)(hN:X.N[i]?=some x:=by rfl)(hv:q_ X.env.scope x=true:=by rfl)(bv:(x==("__debug__":Str))=false:=by decide)(bg:(x==("__classdict__":Str))=false:=by decide)(iL:tU a:=by exact λ_ _=>rfl)
 (hq:∀v,assign (.Subscript (.Subscript (.Name x p) a p2) b az) X.env v=(do
   let ov <- holding [v] (eval (.Subscript (.Name x p) a p2) X.env)
   let iv <- holding [v,ov] (eval b X.env)
   standAt az
   holding [v,ov,iv] (setItem ov iv v)
   release [v,ov,iv] []):=by intro _;rfl)
 (hs:swapsWithSole [.Subscript (.Subscript (.Name x p) a p2) b az] e pos.line X.env=pure false:=by rfl)(hw:swappedStores [.Subscript (.Subscript (.Name x p) a p2) b az] e X.env=pure none:=by rfl)
 (h1:(assignEach [.Subscript (.Subscript (.Name x p) a p2) b az] X.env).map (·.2)=[assign (.Subscript (.Subscript (.Name x p) a p2) b az) X.env]:=by rfl):QS X (.Assign [.Subscript (.Subscript (.Name x p) a p2) b az] e pos) (adN i re ra rb):=(T_ he (Zz (Kd yj (pv i hN hv bv bg) ha iL) hk set_list hq) hs hw h1).imp λD σ H hP=>by
 obtain⟨own,o,E,h,hr,L⟩:=hP;unfold adN at hr;cases es:slot o i with
 |l2 aw =>
  rw[es]at hr;obtain⟨l,bs,e1,e3,nd,e4,ln,r⟩:=h.l2 es;refine tQ.mk h hr λH0 v0 y q E0' r0=>⟨_,e1,tQ.mk (h.same E0') q λH1 v x q E1 r1=>?_⟩
  revert r1 q
  generalize frz x=t;intro q r1;cases t<;>try exact q.elim
  cases r1;obtain⟨n,ts,en,et,q⟩:=q;obtain⟨c,ec,ei⟩:=ix3 (xs:=bs) ln en et;obtain⟨xs,eq,rx⟩:=r n c ts ec et;have E01:=E0'.trans E1;refine⟨l,bs.map V.ref,_,.ref c,rfl,rfl,.of (E01 _ _ e4),S8 ei,tQ.mk (h.same E01) q λH2 w z q E2 r2=>?_⟩
  revert r2 q
  generalize frz z=t;intro q r2;cases t<;>try exact q.elim
  cases r2;obtain⟨k,ek,q⟩:=q;have bS:=E01.trans E2;refine⟨c,xs,_,k,rfl,rfl,bS _ _ eq,by rw[rx.len];exact ek,?_⟩;obtain⟨h',S⟩:=(h.same bS).chg2 es e1 e3 nd (bS _ _ e4) ln (λi b ts a c=>let⟨xs,p,q⟩:=r i b ts a c;⟨xs,bS _ _ p,q.same (bU bS)⟩) ec (bZ.set (r0.same (bU (E1.trans E2))) k (rx.same (bU bS)));exact L.nx own _ σ _ q ((bU bS).trans S) h'
 |_=>rw[es]at hr;exact hr.elim
def amX:T->T->(OT->Prop)->Prop
 |.str i,.str j,q=>q (.fz (.bl (!decide (j.cps.toList<i.cps.toList))))
 |_,_,_=>False
theorem aaA:GO X (compareOp .LtE) amX:=aeu.imp λx y H Q hP=>by
 obtain⟨S,t,u,R,_,hx,hy,hg,k⟩:=hP;cases hx<;>try exact hg.elim
 cases hy<;>try exact hg.elim
 exact⟨_,_,rfl,rfl,k H _ _ hg (.refl _) (NR.fz (.bl _))⟩
theorem adk:GC X (.builtin "len") (g1 alY):=.one Ma λS t x H Q R rx hg k=>by
 cases t<;>try exact hg.elim
 cases rx;exact⟨_,rfl,hg.1,k H _ _ hg.2 (.refl _) (NR.fz (.int _))⟩
def amr(a:RE):RI:=λo q=>a o λx=>match frz x with|.str s=>q (s.cps.toList.map λc=>.str ⟨#[c]⟩)|_=>False
theorem afm{tg:Expr}(he:QE X e re):QI X tg e (amr re):=(aeZ he).imp λσ H Q ⟨own,o,R,h,hr,k⟩=>tQ.mk h hr λH1 v x q E1 r1=>by
 revert r1 q
 generalize frz x=t;intro q r1;cases t<;>try exact q.elim
 cases r1;refine⟨_,rfl,k H1 _ _ q E1 λS H2 i _ SF=>⟨λhi=>show i=_ by simpa using hi,λt ht=>?_⟩⟩;rw[aq]at ht;cases z:(‹Str›.cps.toList)[i]? with
 |none=>rw[z]at ht;cases ht
 |some c =>
  rw[z]at ht;cases ht;refine⟨show i<_ by simpa using(ao.mp z).1,?_⟩;rintro x H3 ⟨rfl,c',e',rfl⟩;rw[<- Array.getElem?_toList,z]at e';cases e';exact⟨.refl _,.str _⟩
end
abbrev HG:=T->List OT->(List OT->Prop)->Prop
section
variable{α β:Type}{g:HG}{b:RS}{E:DT}{o:List OT}
theorem Wq(h:α->T)(l:List α)(J:List α->List OT->Prop)(st:∀as a bs o,l=as++a::bs->J as o->g (h a) o λo'=>b { E with nx:=J (as++[a]),ct:=J (as++[a]),bk:=E.nx } o')(bu:∀o,J l o->E.nx o):∀(bs as:List α)(o:List OT),l=as++bs->J as o->uQ g b E (bs.map h) o
 |[],as,o,e,j=>bu o (by rw[List.append_nil]at e;rw[e];exact j)
 |a::bs,as,o,e,j=>⟨J (as++[a]),λo k=>Wq h l J st bu bs (as++[a]) o (by rw[e];simp) k,st as a bs o e j⟩
theorem fW(h:α->T)(l:List α)(J:List α->List OT->Prop)(j:J [] o)(st:∀as a bs o,l=as++a::bs->J as o->g (h a) o λo'=>b { E with nx:=J (as++[a]),ct:=J (as++[a]),bk:=E.nx } o')(bu:∀o,J l o->E.nx o):uQ g b E (l.map h) o:=Wq h l J st bu l [] o rfl j
theorem Av(J:Nat->List OT->Prop):∀(xs:List T)(k:Nat){o:List OT},J k o->(∀i t o,xs[i]?=some t->J (k+i) o->g t o λo'=>b { E with nx:=J (k+i+1),ct:=J (k+i+1),bk:=E.nx } o')->(∀o,J (k+xs.length) o->E.nx o)->uQ g b E xs o
 |[],_,o,j,_,bu=>bu o j
 |t::ts,k,o,j,st,bu=>⟨J (k+1),λo z=>Av J ts (k+1) z (λi t o e z=>by
   have:=st (i+1) t o (by simpa using e) (by rw[show k+(i+1)=k+1+i by lia];exact z);rw[show k+(i+1)+1=k+1+i+1 by lia]at this;exact this) (λo z=>bu o (by rw[List.length_cons,show k+(ts.length+1)=k+1+ts.length by lia];exact z)),st 0 t o rfl j⟩
theorem jr{n:Nat}(J:Nat->List OT->Prop)(j:J 0 o)(st:∀k o,k<n->J k o->g (.int (k:Nat)) o λo'=>b { E with nx:=J (k+1),ct:=J (k+1),bk:=E.nx } o')(bu:∀o,J n o->E.nx o):uQ g b E (rng 0 n) o:=by
 refine Av J (rng 0 n) 0 j (λi t o e z=>?_) λo z=>bu o (by rw[rng,ak,WJ,Nat.zero_add]at z;exact z);unfold rng at e;rw[aq]at e;by_cases hi:i<n
 .rw[Up hi]at e;cases e;rw[Nat.zero_add]at z ⊢;have:=st i o hi z;show g (.int (0+((i:Nat):Int))) o _;rw[show(0:Int)+((i:Nat):Int)=((i:Nat):Int)by exact Int.zero_add _];exact this
 .rw[aM (by simpa using hi)]at e;cases e
theorem xV(h:α->T)(l:List α)(J:Nat->List OT->Prop)(j:J 0 o)(st:∀k a o,l[k]?=some a->J k o->g (.tup [.int (k:Nat),h a]) o λo'=>b { E with nx:=J (k+1),ct:=J (k+1),bk:=E.nx } o')(bu:∀o,J l.length o->E.nx o):uQ g b E (yV (l.map h)) o:=by
 refine Av J (yV (l.map h)) 0 j (λi t o e z=>?_) λo z=>bu o (by rw[yV,ak,List.length_zipIdx,ak,Nat.zero_add]at z;exact z);unfold yV at e;rw[aq]at e;by_cases hi:i<l.length
 .rw[aj (by simpa using hi),List.getElem_zipIdx,UU]at e;cases e;rw[Nat.zero_add]at z ⊢;have:=st i _ o (aj hi) z;exact this
 .rw[aM (by simpa using hi)]at e;cases e
variable{c:RT}{e:RE}{q:List T->Prop}
theorem comp_map(h:α->T)(f:α->T):∀(l:List α){q:List T->Prop},(∀a∈l,∀(N:T->Prop)(M:Prop),N (f a)->g (h a) o λo'=>c o' λb=>sw b (e o' λy=>N (frz y)) M)->q (l.map f)->jd g c e o (l.map h) q
 |[],_,_,k=>k
 |a::l,q,st,k=>⟨λy=>y=f a,False,λy z=>comp_map h f l (λa ha=>st a (aJ _ ha)) (z ▸ k),False.elim,st a (aO ..) (λy=>y=f a) False rfl⟩
theorem nC(h:α->T)(p:α->Bool)(f:α->T):∀(l:List α){q:List T->Prop},(∀a∈l,∀(N:T->Prop)(M:Prop),(p a=true->N (f a))->(p a=false->M)->g (h a) o λo'=>c o' λb=>sw b (e o' λy=>N (frz y)) M)->q ((l.filter p).map f)->jd g c e o (l.map h) q
 |[],_,_,k=>k
 |a::l,q,st,k=>⟨λy=>y=f a/\p a=true,p a=false,λy z=>nC h p f l (λa ha=>st a (aJ _ ha)) (by rw[Zxq z.2]at k;exact z.1 ▸ k),λz=>nC h p f l (λa ha=>st a (aJ _ ha)) (by rw[Zyr (by rw[z];decide)]at k;exact k),st a (aO ..) (λy=>y=f a/\p a=true) (p a=false) (λz=>⟨rfl,z⟩) id⟩
inductive afQ(R:α->T->Prop):List α->List T->Prop
 |nil:afQ R [] []
 |cons {a:α}{t:T}{l:List α}{ts:List T} : R a t->afQ R l ts->afQ R (a::l) (t::ts)
theorem K6(f:Nat->T)(n:Nat)(st:∀k,k<n->∀(N:T->Prop)(M:Prop),N (f k)->g (.int (k:Nat)) o λo'=>c o' λb=>sw b (e o' λy=>N (frz y)) M)(k:q ((List.range n).map f)):jd g c e o (rng 0 n) q:=by
 refine comp_map (λk:Nat=>.int (0+k)) f (List.range n) (λa ha N M hN=>?_) k;have:=st a (List.mem_range.mp ha) N M hN;show g (.int (0+((a:Nat):Int))) o _;rw[show(0:Int)+((a:Nat):Int)=((a:Nat):Int)by exact Int.zero_add _];exact this
theorem zip_map{α β:Type}(h:α->T)(k:β->T)(xs:List α)(ys:List β):DP (xs.map h) (ys.map k)=(xs.zip ys).map λp=>.tup [h p.1,k p.2]:=by
 unfold DP;rw[List.zip_map,WP]
 rfl
theorem aam{α:Type}(h:α->T)(xs:List α):yV (xs.map h)=xs.zipIdx.map λp=>.tup [.int (p.2:Nat),h p.1]:=by
 unfold yV;rw[List.zipIdx_map,WP]
 rfl
end
noncomputable def Nh(ks:List Key)(j:Key):Bool:=ks.any λk=>decide (k=j)
def kpK(ks:List Key)(j:Key):List Key:=if Nh ks j=true then ks else ks++[j]
def kpT{α:Type}(ks:List Key)(ts:List α)(j:Key)(t:α):List α:=if Nh ks j=true then ks.zipWith (λk x=>if k=j then t else x) ts else ts++[t]
theorem aaX{j:Key}{v:V}{ks:List Key}{xs:Ζ}(l:ks.length=xs.length):putK (ks.zip xs) j v=(kpK ks j).zip (kpT ks xs j v)/\(kpK ks j).length=(kpT ks xs j v).length:=by
 have any:∀{ks:List Key}{xs:Ζ},ks.length=xs.length->((ks.zip xs).any λkv=>decide (kv.1=j))=Nh ks j:=λ{ks}=>by
  induction ks with
  |nil=>intro xs _;rfl
  |cons k ks ih =>
   intro xs l;cases xs with
   |nil=>cases l
   |cons x xs=>rw[List.zip_cons_cons,List.any_cons,ih (Nat.succ.inj l)];rfl
 unfold putK kpK kpT;rw[any l];by_cases h:Nh ks j=true
 .rw[ZY h,ZY h,ZY h];refine⟨?_,by rw[JS,l,UV]⟩
  clear any h
  induction ks generalizing xs with
  |nil=>rfl
  |cons k ks ih =>
   cases xs with
   |nil=>cases l
   |cons x xs =>
    rw[List.zip_cons_cons,List.map_cons,ih (Nat.succ.inj l),List.zipWith_cons_cons,List.zip_cons_cons];by_cases h:k=j
    .rw[ZY h,ZY h]
    .rw[ZZ h,ZZ h]
 .rw[ZZ h,ZZ h,ZZ h];exact⟨by rw[List.zip_append l];rfl,by simp[l]⟩
theorem bZ.kp{K:Frag}{F:Hp}{j:Key}{v:V}{t:T}(r:Rep K F v t){ks:List Key}{xs:Ζ}{ts:List T}(h:bZ K F xs ts):bZ K F (kpT ks xs j v) (kpT ks ts j t):=by
 unfold kpT;by_cases z:Nh ks j=true
 .rw[ZY z,ZY z]
  clear z
  induction ks generalizing xs ts with
  |nil=>exact .nil
  |cons k ks ih =>
   cases h with
   |nil=>exact .nil
   |cons a b =>
    rw[List.zipWith_cons_cons,List.zipWith_cons_cons];refine .cons ?_ (ih b);by_cases y:k=j
    .rw[ZY y,ZY y];exact r
    .rw[ZZ y,ZZ y];exact a
 .rw[ZZ z,ZZ z];exact h.app (.cons r .nil)
section
variable{X:Cx}{a b c e:Expr}{ra rb rc re:RE}{pos p:Pos}
def adQ(i:Nat)(a b:RE):RS:=λE o=>match slot o i with|.d1 ks ts=>a o λy=>b o λk=>∃j,Xd (frz k)=some j/\ks.length<sizeLine/\E.nx (o.set i (.d1 (kpK ks j) (kpT ks ts j (frz y))))|_=>False
theorem SR.d1{K:Frag}{own:Nat->Ψ}{H:Hp}{σ:L2.St}{o:List OT}(h:SR K own H σ o){i:Nat}{ks:List Key}{ts:List T}(e:slot o i=.d1 ks ts):∃l xs,σ[i]?=some (some (.ref l))/\own i=[l]/\H l=some (.dK (ks.zip xs))/\ks.length=xs.length/\bZ K (hd (Ow own) H) xs ts:=by
 obtain⟨u,e1,l,xs,e2,e3,e4,r⟩:=h.val e (by intro z;cases z);cases e2;exact⟨l,xs,e1,e3,e4,r⟩
theorem N8(i:Nat){x:Str}{az:Pos}(hu:X.A.units+1<cLine)(he:QE X e re)(hb:QE X b rb)(hN:X.N[i]?=some x:=by rfl)(hv:q_ X.env.scope x=true:=by rfl)(bv:(x==("__debug__":Str))=false:=by decide)(bg:(x==("__classdict__":Str))=false:=by decide)
 (hs:swapsWith e (some (.Subscript (.Name x p) b az)) pos.line X.env=pure false:=by rfl):QS X (.Assign [.Subscript (.Name x p) b az] e pos) (adQ i re rb):=(abA hu (pv i hN hv bv bg) hb he hs).imp λD σ H hP=>by
 obtain⟨own,o,E,h,hr,L⟩:=hP;unfold adQ at hr;cases es:slot o i with
 |d1 ks ts =>
  rw[es]at hr;obtain⟨l,xs,e1,e3,e4,ln,r⟩:=h.d1 es;refine tQ.mk h hr λH1 v y q E1 r1=>⟨_,e1,tQ.mk (h.same E1) q λH2 w z q E2 r2=>?_⟩;obtain⟨j,ek,sz,q⟩:=q;have bS:=E1.trans E2;cases Ov r2 ek;obtain⟨pk,pl⟩:=aaX (j:=j) (v:=v) ln;have lz:(ks.zip xs).length<sizeLine:=by rw[VX,<- ln,UV];exact sz
  refine⟨l,_,rfl,.inl ⟨_,j,bS _ _ e4,rfl,lz,rfl⟩,?_⟩;rw[pk];obtain⟨h',S⟩:=(h.same bS).chg (gn es (by intro z;cases z)) (y:=.d1 (kpK ks j) (kpT ks ts j (frz y))) (H':=upd H2 l (.dK ((kpK ks j).zip (kpT ks xs j v)))) (λb u hb e=>(cF λz=>hb (by rw[e3,z];simp)).trans e) (by
   rw[e1,Dj ⟨i,by rw[e3];simp⟩];exact⟨l,_,rfl,e3,cM,pl,bZ.kp (r1.same (bU E2)) (r.same (bU bS))⟩)
  exact L.nx own _ σ _ q ((bU bS).trans S) h'
 |_=>rw[es]at hr;exact hr.elim
def adR(i:Nat)(a b:RE):RE:=λo q=>match slot o i with|.d1 ks ts=>a o λy=>b o λz=>∃j,Xd (frz y)=some j/\q (.fz ((pO ks ts j).getD (frz z)))|_=>False
theorem acT(i:Nat){x:Str}{am af:Pos}(hu:X.A.units+1<cLine)(ha:QE X a ra)(hb:QE X b rb)(m:M2 X (.Name x p) "get" am a b af:=by first|exact⟨rfl,rfl,rfl,rfl⟩|constructor<;>rfl)(hN:X.N[i]?=some x:=by rfl)(hv:q_ X.env.scope x=true:=by rfl)(bv:(x==("__debug__":Str))=false:=by decide)(bg:(x==("__classdict__":Str))=false:=by decide) :
  QE X (.Call (.Attribute (.Name x p) "get" am) [a,b] [] af) (adR i ra rb):=(aaF hu (pv i hN hv bv bg) ha hb m).imp λσ H Q hP=>by
 obtain⟨own,o,R,h,hr,k⟩:=hP;unfold adR at hr;cases es:slot o i with
 |d1 ks ts =>
  rw[es]at hr;obtain⟨l,xs,e1,e3,e4,ln,r⟩:=h.d1 es;refine⟨_,e1,l,rfl,.inl ⟨_,.inl e4⟩,tQ.mk h hr λH1 v y q E1 r1=>tQ.mk (h.same E1) q λH2 w z q E2 r2=>?_⟩;obtain⟨j,ek,q⟩:=q;have bS:=E1.trans E2;cases Ov r1 ek;refine⟨_,Dz.k (bS _ _ e4),?_⟩;have r:=r.same (bU bS);cases z1:pO ks ts j with
  |none =>
   rw[z1]at q;rw[(DW r).2 z1];exact k H2 _ _ q bS (NR.fz r2)
  |some t =>
   rw[z1]at q;obtain⟨u,e5,r5⟩:=(DW r).1 t z1;rw[e5];exact k H2 _ _ q bS (NR.fz r5)
 |_=>rw[es]at hr;exact hr.elim
noncomputable def kT:Key->T
 |.inl i=>.int i
 |.inr s=>.str s
def ad7(i n:Nat)(g:T->List OT->(List OT->Prop)->Prop)(c:RT)(e:RE):RS:=λE o=>match slot o i with
 |.d1 ks ts=>ks.length<=sizeLine/\jd g c e (List.replicate n .und++o.set i (.fz (.dct ks ts))) (ks.map kT) λus=>E.rt (.l1 us)
 |_=>False
theorem acE{K:Frag}{a:Addr}{ob:Obj}{ks:List Key}{xs:Ζ}{F:Hp}(l:ks.length=xs.length)(e:F a=some (.frz ob (.dK (ks.zip xs)))):Wlk K (Itk a ob (ks.zip xs)) F (ks.map kT):=λS H i _ SF=>by
 have eH:=(cU (SF _ _ e)).2;have lz:(ks.zip xs).length=ks.length:=by rw[VX,<- l,UV]
 refine⟨λhi=>⟨eH,by rw[lz];simpa using hi⟩,λt ht=>?_⟩;rw[aq]at ht;cases z:ks[i]? with
 |none=>rw[z]at ht;cases ht
 |some k =>
  rw[z]at ht;cases ht;have hi:=(ao.mp z).1;refine⟨⟨eH,by rw[lz];exact hi⟩,?_⟩;rintro x H' ⟨rfl,k',y,e1,rfl⟩;rw[aj (by rw[lz];exact hi),Zys]at e1;rw[aj hi]at z;cases z;cases e1;refine⟨.refl _,?_⟩;cases ks[i]with
  |inl j=>exact .int _
  |inr s=>exact .str _
theorem adb{tg a9:Expr}{aI:List Expr}{g:T->List OT->(List OT->Prop)->Prop}{rc:RT}{scope:Scope}{x:Str}{af:Pos}(i:Nat)(sc:Scope)(N N' xs:Φ)(hg:∀{C s₀ H₀ ex pn},QG (X.compG N' scope xs C s₀ H₀ ex pn) xs.length tg g)(ht:∀{C s₀ H₀ ex pn},QTs (X.compG N' scope xs C s₀ H₀ ex pn) aI rc)(he:∀{C s₀ H₀ ex pn},QE (X.compG N' scope xs C s₀ H₀ ex pn) a9 re)
 (hN:X.N[i]?=some x:=by rfl)(hv:q_ X.env.scope x=true:=by rfl)(bv:(x==("__debug__":Str))=false:=by decide)(bg:(x==("__classdict__":Str))=false:=by decide)
 (cy:X.env.scope=sc:=by rfl)(c5:X.N=N:=by rfl)(hc:X.calm=true:=by rfl)(hk:scope.kind=.function:=by rfl)(h:CK sc scope N N' xs:=by decide +kernel)(hs:∀z,foldedSetIterable (.Name x p) X.env z=pure z:=by intro _;rfl) :
  QS X (.Return (some (.ListComp a9 [⟨tg,.Name x p,aI,0⟩] scope af)) pos) (ad7 i xs.length g rc re):=(S5 (aaL (gt:=tQG X.K xs.length g) (tc:=tQT X.K rc) (te:=tQ X.K re) sc N N' xs (abl (tg:=tg) (pv i hN hv bv bg)) hg ht he cy c5 hc hk h hs)).imp λD σ H hP=>by
 obtain⟨own,o,E,h,hr,L⟩:=hP;unfold ad7 at hr;cases es:slot o i with
 |d1 ks ts =>
  rw[es]at hr;obtain⟨l,ys,e1,e3,e4,ln,r⟩:=h.d1 es;refine⟨_,e1,l,_,rfl,e4,λob DD nD=>?_⟩;have eo:∀b,Ow (own1 own i []) b->Ow own b/\b≠l:=λb hP=>by
   obtain⟨j,z⟩:=hP;by_cases y:j=i
   .rw[y,jg]at z;cases z
   .rw[fB y]at z;exact⟨⟨j,z⟩,λw=>y (h.dis j i b z (by rw[e3,w];simp))⟩
  have nl:¬Ow (own1 own i []) l:=λz=>(eo l z).2 rfl;have ol:Ow own l:=⟨i,by rw[e3];simp⟩;have S1:Same (hd (Ow own) H) (hd (Ow (own1 own i [])) (upd H l (.frz ob (.dK (ks.zip ys))))):=λb u e=>by
   obtain⟨n,e⟩:=cU e;rw[cR λz=>n (eo b z).1,cF λ(z:b=l)=>n (z.symm ▸ ol)];exact e
  have h1:SR X.K (own1 own i []) (upd H l (.frz ob (.dK (ks.zip ys)))) σ (o.set i (.fz (.dct ks ts))):=by
   have hi:i<o.length:=(ao.mp (gn es (by intro z;cases z))).1;refine⟨by rw[VS,h.len],λj y e'=>?_,λj hj a ha=>?_,λj k a z1 z2=>?_⟩
   .by_cases z:j=i
    .subst z;rw[Tu hi]at e';cases e';rw[jg,e1];exact⟨rfl,_,rfl,.dct (.inr ⟨ob,by rw[cR nl];exact cM⟩) ln (r.same S1)⟩
    .rw[UP (Ne.symm z)]at e';rw[fB z];exact((h.sl j y e').same S1 (.refl _)).off λb hb u e=>(cF λw=>z (h.dis j i b hb (by rw[e3,w];simp))).trans e
   .rw[VS]at hj;rw[fB (by lia)]at ha;obtain⟨xs,e⟩:=h.out j hj a ha;exact⟨xs,(cF λw=>by have:=h.dis j i a ha (by rw[e3,w];simp);lia).trans e⟩
   .by_cases z:j=i
    .rw[z,jg]at z1;cases z1
    by_cases y:k=i
    .rw[y,jg]at z2;cases z2
    .rw[fB z]at z1;rw[fB y]at z2;exact h.dis j k a z1 z2
  have L1:=L.step S1;refine Qw h1 (acE ln (by rw[cR nl];exact cM)) (by simpa using hr.1) hr.2 nD λH' v y rx E n=>?_;obtain⟨B,nb,s⟩:=n;exact L1.rt _ H' v y B rx (h_ (λb z=>z.imp id (nb b)) E) s λa ha=>.inr ha
 |_=>rw[es]at hr;exact hr.elim
end
def agv(K:Frag)(as:Ψ)(H:Hp)(aw:List (List T)):Prop:=aw.length=as.length/\∀(j:Nat)a ts,as[j]?=some a->aw[j]?=some ts->∃xs,H a=some (.lst xs)/\bZ K (hd (· ∈ as) H) xs ts
abbrev SO:=List (List T)->List T->(List (List T)->Prop)->Prop
def spO(K:Frag)(S:SO):Sp:=λvs H Q _=>∃(as:Ψ)(aw:List (List T))(us:Ζ)(ts:List T)(R:List (List T)->Prop),vs=as.map V.ref++us/\as.Nodup/\agv K as H aw/\bZ K (hd (· ∈ as) H) us ts/\S aw ts R /\
 ∀H' be,R be->Same (hd (· ∈ as) H) (hd (· ∈ as) H')->agv K as H' be->Q .non H'
noncomputable def ownL(as:Ψ)(i:Nat):Ψ:=match as[i]? with|some a=>[a]|none=>[]
theorem GF{as:Ψ}{i:Nat}{b:Addr}(h:b∈ownL as i):as[i]?=some b:=by
 unfold ownL at h;cases e:as[i]? with
 |none=>rw[e]at h;cases h
 |some a=>rw[e]at h;cases YR.mp h;rfl
theorem Va{as:Ψ}{i:Nat}{b:Addr}(h:as[i]?=some b):ownL as i=[b]:=by unfold ownL;rw[h]
theorem Ow.ownL(as:Ψ):Ow (L2.ownL as)=(· ∈ as):=funext λb=>propext ⟨λ⟨i,z⟩=>aC (GF z),λz=>by
 obtain⟨i,e⟩:=aV z;exact⟨i,by rw[Va e];simp⟩⟩
def startO(n:Nat)(as:Ψ)(aw:List (List T))(ts:List T):List OT:=List.zipWith OT.la as aw++start' (n-as.length) ts
section
variable{P:Program}{w:World}{K:Frag}{mg:Str->Ω}{base:Heap}
theorem SR.startO{H:Hp}{as:Ψ}{aw:List (List T)}{us:Ζ}{ts:List T}(nd:as.Nodup)(h:agv K as H aw)(r:bZ K (hd (· ∈ as) H) us ts)(N:Φ)(hN:as.length+us.length<=N.length):SR K (ownL as) H (L2.start N (as.map V.ref++us)) (L2.startO N.length as aw ts):=by
 have zl:(List.zipWith OT.la as aw).length=as.length:=by rw[JS,h.1,UV]
 refine⟨?_,λi x e=>?_,λi hi b hb=>?_,λi j b e1 e2=>Iu nd (GF e1) (GF e2)⟩
 .unfold L2.startO start' L2.start;have:=r.len;simp only[aA,ak,aN,zl];lia
 .rw[Ow.ownL];unfold L2.startO at e;unfold L2.start;by_cases hi:i<as.length
  .rw[aF (by rw[zl];exact hi),Zyq]at e;have ea:=aj hi;have et:=aj (l:=aw) (by rw[h.1];exact hi);rw[ea,et]at e;cases e;rw[Va ea,aF (by simp;exact WU _ hi),aq,aF (by simpa using hi),aq,ea];obtain⟨xs,q,rx⟩:=h.2 i _ _ ea et;exact⟨xs,rfl,rfl,q,rx⟩
  .have on:ownL as i=[]:=by unfold ownL;rw[aM (Nat.not_lt.mp hi)]
   rw[on];rw[aD (by rw[zl];exact Nat.not_lt.mp hi),zl]at e;unfold start' at e;by_cases hj:i-as.length<ts.length
   .rw[aF (by simpa using hj),aq,aj hj]at e;cases e;obtain⟨v,e1,r1⟩:=r.at_ (aj hj);have:=r.len;rw[aF (by simp;lia),aq,aD (by simpa using Nat.not_lt.mp hi),ak,e1];exact⟨rfl,v,rfl,r1⟩
   .rw[aD (by simpa using hj),ak,X0]at e;split at e
    .cases e;rfl
    .cases e
 .unfold L2.startO at hi;rw[aA,zl]at hi;have:=(ao.mp (GF hb)).1;lia
theorem slot_of:∀{o:List OT}{i:Nat}{x:OT},o[i]?=some x->slot o i=x
 |[],_,_,e=>by cases e
 |_::_,0,_,e=>by cases e;rfl
 |_::l,i+1,x,e=>slot_of (o:=l) (by simpa using e)
theorem Fun.okO{x ai:Str}{st:Stmt}{f:Addr}{fd:FuncData}{N ps:Φ}{k:Nat}{S:SO}(F:Fun K x ai st f fd)(sc:bL N ps (bH st))(len:∀aw ts R,S aw ts R->aw.length+ts.length=ps.length)(hn:ps.length<=N.length)
 (cf:∀(ag:Value)(A:Around)(outer:List Env)(s:Shared)(H:Hp)(E:XK),fD k (A.deeper (envOfC ai (bH st) s.heap.objs.size f ag)) ->
   ∃r,QSs (Ob CX0 P w K mg base N ai (bH st) f ag A outer s H E).nox (fL st) r/\∀as aw ts R,aw.length=as.length->S aw ts R->r { nx:=λo=>∃be,(∀j,slot o j=slot (List.zipWith OT.la as be) j\/as.length<=j)/\be.length=as.length/\R be,rt:=λ_=>False } (startO N.length as aw ts)):cj P w K mg base CX0 (k+1) f fd ps (spO K S):=by
 refine F.ok sc (λvs H Q E h=>?_) λag A outer s H vs Q E hr h=>?_
 .obtain⟨as,aw,us,ts,R,rfl,_,l,r,hS,_⟩:=h;rw[aA,ak,<- l.1,r.len];exact len _ _ _ hS
 .obtain⟨as,aw,us,ts,R,rfl,nd,l,r,hS,q⟩:=h;obtain⟨rd,h1,h2⟩:=cf ag A outer s H E hr;have s0:=SR.startO nd l r N (by rw[<- l.1,r.len,len _ _ _ hS];exact hn);refine⟨_,h1,_,_,_,s0,h2 as aw ts R l.1 hS,⟨λown H' σ o rx E h=>?_,λ_ _ _ _ _ z=>z.elim,λ_ _ _ _ z=>z.elim,λ_ _ _ _ z=>z.elim⟩⟩;obtain⟨be,es,tl,rx⟩:=rx;rw[Ow.ownL]at E;have df:∀(j:Nat)a t,as[j]?=some a->be[j]?=some t->slot o j=.la a t:=λj a t e1 e2=>by
   rcases es j with z|z
   .rw[z];exact slot_of (by rw[Zyq,e1,e2])
   .exact absurd (ao.mp e1).1 (Nat.not_lt.mpr z)
  have sub:Same (hd (Ow own) H') (hd (· ∈ as) H'):=h_ (λb z=>.inl (by
   obtain⟨j,e⟩:=aV z;have lj:j<be.length:=tl ▸ (ao.mp e).1;obtain⟨u,_,xs,_,e3,_⟩:=h.val (df j b _ e (aj lj)) (by intro z;cases z);exact⟨j,by rw[e3];simp⟩)) λ_ _ z=>z
  refine q H' be rx (E.trans sub) ⟨tl,λj a t e1 e2=>?_⟩;obtain⟨u,_,xs,_,_,e4,r4⟩:=h.val (df j a t e1 e2) (by intro z;cases z);exact⟨xs,e4,r4.same sub⟩
end
section
variable{X:Cx}{es:List Expr}{r:RA}{pos p p1 p2 af:Pos}
theorem Yx{K:Frag}{own:Nat->Ψ}{H:Hp}{σ:L2.St}{o:List OT}(h:SR K own H σ o){as:Ψ}(hs:∀a∈as,∃j,own j=[a]):Hid H (λb=>Ow own b/\b∉as)/\∀H':Hp,hd (· ∈ as) (hd (λb=>Ow own b/\b∉as) H')=hd (Ow own) H':=by
 have in1:∀{b x:Addr}{j:Nat},b∈own j->b∉as->x∈own j->x∉as:=λ{b x j}hb n hx z=>by
  obtain⟨k,ek⟩:=hs x z;have:=h.dis j k x hx (by rw[ek];simp);subst this;rw[ek]at hb hx;cases YR.mp hb;exact n z
 refine⟨⟨λb z=>h.sole z.1,λb C d f ⟨⟨j,z⟩,n⟩ e=>⟨⟨j,(h.mate z).1 C d f e⟩,in1 z n ((h.mate z).1 C d f e)⟩,λb x ⟨⟨j,z⟩,n⟩ e=>⟨⟨j,(h.mate z).2 x e⟩,in1 z n ((h.mate z).2 x e)⟩⟩,λH'=>funext λb=>?_⟩;by_cases z:b∈as
 .obtain⟨k,ek⟩:=hs b z;rw[qm z,qm ⟨k,by rw[ek];simp⟩]
 .rw[cR z];by_cases y:Ow own b
  .rw[qm (⟨y,z⟩ : Ow own b/\b∉as),qm y]
  .rw[cR (λw=>y w.1),cR y]
def al0(i:Nat)(S:SO)(r:RA):RS:=λE o=>onL (slot o i) λts c=>r o λas=>S [ts] as λaw=>match aw with|[t]=>E.nx (o.set i (c t))|_=>False
theorem agh(i:Nat){x y:Str}{k:Nat}{ps:Φ}{S:SO}(G:OkF X.prog X.w X.K X.mg X.base k x ps (spO X.K S))(hr:fD k X.A)(hg:Gl X x)(ha:QA X es r)(hN:X.N[i]?=some y:=by rfl)(hv:q_ X.env.scope y=true:=by rfl)(bv:(y==("__debug__":Str))=false:=by decide)(bg:(y==("__classdict__":Str))=false:=by decide)(ce:(x==("__debug__":Str))=false:=by decide)
 (he:starEach (.Name y p1::es) X.env=(false,eval (.Name y p1) X.env)::starEach es X.env:=by rfl)(bi:(backTo af (starEach es X.env)).any (·.1)=false:=by rfl)(hs:swapsWith (.Call (.Name x p) (.Name y p1::es) [] af) none pos.line X.env=pure false:=by rfl):QS X (.Expr (.Call (.Name x p) (.Name y p1::es) [] af) pos) (al0 i S r):=by
 obtain⟨f,fd,F,b,hm,kp⟩:=G;refine(xU (G3 (sp:=spH (spO X.K S)) ⟨f,fd,F.hid,b,hm,kp⟩ hr hg (oJ (pv i hN hv bv bg) ha he) ce he bi) hs).imp λD σ H hP=>?_;obtain⟨own,o,E,h,hr,L⟩:=hP;obtain⟨ts,c,hr,es⟩:=Dd hr;obtain⟨l,xs,e1,e2,e3,r0,sl⟩:=h.l1 es;refine⟨_,e1,tQA.mk h hr λH1 vs as q _ E1 r1=>?_⟩;have h1:=h.same E1;obtain⟨hid,eqF⟩:=Yx h1 (as:=[l]) λa ha=>⟨i,by rw[YR.mp ha];exact e2⟩;have nl:¬(Ow own l/\l∉[l]):=λz=>z.2 (by simp);refine⟨_,hid,[l],[ts],vs,as,_,rfl,by simp,⟨rfl,λj a t ea et=>?_⟩,by rw[eqF];exact r1,q,λG be rx EE ls gone=>?_⟩
 .cases j with
  |zero=>cases ea;cases et;exact⟨xs,(cR nl).trans (E1 _ _ e3),by rw[eqF];exact r0.same (bU E1)⟩
  |succ j=>cases ea
 .match be,rx,ls with
  |[t],rx,ls =>
   obtain⟨ys,ey,ry⟩:=ls.2 0 l t rfl rfl;rw[eqF]at EE;have de:∀{b:Addr}{u:HO},G b=some u->mrg (λb=>Ow own b/\b∉[l]) H1 G b=some u:=λ{b u}e=>(lN λz=>by rw[gone b z]at e;cases e).trans e;obtain⟨x,ex⟩:=Il es;obtain⟨h',S'⟩:=h1.chg ex (y:=c t) (H':=mrg (λb=>Ow own b/\b∉[l]) H1 G) (λb u hb e=>by
    by_cases z:Ow own b
    .rw[vM ⟨z,λy=>hb (by rw[e2];exact y)⟩];exact e
    .exact de (cU (EE b u ((cR z).trans e))).2) (by
    rw[e1,e2];refine sl _ ys t (de ey) (ry.same λb u e=>?_);obtain⟨n1,e⟩:=cU e;rw[cR λz=>by rw[gone b ⟨z,n1⟩]at e;cases e];exact de e)
   exact L.nx own _ σ _ rx ((bU E1).trans S') h'
def am2(i j:Nat)(S:SO)(r:RA):RS:=λE o=>onL (slot o i) λts c=>onL (slot o j) λus d=>r o λas=>S [ts,us] as λaw=>match aw with|[t,u]=>E.nx ((o.set i (c t)).set j (d u))|_=>False
theorem I_(i j:Nat){x y z:Str}{k:Nat}{ps:Φ}{S:SO}(G:OkF X.prog X.w X.K X.mg X.base k x ps (spO X.K S))(hr:fD k X.A)(hg:Gl X x)(ha:QA X es r)(hZ:i≠j:=by decide)(hN:X.N[i]?=some y:=by rfl)(hv:q_ X.env.scope y=true:=by rfl)(bv:(y==("__debug__":Str))=false:=by decide)(bg:(y==("__classdict__":Str))=false:=by decide)(hN2:X.N[j]?=some z:=by rfl)(kM:q_ X.env.scope z=true:=by rfl)(lI:(z==("__debug__":Str))=false:=by decide)(lT:(z==("__classdict__":Str))=false:=by decide)(ce:(x==("__debug__":Str))=false:=by decide)
 (he:starEach (.Name y p1::.Name z p2::es) X.env=(false,eval (.Name y p1) X.env)::starEach (.Name z p2::es) X.env:=by rfl)(he2:starEach (.Name z p2::es) X.env=(false,eval (.Name z p2) X.env)::starEach es X.env:=by rfl)(bi:(backTo af (starEach (.Name z p2::es) X.env)).any (·.1)=false:=by rfl)(hs:swapsWith (.Call (.Name x p) (.Name y p1::.Name z p2::es) [] af) none pos.line X.env=pure false:=by rfl):QS X (.Expr (.Call (.Name x p) (.Name y p1::.Name z p2::es) [] af) pos) (am2 i j S r):=by
 obtain⟨f,fd,F,b,hm,kp⟩:=G;refine(xU (G3 (sp:=spH (spO X.K S)) ⟨f,fd,F.hid,b,hm,kp⟩ hr hg (oJ (pv i hN hv bv bg) (oJ (pv j hN2 kM lI lT) ha he2) he) ce he bi) hs).imp λD σ H hP=>?_;obtain⟨own,o,E,h,hr,L⟩:=hP;obtain⟨ts,c,hr,es⟩:=Dd hr;obtain⟨us,d,hr,es2⟩:=Dd hr;obtain⟨l,xs,e1,e2,e3,r0,sl⟩:=h.l1 es;obtain⟨m,zs,f1,f2,f3,s0,sl2⟩:=h.l1 es2;have lm:l≠m:=λz=>hZ (h.dis i j l (by rw[e2];simp) (by rw[f2,z];simp));refine⟨_,e1,_,f1,tQA.mk h hr λH1 vs as q _ E1 r1=>?_⟩;have h1:=h.same E1;obtain⟨hid,eqF⟩:=Yx h1 (as:=[l,m]) λa ha=>by
  rcases YU.mp ha with z|z
  .exact⟨i,by rw[z];exact e2⟩
  .exact⟨j,by rw[YR.mp z];exact f2⟩
 have nl:¬(Ow own l/\l∉[l,m]):=λz=>z.2 (by simp);have nm:¬(Ow own m/\m∉[l,m]):=λz=>z.2 (by simp);refine⟨_,hid,[l,m],[ts,us],vs,as,_,rfl,by simp[lm],⟨rfl,λj a t ea et=>?_⟩,by rw[eqF];exact r1,q,λG be rx EE ls gone=>?_⟩
 .match j,ea,et with
  |0,ea,et=>cases ea;cases et;exact⟨xs,(cR nl).trans (E1 _ _ e3),by rw[eqF];exact r0.same (bU E1)⟩
  |1,ea,et=>cases ea;cases et;exact⟨zs,(cR nm).trans (E1 _ _ f3),by rw[eqF];exact s0.same (bU E1)⟩
  |j+2,ea,_=>cases ea
 .match be,rx,ls with
  |[t,u],rx,ls =>
   obtain⟨ys,ey,ry⟩:=ls.2 0 l t rfl rfl;obtain⟨ws,ew,ky⟩:=ls.2 1 m u rfl rfl;rw[eqF]at EE;have de:∀{b:Addr}{u:HO},G b=some u->mrg (λb=>Ow own b/\b∉[l,m]) H1 G b=some u:=λ{b u}e=>(lN λz=>by rw[gone b z]at e;cases e).trans e;generalize hM:mrg (λb=>Ow own b/\b∉[l,m]) H1 G=M at de;have keep:∀b u,b≠l->b≠m->H1 b=some u->M b=some u:=λb u n1 n2 e=>by
    by_cases z:Ow own b
    .rw[<- hM,vM ⟨z,by simp[n1,n2]⟩];exact e
    .exact de (cU (EE b u ((cR z).trans e))).2
   have back:∀(M':Hp),(∀b,b≠m->M' b=M b)->Same (hd (· ∈ [l,m]) G) (hd (Ow own) M'):=λM' hM' b u e=>by
    obtain⟨n1,e⟩:=cU e;rw[cR (λz=>by rw[gone b ⟨z,n1⟩]at e;cases e),hM' b λz=>n1 (by simp[z])];exact de e
   obtain⟨x,ex⟩:=Il es;obtain⟨x2,ex2⟩:=Il es2;obtain⟨h2,S2⟩:=h1.chg ex (y:=c t) (H':=upd M m (.lst zs)) (λb u hb e=>by
    by_cases z:b=m
    .rw[z,cM];rw[z,E1 _ _ f3]at e;exact e
    .rw[cF z];exact keep b u (λy=>hb (by rw[e2,y];simp)) z e) (by
    rw[e1,e2];exact sl _ ys t ((cF lm).trans (de ey)) (ry.same (back _ λb n=>cF n)))
   obtain⟨h3,S3⟩:=h2.chg (show(o.set i (c t))[j]?=some x2 by rw[UP hZ];exact ex2) (y:=d u) (H':=M) (λb w hb e=>by rw[cF λz=>hb (by rw[f2,z];simp)]at e;exact e) (by
    rw[f1,f2];exact sl2 _ ws u (de ew) (ky.same (back _ λ_ _=>rfl)))
   exact L.nx own _ σ _ rx ((bU E1).trans (S2.trans S3)) h3
end
def Hh(g:T->List OT->(List OT->Prop)->Prop)(c:RT)(e:RE)(o:List OT):List T->(List (List T)->Prop)->Prop
 |[],q=>q []
 |t::ts,q=>∃(N:List T->Prop)(M:Prop),(∀y,N y->Hh g c e o ts λus=>q (y::us))/\(M->Hh g c e o ts q)/\g t o λo'=>c o' λb=>sw b (e o' λy=>match y with|.l1 us=>N us|_=>False) M
def Ym(it:RI)(n:Nat)(g:T->List OT->(List OT->Prop)->Prop)(c:RT)(e:RE):RE:=λo q=>it o λxs=>xs.length<=sizeLine/\Hh g c e (List.replicate n .und++o) xs λus=>q (.l2 us)
noncomputable def ownL2(n L:Nat)(own:Nat->Ψ)(A:Ψ):Nat->Ψ:=λi=>if i<n then[]else if i<n+L then own (i-n)else if i=n+L then A else own (i-n-1)
theorem Ow.ownL2{n L:Nat}{own:Nat->Ψ}{A:Ψ}{b:Addr} : Ow (ownL2 n L own A) b↔Ow own b\/b∈A:=by
 constructor
 .rintro⟨i,z⟩;unfold L2.ownL2 at z;by_cases h1:i<n
  .rw[ZY h1]at z;cases z
  rw[ZZ h1]at z;by_cases h2:i<n+L
  .rw[ZY h2]at z;exact .inl ⟨_,z⟩
  rw[ZZ h2]at z;by_cases h3:i=n+L
  .rw[ZY h3]at z;exact .inr z
  .rw[ZZ h3]at z;exact .inl ⟨_,z⟩
 .rintro(⟨i,z⟩|z)
  .by_cases h:i<L
   .exact⟨n+i,by unfold L2.ownL2;rw[ZZ (Ts (X2 _ _)),ZY (Nat.add_lt_add_left h _),show n+i-n=i by exact JU _ _];exact z⟩
   .exact⟨n+i+1,by unfold L2.ownL2;rw[ZZ (by lia),ZZ (by lia),ZZ (by lia),show n+i+1-n-1=i by lia];exact z⟩
  .exact⟨n+L,by unfold L2.ownL2;rw[ZZ (Ts (X2 _ _)),ZZ (X9 _),ZY rfl];exact z⟩
theorem SR.blockL{K:Frag}{own:Nat->Ψ}{H:Hp}{σ:L2.St}{o:List OT}(h:SR K own H σ o){A:Ψ}{H':Hp}(E:Same H H')(nA:∀a∈A,H a=none)(eA:∀a∈A,∃ys,H' a=some (.lst ys))(pre:L2.St):SR K (ownL2 pre.length o.length own A) H' (pre++σ) (List.replicate pre.length .und++o):=by
 have le:Same (hd (Ow own) H) (hd (Ow (ownL2 pre.length o.length own A)) H'):=h_ (λb z=>(Ow.ownL2.mp z).imp id (nA b)) E;have fm:∀j,∀a∈A,a∉own j:=λj a ha z=>(h.sole ⟨j,z⟩).ne (nA a ha);refine⟨by simp[h.len],λi x e=>?_,λi hi a ha=>?_,λi j a e1 e2=>?_⟩
 .by_cases h1:i<pre.length
  .rw[aF (by simpa using h1),X0,ZY h1]at e;cases e;show ownL2 _ _ _ _ i=[];unfold ownL2;rw[ZY h1]
  .rw[aD (by simpa using h1),aN]at e;have h2:i-pre.length<o.length:=(ao.mp e).1;rw[aD (Nat.not_lt.mp h1)];have:ownL2 pre.length o.length own A i=own (i-pre.length):=by unfold ownL2;rw[ZZ h1,ZY (by omega)]
   rw[this];exact(h.sl _ x e).same le E
 .rw[aA,aN]at hi;unfold ownL2 at ha;rw[ZZ (by lia),ZZ (Ts hi)]at ha;by_cases h3:i=pre.length+o.length
  .rw[ZY h3]at ha;exact eA a ha
  .rw[ZZ h3]at ha;obtain⟨xs,e⟩:=h.out _ (by lia) a ha;exact⟨xs,E _ _ e⟩
 .unfold ownL2 at e1 e2;by_cases a1:i<pre.length
  .rw[ZY a1]at e1;cases e1
  by_cases b1:j<pre.length
  .rw[ZY b1]at e2;cases e2
  rw[ZZ a1]at e1;rw[ZZ b1]at e2;by_cases a2:i<pre.length+o.length<;>by_cases b2:j<pre.length+o.length
  .rw[ZY a2]at e1;rw[ZY b2]at e2;have:=h.dis _ _ a e1 e2;omega
  .rw[ZY a2]at e1;rw[ZZ b2]at e2;by_cases b3:j=pre.length+o.length
   .rw[ZY b3]at e2;exact absurd e1 (fm _ a e2)
   .rw[ZZ b3]at e2;have:=h.dis _ _ a e1 e2;omega
  .rw[ZZ a2]at e1;rw[ZY b2]at e2;by_cases a3:i=pre.length+o.length
   .rw[ZY a3]at e1;exact absurd e2 (fm _ a e1)
   .rw[ZZ a3]at e1;have:=h.dis _ _ a e1 e2;lia
  .rw[ZZ a2]at e1;rw[ZZ b2]at e2;by_cases a3:i=pre.length+o.length<;>by_cases b3:j=pre.length+o.length
   .exact Eq.trans a3 (Eq.symm b3)
   .rw[ZY a3]at e1;rw[ZZ b3]at e2;exact absurd e2 (fm _ a e1)
   .rw[ZZ a3]at e1;rw[ZY b3]at e2;exact absurd e1 (fm _ a e2)
   .rw[ZZ a3]at e1;rw[ZZ b3]at e2;have:=h.dis _ _ a e1 e2;lia
theorem W2{K:Frag}{σ:L2.St}{Q:VK}{n:Nat}{g:T->List OT->(List OT->Prop)->Prop}{rc:RT}{re:RE}{own:Nat->Ψ}{o:List OT}{H1:Hp}{J:It}{xs:List T}{R:OT->Prop}{D:Addr}(h1:SR K own H1 σ o)(wk:Wlk K J (hd (Ow own) H1) xs)(lx:xs.length<=sizeLine)(q:Hh g rc re (List.replicate n .und++o) xs λus=>R (.l2 us))(nD:H1 D=none)(k:∀H' v x,R x->Same H1 H'->NR K (Ow own) H1 H' v x->Q v H') :
  ∃W:Nat->Nat->Ζ->Hp->Prop,(∃m,W 0 m [] (upd H1 D (.lst [])))/\∀i m ys Hc,W i m ys Hc ->
   (J.stop i Hc/\Q (.ref D) Hc)\/(J.go i Hc/\∀x H',J.yld i Hc x H'->∀pre:L2.St,pre.length=n->tMG (tQG K n g) x (pre++σ) H' λσ2 H2=>∃b6:L2.St,b6.length=n/\σ2=b6++σ/\tMT (tQT K rc) σ2 H2 λb H3 =>
    match b with
    |true=>tM (tQ K re) σ2 H3 λy H4=>ys.length<sizeLine/\H4 D=some (.lst ys)/\∃m',m'<m/\W (i+1) m' (ys++[y]) (upd H4 D (.lst (ys++[y])))
    |false=>∃m',m'<m/\W (i+1) m' ys H3):=by
 generalize hO:List.replicate n OT.und++o=ob at q;refine⟨λi m ys Hc=>∃(bs:Ψ)(aw:List (List T)),ys=bs.map V.ref/\Hc D=some (.lst ys)/\Same H1 Hc/\(D::bs).Nodup/\(∀b∈bs,H1 b=none)/\bs.length=aw.length/\(∀(i:Nat)b ts,bs[i]?=some b->aw[i]?=some ts->∃xs,Hc b=some (.lst xs)/\bZ K (hd (λb=>Ow own b\/b∈D::bs) Hc) xs ts)/\ys.length<=i/\i<=xs.length/\m=xs.length-i/\Hh g rc re ob (xs.drop i) λus=>R (.l2 (aw++us)),⟨_,[],[],rfl,cM,Same.upd nD,by simp,λ_ z=>(nomatch z),rfl,(λi b ts e=>by cases e),aG _,aZ _,rfl,q⟩,?_⟩;rintro i m ys Hc ⟨bs,aw,rfl,eD,Ec,nd,nb,bl,rs,il,ix,rfl,hl⟩;have nA:∀a∈D::bs,H1 a=none:=λa ha=>by
  rcases YU.mp ha with z|z
  .rw[z];exact nD
  .exact nb a z
 have eA:∀a∈D::bs,∃ys,Hc a=some (.lst ys):=λa ha=>by
  rcases YU.mp ha with z|z
  .exact⟨_,z ▸ eD⟩
  .obtain⟨j,e⟩:=aV z;have lj:=(ao.mp e).1;obtain⟨zs,e2,_⟩:=rs j a _ e (aj (aR lj (WG bl)));exact⟨zs,e2⟩
 have hn:∀b,Ow own b\/b∈D::bs->Hc b≠none:=λb z=>z.elim (λz=>((h1.same Ec).sole z).ne) λe z=>by obtain⟨ys,ey⟩:=eA b e;rw[ey]at z;cases z
 have SD:Same (hd (Ow own) H1) (hd (λb=>Ow own b\/b∈D::bs) Hc):=h_ (λb z=>z.imp id (nA b)) Ec;obtain⟨w1,w2⟩:=wk (λb=>Ow own b\/b∈D::bs) Hc i hn SD;by_cases hi:i<xs.length
 .right;obtain⟨go,yl⟩:=w2 _ (aj hi);rw[Zzv hi]at hl;obtain⟨N,M,hN,hM,hl⟩:=hl;refine⟨go,λx H2 y pre hp=>?_⟩;obtain⟨E2,rx⟩:=yl x H2 y;have eO:(λb=>Ow own b\/b∈D::bs)=Ow (ownL2 n o.length own (D::bs)):=funext λb=>propext Ow.ownL2.symm;have hb:SR K (ownL2 n o.length own (D::bs)) H2 (pre++σ) ob:=by
   have:=h1.blockL (Ec.trans E2) nA (λa ha=>let⟨ys,e⟩:=eA a ha;⟨ys,E2 _ _ e⟩) pre;rw[hp,hO]at this;exact this
  rw[eO]at rx rs;refine⟨_,⟨ownL2 n o.length own (D::bs),ob,_,_,hb,rx,hl,λeW σ3 o3 q3 g3 h3=>?_⟩,λ_ _ z=>z⟩;obtain⟨b6,c9,rfl⟩:=Qu hp g3;have e3:eW=ownL2 n o.length own (D::bs):=funext λj=>by
   rcases g3.1 j with e|⟨e1,e2⟩
   .exact e
   .rw[e2];unfold ownL2;rw[ZY e1]
  subst e3;refine⟨b6,c9,rfl,_,tQT.mk h3 q3 λH3 b q4 E3=>?_,λ_ _ z=>z⟩;have q4:sw b (re o3 λy=>match y with|.l1 us=>N us|_=>False) M:=q4;cases b with
  |false=>exact⟨xs.length-(i+1),by lia,bs,aw,rfl,E3 _ _ (E2 _ _ eD),Ec.trans (E2.trans E3),nd,nb,bl,λj b ts e1 e2=>by
    obtain⟨zs,ez,rz⟩:=rs j b ts e1 e2;rw[eO];exact⟨zs,E3 _ _ (E2 _ _ ez),rz.same (bU (E2.trans E3))⟩,by exact aL il (X2 _ _),by exact hi,rfl,hM q4⟩
  |true =>
   refine⟨_,⟨_,_,_,h3.same E3,q4,λH4 v y q5 E4 r4=>?_⟩,λ_ _ z=>z⟩
   match y,q5,r4 with
   |.l1 us,q5,r4 =>
    obtain⟨B,nB,p,zs,ev,rfl,ep,rp⟩:=r4;cases ev;have np:H3 p=none:=nB p (by simp);have pn:∀{a:Addr}{u:HO},H3 a=some u->a≠p:=λe z=>by rw[z,np]at e;cases e
    have E:Same Hc H3:=E2.trans E3;have pD:D≠p:=pn (E _ _ eD);have pb:p∉bs:=λz=>by
     obtain⟨ys,ey⟩:=eA p (aJ _ z);exact pn (E _ _ ey) rfl
    have inD:∀(H:Hp)(u:HO),hd (λb=>Ow own b\/b∈D::(bs++[p])) (upd H D u)=hd (λb=>Ow own b\/b∈D::(bs++[p])) H:=λH u=>Dj (S:=λb=>Ow own b\/b∈D::(bs++[p])) (.inr (by simp));refine⟨by lia,E4 _ _ (E _ _ eD),xs.length-(i+1),by lia,bs++[p],aw++[us],by rw[bf];rfl,cM,λb u e=>?_,?_,λb hb=>?_,by simp[bl],λj b ts e1 e2=>?_,by rw[aA,List.length_singleton];exact Nat.succ_le_succ il,by exact hi,rfl,?_⟩
    .rw[cF λz=>by rw[z,nD]at e;cases e];exact E4 _ _ (E _ _ (Ec _ _ e))
    .rw[<- List.cons_append];exact List.nodup_append.mpr ⟨nd,by simp,λa ha c hc z=>by
      rw[YR.mp hc]at z;rcases YU.mp ha with y|y
      .exact pD (y.symm.trans z)
      .exact pb (z ▸ y)⟩
    .rcases Y1.mp hb with z|z
     .exact nb b z
     .rw[YR.mp z];exact(Ec.trans E).free np
    .rw[inD];by_cases hj:j<bs.length
     .rw[aF hj]at e1;rw[aF (aR hj (WG bl))]at e2;obtain⟨zs,ez,rz⟩:=rs j b ts e1 e2;have bD:b≠D:=λz=>(List.nodup_cons.mp nd).1 (z ▸ aC e1);refine⟨zs,by rw[cF bD];exact E4 _ _ (E _ _ ez),rz.same ?_⟩;rw[<- eO];exact h_ (λc z=>by
       rcases z with z|z
       .exact .inl (.inl z)
       .rw[<- List.cons_append]at z;rcases Y1.mp z with y|y
        .exact .inl (.inr y)
        .rw[YR.mp y];exact .inr (E.free np)) (E.trans E4)
     .rw[aD (VU hj)]at e1;rw[aD (by lia)]at e2;have j0:j-bs.length=0:=by
       have:=(ao.mp e1).1;simp at this;omega
      rw[j0]at e1;rw[show j-aw.length=0 by lia]at e2;cases e1;cases e2;refine⟨_,by rw[cF (Ne.symm pD)];exact ep,rp.same (h_ (λc z=>.inl ?_) λ_ _ z=>z)⟩;rcases z with z|z
      .exact .inl (Ow.ownL2.mpr (.inl z))
      .rw[<- List.cons_append]at z;rcases Y1.mp z with y|y
       .exact .inl (Ow.ownL2.mpr (.inr y))
       .exact .inr y
    .have:=hN _ q5;simp only[WZ,List.singleton_append];exact this
 .left;have:i=xs.length:=by lia
  refine⟨w1 this,?_⟩;rw[TR (VU hi)]at hl;have hl:R (.l2 (aw++[])):=hl;rw[List.append_nil]at hl;exact k Hc _ _ hl Ec ⟨D::bs,nA,D,bs,rfl,rfl,nd,eD,bl,rs⟩
theorem Vd{K:Frag}{σ:L2.St}{H:Hp}{Q:VK}{ri:RI}{n:Nat}{g:T->List OT->(List OT->Prop)->Prop}{rc:RT}{re:RE}(h:tQ K (Ym ri n g rc re) σ H Q):rE (tQI K ri) n (tMG (tQG K n g)) (tMT (tQT K rc)) (tM (tQ K re)) σ H Q:=by
 obtain⟨own,o,R,h,hr,k⟩:=h;exact⟨own,o,_,h,hr,λH1 J xs q E1 wk D nD=>W2 (h.same E1) wk q.1 q.2 nD λH' v x rx E n=>k H' v x rx (E1.trans E) (n.back E1)⟩
section
variable{X:Cx}{tg iter a9:Expr}{aI:List Expr}{ri:RI}{g:T->List OT->(List OT->Prop)->Prop}{rc:RT}{re:RE}{scope:Scope}{pos:Pos}
theorem Ze(sc:Scope)(N N':Φ)(x0:Str)(hi:QI X tg iter ri)(hg:∀{C s₀ H₀ ex pn},QG (X.compGC N' scope x0 C s₀ H₀ ex pn) 1 tg g)(ht:∀{C s₀ H₀ ex pn},QTs (X.compGC N' scope x0 C s₀ H₀ ex pn) aI rc)(he:∀{C s₀ H₀ ex pn},QE (X.compGC N' scope x0 C s₀ H₀ ex pn) a9 re)
 (cy:X.env.scope=sc:=by rfl)(c5:X.N=N:=by rfl)(hc:X.calm=true:=by rfl)(hk:scope.kind=.function:=by rfl)(fA:∀n acc,cellsFrom n scope.names acc=(x0,n)::acc:=by intro _ _;rfl)(fw:∀h,pushCells h scope.names=h.push { cls:=.type "cell",data:=.cell none }:=by intro _;rfl)(h:(∀y∈scope.names,y.2=.cell->y.1=x0)/\CK0 sc scope N N' [x0]:=by decide +kernel)(hs:∀z,foldedSetIterable iter X.env z=pure z:=by intro _;rfl):QE X (.ListComp a9 [⟨tg,iter,aI,0⟩] scope pos) (Ym ri 1 g rc re) :=
 (Z_ (gt:=tQG X.K 1 g) (tc:=tQT X.K rc) (te:=tQ X.K re) sc N N' x0 hi hg ht he cy c5 hc hk fA fw h hs).imp λ_ _ _=>Vd
theorem acr{i0:Nat}{y0:Str}{py b8:Pos}(sc:Scope)(N N' xs:Φ)(hi:QI X tg iter ri)(hg:∀{C s₀ H₀ ex pn},QG (X.compG N' scope xs C s₀ H₀ ex pn) xs.length tg g)(ht:∀{C s₀ H₀ ex pn},QTs (X.compG N' scope xs C s₀ H₀ ex pn) aI rc)(he:∀{C s₀ H₀ ex pn},QE (X.compG N' scope xs C s₀ H₀ ex pn) a9 re)(fy:PG X (.Name y0 py) (yS i0))
 (cy:X.env.scope=sc:=by rfl)(c5:X.N=N:=by rfl)(hc:X.calm=true:=by rfl)(hk:scope.kind=.function:=by rfl)(h:CK sc scope N N' xs:=by decide +kernel)(fr:swapsWith (.ListComp a9 [⟨tg,iter,aI,0⟩] scope pos) (some (.Name y0 py)) b8.line X.env=pure true:=by rfl)(hs:∀z,foldedSetIterable iter X.env z=pure z:=by intro _;rfl) :
  QS X (.Assign [.Name y0 py] (.ListComp a9 [⟨tg,iter,aI,0⟩] scope pos) b8) (afh i0 (Ym ri xs.length g rc re)):=(Yp (gt:=tQG X.K xs.length g) (tc:=tQT X.K rc) (te:=tQ X.K re) sc N N' xs hi hg ht he fy cy c5 hc hk h fr hs).imp λD σ H ⟨own,o,E,h,hr,L⟩=>Vd ⟨own,o,_,h,hr,λH' v y q S n=>by
 obtain⟨ah,h',S'⟩:=h.putA S n i0;exact L.nx ah H' _ _ q S' h'⟩
theorem KC{α:Type}(h:α->T)(f:α->List T){c:RT}{e:RE}{o:List OT} : ∀(l:List α){q:List (List T)->Prop},(∀a∈l,∀(N:List T->Prop)(M:Prop),N (f a)->g (h a) o λo'=>c o' λb=>sw b (e o' λy=>match y with|.l1 us=>N us|_=>False) M)->q (l.map f)->Hh g c e o (l.map h) q
 |[],_,_,k=>k
 |a::l,q,st,k=>⟨λy=>y=f a,False,λy z=>KC h f l (λa ha=>st a (aJ _ ha)) (z ▸ k),False.elim,st a (aO ..) (λy=>y=f a) False rfl⟩
theorem Rj{c:RT}{e:RE}{o:List OT}{q:List (List T)->Prop}(f:Nat->List T)(n:Nat)(st:∀k,k<n->∀(N:List T->Prop)(M:Prop),N (f k)->g (.int (k:Nat)) o λo'=>c o' λb=>sw b (e o' λy=>match y with|.l1 us=>N us|_=>False) M)(k:q ((List.range n).map f)):Hh g c e o (rng 0 n) q:=by
 refine KC (λk:Nat=>.int (0+k)) f (List.range n) (λa ha N M hN=>?_) k;have:=st a (List.mem_range.mp ha) N M hN;show g (.int (0+((a:Nat):Int))) o _;rw[show(0:Int)+((a:Nat):Int)=((a:Nat):Int)by exact Int.zero_add _];exact this
end
section
variable{X:Cx}
noncomputable abbrev Im(f:Β):PyData:=.tuple [.int f.1,.int f.2]
noncomputable abbrev frP(f:Β):T:=.tup [.int f.1,.int f.2]
def adv(K:Frag):V->Ζ->Hp->VK->Prop:=λx vs H Q=>∃(l:Addr)(b:V)(xs:Ζ)(fs:Γ)(f:Β)(j:Nat),x=.ref l/\vs=[b]/\H l=some (.lst xs)/\xs.length=fs.length/\(∀(i:Nat)x g,xs[i]?=some x->fs[i]?=some g->f9 K H x (Im g))/\f9 K H b (Im f)/\xs.length<=sizeLine/\fs[j]?=some f/\(∀i g,i<j->fs[i]?=some g->g≠f)/\Q (.int (j:Nat)) H
open Classical in
def afC(h:Heap)(f:Β)(v:Value):Bool:=decide (∃as,Reads h v (Im f) as)
open Classical in
theorem Mg{h:Heap}{v:Value}{g f:Β}{as:Ψ}(r:Reads h v (Im g) as):afC h f v=(decide (g.1=f.1)&&decide (g.2=f.2)):=by
 unfold afC;by_cases e:g=f
 .subst e;rw[Zs ⟨as,r⟩,Zs rfl,Zs rfl];rfl
 .have nd:¬∃as,Reads h v (Im f) as:=λ⟨bs,z⟩=>e (by
   have:=SeqAt.Reads.unique _ _ _ _ _ rfl r z;injection this with this;injection this with t1 t2;injection t2 with t2;injection t1 with t1;injection t2 with t2;exact Prod.ext t1 t2)
  rw[Zp nd];by_cases h1:g.1=f.1
  .by_cases h2:g.2=f.2
   .exact absurd (Prod.ext h1 h2) e
   .rw[Zp h2,Bool.and_false]
  .rw[Zp h1,Bool.false_and]
theorem Xr(hu:X.A.units+64<cLine):MtM X "list.index" (adv X.K):=by
 intro aa s σ H x vs v us Q I rx rv h;obtain⟨l,b,xs,fs,f,j,rfl,rfl,hl,lf,fl,hb,hz,ej,nj,q⟩:=h;cases rx;obtain⟨u,rfl,ru⟩:=rv.one;obtain⟨bs,rb⟩:=I.readsK hb ru;obtain⟨z,its,n,r,iX,e⟩:=I.lstM hl;have lr:=r.length;have kn:∀(i:Nat)(hi:i<its.toArray.size),∃g as,fs[i]?=some g/\Reads s.heap its.toArray[i] (Im g) as:=λi hi=>by
  rw[aX]at hi;have ex:xs[i]?=some (xs[i]'(by lia)):=aj _;have eg:fs[i]?=some (fs[i]'(by lia)):=aj _;obtain⟨u,eu,ru⟩:=r.get ex;obtain⟨as,ra⟩:=I.readsK (fl i _ _ ex eg) ru;refine⟨_,as,eg,?_⟩;rw[List.getElem_toArray,(ao.mp eu).2];exact ra
 have lj:=(ao.mp ej).1;have hj:j<its.toArray.size:=by rw[aX];lia
 rw[sizeLine_eq]at hz;refine call_meets F.slot_list_index ⟨_,e,rfl⟩ F.entry_list_index (F.args_list_index_2 _ _) (SeqAt.list_indexAt l its.toArray n _ _ _ (afC s.heap f) j hj (by lia) ?_ λm hm lm=>?_) ⟨e,λy hy=>?_,⟨.int _,H,I.tok _,⟨_,rfl⟩,q⟩⟩
 .obtain⟨g,as,e2,e3⟩:=kn j hj;rw[ej]at e2;cases e2;rw[Mg e3,Zs rfl,Zs rfl];rfl
 .obtain⟨g,as,e2,e3⟩:=kn m hm;have ne:=nj m g lm e2;rw[Mg e3];by_cases h1:g.1=f.1
  .by_cases h2:g.2=f.2
   .exact absurd (Prod.ext h1 h2) ne
   .rw[Zp h2,Bool.and_false]
  .rw[Zp h1,Bool.false_and]
 .obtain⟨i,hi,ei⟩:=Array.getElem_of_mem hy;obtain⟨g,as,e2,e3⟩:=kn i hi;rw[<- ei,Mg e3,<- adU];exact SeqAt.eqAt_reads _ _ _ _ _ _ _ _ e3 rb rfl rfl (by
   have d:(Im g).depth<=3:=Tx rfl;have m:=Nat.min_le_left (Im g).depth (Im f).depth;show X.A.units+1+min (Im g).depth (Im f).depth<cLine;lia)
def alo(a:RE)(r:RA):RE:=λo q=>a o λx=>match frz x with
 |.lst ts=>r o λus=>∃(fs:Γ)(f:Β)(j:Nat),ts=fs.map frP/\us=[frP f]/\fs.length<=sizeLine/\fs[j]?=some f/\(∀i g,i<j->fs[i]?=some g->g≠f)/\q (.fz (.int (j:Nat)))
 |_=>False
theorem aeD{o e:Expr}{ra:RE}{r:RA}{am af:Pos}(hu:X.A.units+64<cLine)(ho:QE X o ra)(ha:QA X [e] r)(hb:attributeBase o "index" X.env (eval o X.env)=eval o X.env:=by rfl)
 (hf:((backTo af (starEach [e] X.env)).all (λx=>!x.1)&&(backToKw af (keywordEach [] X.env)).all (λx=>x.1.isSome)&&decide ([e].length+([] : List Keyword).length+(if([] : List Keyword).isEmpty then 0 else 1)<30))=true:=by rfl)
 (hl:(am.endLine==af.line)=true:=by rfl)(hs:starEach [e] X.env=(false,eval e X.env)::starEach [] X.env:=by rfl)(hp:(backTo af (starEach [] X.env)).any (·.1)=false:=by rfl) :
  QE X (.Call (.Attribute o "index" am) [e] [] af) (alo ra r):=by
 refine(aas PySem.F.plainAttrs_list PySem.F.slot_list_index PySem.F.type_list_index (Xr hu) ho.mono ha.mono hb hf hl hs hp).imp λσ H Q hP=>?_;obtain⟨own,o,R,h,hr,k⟩:=hP;refine⟨_,tQ.mk h hr λH1 v x q E1 r1=>?_,λ_ _ z=>z⟩;cases ex:frz x with
 |lst ts =>
  rw[ex]at q r1;obtain⟨p,xs,rfl,e,rx⟩:=r1.lstI;refine⟨.inl ⟨rfl,_,SqL.of (dW _ _ e)⟩,_,tQA.mk (h.same E1) q λH2 vs us q2 _ E2 r2=>?_,λ_ _ z=>z⟩;obtain⟨fs,f,j,rfl,rfl,lf,ej,nj,q3⟩:=q2;obtain⟨y,rfl,ry⟩:=r2.one;have S2:Same (hd (Ow own) H1) H2:=(bU E2).trans dW;refine⟨p,y,xs,fs,f,j,rfl,rfl,E2 _ _ (dW _ _ e),by rw[rx.len,ak],λi x g ex eg=>?_,(ry.shows _ rfl rfl).same dW,by rw[rx.len,ak];exact lf,ej,nj,k H2 _ _ q3 (E1.trans E2) (NR.fz (.int _))⟩;obtain⟨v,ev,rv⟩:=rx.at_ (show(fs.map frP)[i]?=some (frP g)by rw[aq,eg];rfl);rw[ex]at ev;cases ev;exact(rv.shows _ rfl rfl).same S2
 |_=>rw[ex]at q;exact q.elim
end
section
variable{X:Cx}
theorem bZ.strs{K:Frag}{F:Hp} : ∀{xs:Ζ}{ys:Φ},bZ K F xs (ys.map T.str)->xs=ys.map V.str
 |_,[],h=>by cases h;rfl
 |_,y::ys,h=>by
  cases h with
  |cons a b =>
   cases a;rw[bZ.strs b];rfl
def rJn(a:RE)(r:RA):RE:=λo q=>a o λx=>match frz x with
 |.str s=>r o λus=>∃ys:Φ,us=[.lst (ys.map T.str)]/\(ys.map (·.length)).sum+ys.length*s.length<=16777216/\q (.fz (.str (Txt.join s ys)))
 |_=>False
theorem abZ{o e:Expr}{ra:RE}{r:RA}{am af:Pos}(ho:QE X o ra)(ha:QA X [e] r)(hb:attributeBase o "join" X.env (eval o X.env)=eval o X.env:=by rfl)
 (hf:((backTo af (starEach [e] X.env)).all (λx=>!x.1)&&(backToKw af (keywordEach [] X.env)).all (λx=>x.1.isSome)&&decide ([e].length+([] : List Keyword).length+(if([] : List Keyword).isEmpty then 0 else 1)<30))=true:=by rfl)
 (hl:(am.endLine==af.line)=true:=by rfl)(hs:starEach [e] X.env=(false,eval e X.env)::starEach [] X.env:=by rfl)(hp:(backTo af (starEach [] X.env)).any (·.1)=false:=by rfl) :
  QE X (.Call (.Attribute o "join" am) [e] [] af) (rJn ra r):=by
 refine(ahK PySem.F.slot_str_join PySem.F.type_str_join adB ho ha hb hf hl hs hp).imp λσ H Q hP=>?_;obtain⟨own,o,R,h,hr,k⟩:=hP;refine tQ.mk h hr λH1 v x q E1 r1=>?_;cases ex:frz x with
 |str s =>
  rw[ex]at q r1;cases r1;refine⟨⟨s,rfl⟩,tQA.mk (h.same E1) q λH2 vs us q2 _ E2 r2=>?_⟩;obtain⟨ys,rfl,lz,q3⟩:=q2;obtain⟨y,rfl,ry⟩:=r2.one;obtain⟨p,xs,rfl,e,rx⟩:=ry.lstI;exact⟨s,p,ys,rfl,rfl,rx.strs ▸ (cU e).2,lz,k H2 _ _ q3 (E1.trans E2) (NR.fz (.str _))⟩
 |_=>rw[ex]at q;exact q.elim
noncomputable def notStar:Expr->Bool
 |.Starred ..=>false
 |_=>true
theorem aeK{e:Expr}{es:List Expr}{env:Env}(h:notStar e=true):starEach (e::es) env=(false,eval e env)::starEach es env:=by
 cases e<;>first|rfl|cases h
structure QEB(X:Cx)(e:Expr)(r:RE):Prop where
 out:QE X e r
structure QAB(X:Cx)(es:List Expr)(r:RA):Prop where
 out:QA X es r
theorem Dt{e:Expr}{r:RE}(h:QE X e r):QEB X e r:=⟨h⟩
theorem dg{i j pos} : QEB X (.Constant (.int i) j pos) (rC (.int i)):=⟨bA⟩
theorem Ks(i:Nat){x:Str}{pos:Pos}(hN:X.N[i]?=some x:=by rfl)(hv:q_ X.env.scope x=true:=by rfl)(hd:(x==("__debug__":Str))=false:=by decide)(bg:(x==("__classdict__":Str))=false:=by decide):QEB X (.Name x pos) (agb i):=⟨qv i hN hv hd bg⟩
theorem Mf{op:Operator}{g:T->T->(OT->Prop)->Prop}{a b:Expr}{ra rb:RE}{pos:Pos}(ho:GO X (binaryOp op) g)(ha:QEB X a ra)(hb:QEB X b rb):QEB X (.BinOp a op b pos) (rOp g ra rb):=⟨bK ho ha.out hb.out⟩
theorem cQ:QAB X [] aeN:=⟨bF⟩
theorem bO{e:Expr}{es:List Expr}{a:RE}{r:RA}(ha:QEB X e a)(hr:QAB X es r)(hn:notStar e=true:=by rfl):QAB X (e::es) (ad5 a r):=⟨bx ha.out hr.out (aeK hn)⟩
theorem dN{es:List Expr}{r:RA}{pos:Pos}{k:Nat}(h:QAB X es r)(hz:es.length<=sizeLine:=by decide):QEB X (.Tuple es k pos) (agy r):=⟨cW h.out hz⟩
theorem nZ{es:List Expr}{r:RA}{pos:Pos}(h:QAB X es r)(hz:es.length<=sizeLine:=by decide):QEB X (.List es pos) (ahF r):=⟨d_ h.out hz⟩
def akx:T->T->(OT->Prop)->Prop
 |.int i,.int j,q=>ade i j/\q (.fz (.int (i*j)))
 |_,_,_=>False
theorem Vw:GO X (binaryOp .Mult) akx:=afB.imp λx y H Q hP=>by
 obtain⟨S,t,u,R,_,hx,hy,hg,k⟩:=hP;cases hx<;>try exact hg.elim
 cases hy<;>try exact hg.elim
 exact⟨_,_,rfl,rfl,hg.1,k H _ _ hg.2 (.refl _) (NR.fz (.int _))⟩
def alv(n:Nat)(gs:List T->List OT->(List OT->Prop)->Prop):T->List OT->(List OT->Prop)->Prop
 |.lst ts,o,q=>ts.length=n/\gs ts o q
 |_,_,_=>False
theorem aeF{pos:Pos}{m:Nat}{es:List Expr}{k:Nat}{gs:List T->List OT->(List OT->Prop)->Prop}{n:Nat}(hc:X.calm=true)(h:QGs X m es gs)(hn:(assignEach es X.env).length=n:=by rfl)(b9:(assignEach es X.env).findIdx? (·.1)=none:=by rfl):QG X m (.Tuple es k pos) (alv n gs):=(adA hc h hn b9).imp λv σ H Q hP=>by
 obtain⟨own,o,t,R,h,r,hg,k⟩:=hP;cases t<;>try exact hg.elim
 obtain⟨a,xs,rfl,e,r⟩:=r.lstI;exact⟨a,xs,rfl,SqL.of (dW _ _ e),r.len.trans hg.1,own,o,_,R,h,r,hg.2,k⟩
end
section
variable{a b c d e f x y:RS}{E:DT}{o:List OT}
theorem sq1(J:List OT->Prop)(k:∀o',J o'->y E o')(h:∀Y:List OT->Prop,(∀o',J o'->Y o')->jh x (λ_=>Y) E o):jh x y E o:=h (y E) k
theorem sq2(J:List OT->Prop)(k:∀o',J o'->y E o')(h:∀Y:List OT->Prop,(∀o',J o'->Y o')->jh a (jh x (λ_=>Y)) E o):jh a (jh x y) E o:=h (y E) k
theorem sq4(J:List OT->Prop)(k:∀o',J o'->y E o')(h:∀Y:List OT->Prop,(∀o',J o'->Y o')->jh a (jh b (jh c (jh x (λ_=>Y)))) E o):jh a (jh b (jh c (jh x y))) E o:=h (y E) k
theorem sq7(J:List OT->Prop)(k:∀o',J o'->y E o')(h:∀Y:List OT->Prop,(∀o',J o'->Y o')->jh a (jh b (jh c (jh d (jh e (jh f (jh x (λ_=>Y))))))) E o):jh a (jh b (jh c (jh d (jh e (jh f (jh x y)))))) E o:=h (y E) k
end
section
variable{X:Cx}
def adV(i:Nat)(a:RE):RS:=λE o=>match slot o i with|.fz (.int k)=>a o λy=>(match frz y with|.int j=>(Bd k/\Bd j)/\E.nx (o.set i (.fz (.int (k*j))))|_=>False)|_=>False
theorem Vl(i:Nat){x:Str}{br pos:Pos}{e:Expr}{re:RE}(hN:X.N.Nodup)(hx:Loc X.env.scope x)(he:QE X e re)(hi:X.N[i]?=some x:=by rfl)(hf:X.fn x=true\/X.env.scope.names.lookup x=some .local:=by first|exact .inl rfl|exact .inr rfl|assumption):QS X (.AugAssign (.Name x br) .Mult e pos) (adV i re):=(aaD hN hi hx he acP hf).imp λD σ H hP=>by
 obtain⟨own,o,E,h,hr,L⟩:=hP;unfold adV at hr;cases es:slot o i with
 |fz t =>
  rw[es]at hr;cases t<;>try exact hr.elim
  obtain⟨u,e1,r⟩:=h.get (gn es (by intro z;cases z));cases r;refine⟨_,e1,tQ.mk h hr λH1 v y q E1 r1=>?_⟩
  revert r1 q
  generalize frz y=t;intro q r1;cases t<;>try exact q.elim
  cases r1;obtain⟨⟨q1,q2⟩,q⟩:=q;refine⟨_,_,rfl,rfl,q1,q2,?_⟩;obtain⟨ah,h',S⟩:=(h.same E1).putA (.refl _) (NR.fz (.int _)) i;exact L.nx ah _ _ _ q ((bU E1).trans S) h'
 |_=>rw[es]at hr;exact hr.elim
end
end L2
namespace Ac
noncomputable def lw(t b:Int):Int×Int:=(t/(Int.gcd t b:Nat),b/(Int.gcd t b:Nat))
theorem ajM{t b:Int}(hb:0<b):(0:Int)<(Int.gcd t b:Nat):=by
 have:=Zxz t (show b≠0 by exact WS hb);lia
section
variable{κ:Type}[DecidableEq κ]
noncomputable def look(acc:List (κ×Int))(r:κ):Int:=((acc.find? λg=>decide (g.1=r)).map (·.2)).getD 0
noncomputable def put(acc:List (κ×Int))(r:κ)(y:Int):List (κ×Int):=if(acc.any λg=>decide (g.1=r))=true then acc.map (λg=>if g.1=r then(g.1,y)else g)else acc++[(r,y)]
def alG(gs:List (κ×Int)):List (κ×Int):=gs.foldl (λa g=>put a g.1 (look a g.1+g.2)) []
def ways(gs:List (κ×Int))(S:Int):List (κ×Int×Int):=((alG gs).filter λg=>decide (0<g.2)).map λg=>(g.1,lw g.2 S)
end
end Ac
namespace Rw
open Ac
def rep(r:List Int×Int):Γ:=r.1.map λt=>lw t r.2
noncomputable def gcL(ts:List Int)(b:Int):Int:=ts.foldl (λc t=>((Int.gcd t c:Nat):Int)) b
theorem gk:∀{ts:List Int}{b:Int},0<b->0<gcL ts b
 |[],_,h=>h
 |t::ts,b,h=>gk (ts:=ts) (ajM (t:=t) h)
theorem gw:∀{ts:List Int}{b:Int},gcL ts b ∣ b/\∀t∈ts,gcL ts b ∣ t
 |[],b=>⟨Int.dvd_refl b,by simp⟩
 |t::ts,b=>by
  obtain⟨h1,h2⟩:=gw (ts:=ts) (b:=((Int.gcd t b:Nat):Int));refine⟨Int.dvd_trans h1 (Q3 t b),λx hx=>?_⟩;rcases YU.mp hx with rfl|hx
  .exact Int.dvd_trans h1 (Int.gcd_dvd_left x b)
  .exact h2 x hx
theorem rT{ts:List Int}{b:Int}(h:0<b):gcL ts b<=b:=Int.le_of_dvd h gw.1
def iu(r:List Int×Int):List Int×Int:=(r.1.map λt=>t/gcL r.1 r.2,r.2/gcL r.1 r.2)
theorem jD(r:List Int×Int):(iu r).1.length=r.1.length:=by unfold iu;rw[ak]
noncomputable def gU(r:List Int×Int)(c:Β):List Int×Int:=(r.1.map λt=>t*c.1,r.2*c.2)
noncomputable def m_(r o:List Int×Int)(c:Β):List Int×Int :=
 (List.zipWith (λa b=>a*(o.2*c.2/((Int.gcd r.2 (o.2*c.2):Nat):Int))+b*(r.2/((Int.gcd r.2 (o.2*c.2):Nat):Int)*c.1)) r.1 o.1,r.2*(o.2*c.2/((Int.gcd r.2 (o.2*c.2):Nat):Int)))
structure Big(N:Nat)(r:List Int×Int):Prop where
 pos:0<r.2
 bot:r.2.natAbs<=N
 top:∀t∈r.1,t.natAbs<=N
theorem Big.le{N M:Nat}{r:List Int×Int}(h:Big N r)(hn:N<=M):Big M r:=⟨h.pos,aL h.bot hn,λt ht=>aL (h.top t ht) hn⟩
theorem P_{d t g x:Int}(h1:d ∣ t*x)(h2:d ∣ g*x):d ∣ ((Int.gcd t g:Nat):Int)*x:=by
 have h:=Int.dvd_coe_gcd h1 h2;rw[Int.gcd_mul_right]at h;rw[Th]at h;rcases Int.natAbs_eq x with e|e
 .rw[e];exact h
 .rw[e,Int.mul_neg];exact Int.dvd_neg.mpr h
theorem uW{d x:Int} : ∀{ts:List Int}{b:Int},d ∣ b*x->(∀t∈ts,d ∣ t*x)->d ∣ gcL ts b*x
 |[],_,h,_=>h
 |t::ts,b,h,k=>uW (ts:=ts) (P_ (k t aO) h) λu hu=>k u (aJ _ hu)
def Alk(r s:List Int×Int):Prop:=r.1.length=s.1.length/\∀(k:Nat)(a b:Int),r.1[k]?=some a->s.1[k]?=some b->a*s.2=b*r.2
theorem lE{r:List Int×Int}(h:0<r.2):gcL (iu r).1 (iu r).2=1:=by
 have g0:=gk (ts:=r.1) h;obtain⟨d1,d2⟩:=gw (ts:=r.1) (b:=r.2);have p:0<(iu r).2:=Zxy h (XY g0) d1;have q0:=gk (ts:=(iu r).1) p;obtain⟨e1,e2⟩:=gw (ts:=(iu r).1) (b:=(iu r).2);have df:gcL (iu r).1 (iu r).2*gcL r.1 r.2 ∣ gcL r.1 r.2*1:=by
  refine uW ?_ λt ht=>?_
  .obtain⟨u,hu⟩:=e1;have hu:r.2/gcL r.1 r.2=gcL (iu r).1 (iu r).2*u:=hu;refine⟨u,?_⟩;rw[Q1,Int.mul_right_comm,<- hu,Int.ediv_mul_cancel d1]
  .obtain⟨u,hu⟩:=e2 (t/gcL r.1 r.2) (YV.mpr ⟨t,ht,rfl⟩);refine⟨u,?_⟩;rw[Q1,Int.mul_right_comm,<- hu,Int.ediv_mul_cancel (d2 t ht)]
 rw[Q1]at df;have:=Int.le_of_dvd g0 df;have:gcL (iu r).1 (iu r).2<=1:=by
  refine Int.le_of_mul_le_mul_right (a:=gcL r.1 r.2) ?_ g0;lia
 lia
theorem least{N:Nat}{r s:List Int×Int}(hr:0<r.2)(g:gcL r.1 r.2=1)(a:Alk r s)(h:Big N s):Big N r:=by
 have d:r.2 ∣ gcL r.1 r.2*s.2:=uW ⟨s.2,rfl⟩ λt ht=>by
  obtain⟨k,hk,rfl⟩:=List.mem_iff_getElem.mp ht;have hs:k<s.1.length:=by rw[<- a.1];exact hk
  rw[a.2 k _ _ (aj hk) (aj hs)];exact⟨_,Int.mul_comm _ _⟩
 rw[g,JP]at d;obtain⟨m,hm⟩:=d;have m0:0<m:=Zwz (by rw[<- hm];exact h.pos) hr;refine⟨hr,?_,λt ht=>?_⟩
 .have:=Int.le_of_dvd h.pos ⟨m,hm⟩;have:=h.bot;lia
 .obtain⟨k,hk,rfl⟩:=List.mem_iff_getElem.mp ht;have hs:k<s.1.length:=by rw[<- a.1];exact hk
  have e:=a.2 k _ _ (aj hk) (aj hs);rw[hm,Int.mul_comm r.2 m,<- Int.mul_assoc]at e;have e:=Int.eq_of_mul_eq_mul_right (WS hr) e;have b:=h.top _ (aU hs);rw[<- e,VY]at b;exact aL (Nat.le_mul_of_pos_right _ (by omega)) b
noncomputable def gr(N:Nat):Nat->Nat
 |0=>N
 |m+1=>2*(gr N m*gr N m)
noncomputable def sg(f:Nat->Rat):Nat->Rat
 |0=>0
 |n+1=>sg f n+f n
noncomputable def sz(f:Nat->Int):Nat->Int
 |0=>0
 |n+1=>sz f n+f n
theorem fX(f g:Nat->Rat):∀n,sg (λj=>f j+g j) n=sg f n+sg g n
 |0=>by unfold sg;grind
 |n+1=>by unfold sg;rw[fX f g n];grind
theorem fG(c:Rat)(f:Nat->Rat):∀n,sg (λj=>c*f j) n=c*sg f n
 |0=>by unfold sg;grind
 |n+1=>by unfold sg;rw[fG c f n];grind
theorem bW{f g:Nat->Rat} : ∀{n},(∀j,j<n->f j=g j)->sg f n=sg g n
 |0,_=>rfl
 |n+1,h=>by unfold sg;rw[bW λj hj=>h j (WU _ hj),h n (X1 _)]
theorem gD:∀n,sg (λ_=>0) n=0
 |0=>rfl
 |n+1=>by unfold sg;rw[gD n];grind
theorem gW{v:Nat->Rat}{k:Nat} : ∀{n},sg (λj=>(if j=k then 1 else 0)*v j) n=if k<n then v k else 0
 |0=>by rw[ZZ (WV _)];rfl
 |n+1=>by
  unfold sg;rw[gW];by_cases h:k<n
  .rw[ZY h,ZZ (UT h),ZY (WU _ h)];grind
  .by_cases e:n=k
   .subst e;rw[ZZ h,ZY rfl,ZY (X1 _)];grind
   .rw[ZZ h,ZZ e,ZZ (by lia)];grind
theorem V6(f:Nat->Nat->Rat)(m:Nat):∀n,sg (λk=>sg (λl=>f k l) m) n=sg (λl=>sg (λk=>f k l) n) m
 |0=>by
  show(0:Rat)=sg (λ_=>0) m;rw[gD]
 |n+1=>by
  show sg (λk=>sg (λl=>f k l) m) n+sg (λl=>f n l) m=sg (λl=>sg (λk=>f k l) n+f n l) m;rw[fX,V6 f m n]
theorem FP(f:Nat->Int):∀n,((sz f n:Int):Rat)=sg (λk=>(f k:Rat)) n
 |0=>Zzr
 |n+1=>by unfold sz sg;rw[Rat.intCast_add,FP f n]
theorem Ir{f:Nat->Int}{B:Nat} : ∀{n},(∀k,k<n->(f k).natAbs<=B)->(sz f n).natAbs<=n*B
 |0,_=>by unfold sz;simp
 |n+1,h=>by
  unfold sz;have:=Ir (n:=n) λk hk=>h k (WU _ hk);have:=h n (X1 _);rw[Nat.add_mul,Q4];omega
theorem ZW(f g:Nat->Int):∀n,sz (λk=>f k-g k) n=sz f n-sz g n
 |0=>rfl
 |n+1=>by unfold sz;rw[ZW f g n];lia
theorem RV{f g:Nat->Int} : ∀{n},(∀j,j<n->f j=g j)->sz f n=sz g n
 |0,_=>rfl
 |n+1,h=>by unfold sz;rw[RV λj hj=>h j (WU _ hj),h n (X1 _)]
theorem Rv{α:Type}(q:α->Bool):∀L:List α,(L.filter q).length+(L.filter λx=>!q x).length=L.length
 |[]=>rfl
 |x::L=>by
  have:=Rv q L;rw[List.filter_cons,List.filter_cons];cases h:q x with
  |true=>rw[ZY rfl,ZZ (by simp),List.length_cons,List.length_cons];lia
  |false=>rw[ZZ (by simp),ZY (by simp),List.length_cons,List.length_cons];lia
theorem Yo{α:Type}(f:α->Nat)(n:Nat):∀(W:Nat)(L:List α),(∀x∈L,f x<W)->W*n<L.length->∃v,n<(L.filter λx=>f x==v).length
 |0,L,h,hl=>by
  cases L with
  |nil=>simp at hl
  |cons x L=>exact absurd (h x aO) (WV _)
 |W+1,L,h,hl=>by
  by_cases e:n<(L.filter λx=>f x==W).length
  .exact⟨W,e⟩
  .have pl:=Rv (λx=>f x==W) L;rw[Nat.add_mul,Q4]at hl;obtain⟨v,hv⟩:=Yo f n W (L.filter λx=>!(f x==W)) (λx hx=>by
    obtain⟨a,b⟩:=List.mem_filter.mp hx;have:=h x a;have ne:f x≠W:=λz=>by rw[z]at b;simp at b
    lia) (by omega)
   exact⟨v,aR hv (List.Sublist.length_le (List.Sublist.filter _ List.filter_sublist))⟩
theorem digits_inj{W:Nat}(hW:0<W):∀(n c d:Nat),c<W^n->d<W^n->(∀k,k<n->c/W^k%W=d/W^k%W)->c=d
 |0,c,d,hc,hd,_=>by
  rw[Nat.pow_zero]at hc hd;lia
 |n+1,c,d,hc,hd,h=>by
  have h0:=h 0 (T1 _);rw[Nat.pow_zero,Nat.div_one,Nat.div_one]at h0;have e:=digits_inj hW n (c/W) (d/W) (Nat.div_lt_of_lt_mul (by rw[TU,<- Nat.pow_succ];exact hc)) (Nat.div_lt_of_lt_mul (by rw[TU,<- Nat.pow_succ];exact hd)) λk hk=>by
   have:=h (k+1) (Nat.succ_lt_succ hk);rw[Nat.div_div_eq_div_mul,Nat.div_div_eq_div_mul,<- Nat.pow_succ'];exact this
  rw[<- Nat.div_add_mod c W,<- Nat.div_add_mod d W,e,h0]
theorem X4{p N:Nat}(hN:1<=N):(2*((p+1)*((2*(p+1)*N)^p*N))+1)^p<((2*(p+1)*N)^p+1)^(p+1):=by
 have w:2*((p+1)*((2*(p+1)*N)^p*N))+1<=2*(p+1)*N*((2*(p+1)*N)^p+1):=by
  have e:2*((p+1)*((2*(p+1)*N)^p*N))=2*(p+1)*N*(2*(p+1)*N)^p:=by ac_rfl
  have x1:1<=2*(p+1)*N:=WH (show 1<=2*(p+1)by lia) hN;rw[e];generalize 2*(p+1)*N=X at *;rw[Nat.mul_add,Nat.mul_one];exact Nat.add_le_add_left x1 _
 refine Y3 (Zxx w p) ?_;rw[Nat.mul_pow,Nat.pow_succ,TU];exact Nat.mul_lt_mul_of_pos_left (X1 _) (Zzz (T1 _))
theorem S6{p N:Nat}{C:Nat->Nat->Int}(hN:1<=N)(hC:∀k l,k<=p->l<p->(C k l).natAbs<=N) :
  ∃ax:Nat->Int,(∃k,k<=p/\ax k≠0)/\(∀k,(ax k).natAbs<=(2*(p+1)*N)^p)/\∀l,l<p->sz (λk=>ax k*C k l) (p+1)=0:=by
 have ps:=X4 (p:=p) hN;generalize hB:(2*(p+1)*N)^p=B at *;generalize hO:(p+1)*(B*N)=O at *;have mE:∀c k:Nat,c/(B+1)^k%(B+1)<=B:=λc k=>UZ (Nat.mod_lt _ (T1 _));have eb:∀l c,l<p->(sz (λk=>((c/(B+1)^k%(B+1):Nat):Int)*C k l) (p+1)).natAbs<=O:=λl c hl=>by
  rw[<- hO];refine Ir λk hk=>?_;rw[VY,XG];exact WH (mE c k) (hC k l (UZ hk) hl)
 have all:∀q,q<=p->∃L:List Nat,L.Nodup/\(∀c∈L,c<(B+1)^(p+1))/\(∀l,l<q->∀c∈L,∀d∈L,sz (λk=>((c/(B+1)^k%(B+1):Nat):Int)*C k l) (p+1)=sz (λk=>((d/(B+1)^k%(B+1):Nat):Int)*C k l) (p+1))/\(2*O+1)^(p-q)<L.length:=by
  intro q
  induction q with
  |zero=>exact λ_=>⟨List.range ((B+1)^(p+1)),List.nodup_range,λc hc=>List.mem_range.mp hc,λl hl=>absurd hl (WV _),by rw[WJ,Nat.sub_zero];exact ps⟩
  |succ q ih =>
   intro hq;obtain⟨L,nd,lt,eq,ln⟩:=ih (aL (Xs _) hq);have e1:(2*O+1)^(p-q)=(2*O+1)*(2*O+1)^(p-(q+1)):=by rw[<- Nat.pow_succ',show(p-(q+1)).succ=p-q by lia]
   rw[e1]at ln;obtain⟨v,hv⟩:=Yo (λc=>(sz (λk=>((c/(B+1)^k%(B+1):Nat):Int)*C k q) (p+1)+O).toNat) _ _ L (λc _=>by
    have:=eb q c (aR (X1 _) hq);omega) ln
   refine⟨_,List.Pairwise.sublist List.filter_sublist nd,λc hc=>lt c (List.mem_filter.mp hc).1,λl hl c hc d hd=>?_,hv⟩;obtain⟨c1,c2⟩:=List.mem_filter.mp hc;obtain⟨d1,d2⟩:=List.mem_filter.mp hd;by_cases e:l<q
   .exact eq l e c c1 d d1
   .have e:l=q:=by lia
    subst e;have c2:=beq_iff_eq.mp c2;have d2:=beq_iff_eq.mp d2;have:=eb l c (aR hl hq);have:=eb l d (aR hl hq);omega
 obtain⟨L,nd,lt,eq,ln⟩:=all p (aG p);rw[Zzy,Nat.pow_zero]at ln
 match L,nd,lt,eq,ln with
 |c::d::L,nd,lt,eq,_ =>
  have ne:c≠d:=λz=>by
   rw[z]at nd;exact(List.nodup_cons.mp nd).1 aO
  refine⟨λk=>((c/(B+1)^k%(B+1):Nat):Int)-((d/(B+1)^k%(B+1):Nat):Int),?_,λk=>?_,λl hl=>?_⟩
  .by_cases h:∀k,k<p+1->c/(B+1)^k%(B+1)=d/(B+1)^k%(B+1)
   .exact absurd (digits_inj (T1 B) (p+1) c d (lt c aO) (lt d (aJ _ aO)) h) ne
   .obtain⟨k,hk⟩:=Classical.not_forall.mp h;obtain⟨k1,k2⟩:=Classical.not_imp.mp hk;exact⟨k,by exact UZ k1,λz=>k2 (by
     have z:((c/(B+1)^k%(B+1):Nat):Int)-((d/(B+1)^k%(B+1):Nat):Int)=0:=z;generalize c/(B+1)^k%(B+1)=x at *;generalize d/(B+1)^k%(B+1)=y at *;lia)⟩
  .have:=mE c k;have:=mE d k;show(((c/(B+1)^k%(B+1):Nat):Int)-((d/(B+1)^k%(B+1):Nat):Int)).natAbs<=B;omega
  .rw[RV (g:=λk=>((c/(B+1)^k%(B+1):Nat):Int)*C k l-((d/(B+1)^k%(B+1):Nat):Int)*C k l) λk _=>Int.sub_mul _ _ _,ZW,eq l hl c aO d (aJ _ aO)];exact Int.sub_self _
 |[_],_,_,_,ln=>exact absurd ln (by simp)
 |[],_,_,_,ln=>exact absurd ln (by simp)
structure fP(A:Nat->Nat->Int)(b:Nat->Int)(m wd:Nat)(R:Nat->Nat->Rat)(p:Nat)(pv s:Nat->Nat):Prop where
 pm:p<=m
 sm:∀i,i<m->s i<m
 pw:∀l,l<p->pv l<wd
 unit:∀i l,i<m->l<p->R i (pv l)=if i=l then 1 else 0
 dec:∀i j,i<m->j<wd->(A (s i) j:Rat)=(if i<p then 0 else(b (s i):Rat)*R i j)+sg (λl=>(A (s i) (pv l):Rat)*R l j) p
 ind:∀ax:Nat->Rat,(∀j,j<wd->sg (λk=>ax k*(A (s k) j:Rat)) p=0)->∀k,k<p->ax k=0
section
variable{A:Nat->Nat->Int}{b:Nat->Int}{m wd p:Nat}{R:Nat->Nat->Rat}{pv s:Nat->Nat}
theorem fP.comb(h:fP A b m wd R p pv s)(ax:Nat->Rat){j:Nat}(hj:j<wd):sg (λk=>ax k*(A (s k) j:Rat)) p=sg (λl=>sg (λk=>ax k*(A (s k) (pv l):Rat)) p*R l j) p:=by
 have pm:=h.pm;rw[bW (g:=λk=>sg (λl=>ax k*(A (s k) (pv l):Rat)*R l j) p) λk hk=>?_]
 .rw[V6];refine bW λl hl=>?_;rw[bW (g:=λk=>R l j*(ax k*(A (s k) (pv l):Rat))) λk _=>XU _ _,fG,XU]
 .rw[h.dec k j (aR hk pm) hj,ZY hk,Rat.zero_add,<- fG];exact bW λl _=>(Rat.mul_assoc _ _ _).symm
theorem gZ{x:Int}(h:x≠0):(x:Rat)≠0:=λz=>h (Rat.intCast_inj.mp (z.trans Rat.intCast_zero.symm))
theorem ah7{m N q:Nat}(hN:1<=N)(hq:q+1<=m):(2*(q+1)*N)^(q+1)<=(2*m*N)^m:=by
 have x:2*(q+1)*N<=2*m*N:=WH (by lia) (aG N);have y:1<=2*m*N:=WH (show 1<=2*m by lia) hN;exact aL (Zxx x _) (XT y hq)
theorem abS{m N q:Nat}(hN:1<=N)(hq:q+1<=m):(q+1)*((2*(q+1)*N)^q*N)<=(2*m*N)^m:=by
 refine aL ?_ (ah7 hN hq);have e:(2*(q+1)*N)^(q+1)=2*((q+1)*((2*(q+1)*N)^q*N)):=by
  rw[Nat.pow_succ];ac_rfl
 lia
theorem fP.bound{N:Nat}(h:fP A b m wd R p pv s)(hN:1<=N)(hA:∀i j,i<m->j<wd->(A i j).natAbs<=N)(hb:∀i,i<m->0<b i/\(b i).natAbs<=N){i:Nat}(hi:i<m) :
    ∃(v:Nat->Int)(u:Int),u≠0/\u.natAbs<=(2*m*N)^m/\(∀j,j<wd->(v j).natAbs<=(2*m*N)^m)/\∀j,j<wd->R i j*(u:Rat)=(v j:Rat):=by
  have pm:=h.pm;by_cases ip:i<p
  . obtain⟨q,rfl⟩ : ∃q,p=q+1:=⟨p-1,by lia⟩
    obtain⟨ax,⟨k0,hV,fS⟩,bl,zr⟩:=S6 (p:=q) (C:=λk l=>A (s k) (if l<i then pv l else pv (l+1))) hN λk l hk hl=>by
      refine hA _ _ (h.sm k (by lia)) ?_;by_cases e:l<i
      . rw[ZY e];exact h.pw l (WU _ hl)
      . rw[ZZ e];exact h.pw (l+1) (Nat.succ_lt_succ hl)
    have cast:∀j,((sz (λk=>ax k*A (s k) j) (q+1):Int):Rat)=sg (λk=>(ax k:Rat)*(A (s k) j:Rat)) (q+1):=λj=>by
      rw[FP];exact bW λk _=>XV _ _
    have zl:∀l,l<q+1->l≠i->sz (λk=>ax k*A (s k) (pv l)) (q+1)=0:=λl hl ne=>by
      by_cases e:l<i
      . have:=zr l (aR e (UZ ip))
        rw[ZY e]at this;exact this
      . have:=zr (l-1) (by omega)
        rw[ZZ (by lia),show l-1+1=l by lia]at this;exact this
    have df:∀j,j<wd->((sz (λk=>ax k*A (s k) j) (q+1):Int):Rat)=((sz (λk=>ax k*A (s k) (pv i)) (q+1):Int):Rat)*R i j:=λj hj=>by
      rw[cast,h.comb (λk=>(ax k:Rat)) hj,bW (g:=λl=>(if l=i then 1 else 0)*(((sz (λk=>ax k*A (s k) (pv i)) (q+1):Int):Rat)*R l j)) λl hl=>?_,gW,ZY ip];rw[<- cast (pv l)];by_cases e:l=i
      . rw[ZY e,e,Rat.one_mul]
      . rw[ZZ e,zl l hl e,Zzr];grind
    refine⟨λj=>sz (λk=>ax k*A (s k) j) (q+1),sz (λk=>ax k*A (s k) (pv i)) (q+1),λz=>?_,?_,λj hj=>?_,λj hj=>?_⟩
    . have:=h.ind (λk=>(ax k:Rat)) (λj hj=>by
        rw[<- cast,df j hj,z,Zzr];grind) k0 (Y3 hV (X1 _))
      exact gZ fS this
    . exact aL (Ir λk hk=>by rw[VY];exact WH (bl k) (hA _ _ (h.sm k (aR hk pm)) (h.pw i ip))) (abS hN (by omega))
    . exact aL (Ir λk hk=>by rw[VY];exact WH (bl k) (hA _ _ (h.sm k (aR hk pm)) hj)) (abS hN (by omega))
    . rw[df j hj,XU]
  . obtain⟨ax,⟨k0,hV,fS⟩,bl,zr⟩:=S6 (p:=p) (C:=λk l=>A (s (if k<p then k else i)) (pv l)) hN λk l hk hl=>by
      refine hA _ _ (h.sm _ ?_) (h.pw l hl);by_cases e:k<p
      . rw[ZY e];exact aR e pm
      . rw[ZZ e];exact hi
    have cast:∀j,((sz (λk=>ax k*A (s (if k<p then k else i)) j) (p+1):Int):Rat)=sg (λk=>(ax k:Rat)*(A (s k) j:Rat)) p+(ax p:Rat)*(A (s i) j:Rat):=λj=>by
      rw[FP];show sg _ p+((ax p*A (s (if p<p then p else i)) j:Int):Rat)=_;rw[ZZ (X9 _),XV,bW (g:=λk=>(ax k:Rat)*(A (s k) j:Rat)) λk hk=>by rw[ZY hk,XV]]
    have df:∀j,j<wd->((sz (λk=>ax k*A (s (if k<p then k else i)) j) (p+1):Int):Rat)=((ax p*b (s i):Int):Rat)*R i j:=λj hj=>by
      have e0:sg (λl=>sg (λk=>(ax k:Rat)*(A (s k) (pv l):Rat)) p*R l j) p+(ax p:Rat)*sg (λl=>(A (s i) (pv l):Rat)*R l j) p=0:=by
        rw[<- fG,<- fX,bW (g:=λ_=>0) λl hl=>?_,gD];have:=cast (pv l);rw[zr l hl,Zzr]at this
        calc _=(sg (λk=>(ax k:Rat)*(A (s k) (pv l):Rat)) p+(ax p:Rat)*(A (s i) (pv l):Rat))*R l j:=by grind
          _=0:=by rw[<- this];grind
      rw[cast,h.comb (λk=>(ax k:Rat)) hj,h.dec i j hi hj,ZZ ip,XV]
      grind
    have bp:=hb _ (h.sm i hi);have lp:ax p≠0:=λz=>by
      have kp:k0<p:=by
        by_cases e:k0=p
        . rw[e,z]at fS;exact absurd rfl fS
        . exact XX hV e
      have:=h.ind (λk=>(ax k:Rat)) (λj hj=>by
        have c:=cast j;rw[df j hj,z,Int.zero_mul,Zzr]at c
        grind) k0 kp
      exact gZ fS this
    refine⟨λj=>sz (λk=>ax k*A (s (if k<p then k else i)) j) (p+1),ax p*b (s i),λz=>?_,?_,λj hj=>?_,λj hj=>?_⟩
    . rcases Int.mul_eq_zero.mp z with y|y
      . exact lp y
      . lia
    . rw[VY]
      refine aL (WH (bl p) bp.2) (aL ?_ (abS hN (show p+1<=m by lia)));exact Zxw _ (T1 p)
    . exact aL (Ir λk hk=>by
        rw[VY];refine WH (bl k) (hA _ _ (h.sm _ ?_) hj);by_cases e:k<p
        . rw[ZY e];exact aR e pm
        . rw[ZZ e];exact hi) (abS hN (show p+1<=m by lia))
    . rw[df j hj,XU]
theorem fP.congr(h:fP A b m wd R p pv s){R':Nat->Nat->Rat}(e:∀i j,i<m->R i j=R' i j):fP A b m wd R' p pv s:=by
 have pm:=h.pm;refine⟨h.pm,h.sm,h.pw,λi l hi hl=>by rw[<- e i _ hi];exact h.unit i l hi hl,λi j hi hj=>?_,h.ind⟩;rw[h.dec i j hi hj,e i j hi,bW λl hl=>by rw[e l j (aR hl pm)]]
theorem fP.zero(hb:∀i,i<m->0<b i):fP A b m wd (λi j=>(A i j:Rat)/(b i:Rat)) 0 pv id:=by
 refine⟨aZ _,λi hi=>hi,λl hl=>absurd hl (WV _),λi l _ hl=>absurd hl (WV _),λi j hi hj=>?_,λax _ k hk=>absurd hk (WV _)⟩;rw[ZZ (WV _)];have:=gZ (WS (hb i hi));show(A i j:Rat)=(b i:Rat)*((A i j:Rat)/(b i:Rat))+0
 grind
def sw(p q x:Nat):Nat:=if x=p then q else if x=q then p else x
theorem fP.swap(h:fP A b m wd R p pv s){q:Nat}(hp:p<=q)(hq:q<m){R':Nat->Nat->Rat}(hR:∀i j,i<m->j<wd->R' i j=R (sw p q i) j):fP A b m wd R' p pv (λi=>s (sw p q i)):=by
 have pm:=h.pm;have sl:∀l,l<p->sw p q l=l:=λl hl=>by unfold sw;rw[ZZ (aQ hl),ZZ (by lia)]
 have sm:∀i,i<m->sw p q i<m:=λi hi=>by
  unfold sw;split
  .exact hq
  .split<;>omega
 have sp:∀i,(sw p q i<p)↔i<p:=λi=>by
  unfold sw;split
  .lia
  .split<;>lia
 refine⟨pm,λi hi=>h.sm _ (sm i hi),h.pw,λi l hi hl=>?_,λi j hi hj=>?_,λax hz=>?_⟩
 .rw[hR i _ hi (h.pw l hl),h.unit _ l (sm i hi) hl];by_cases e:i=l
  .rw[ZY e,e,ZY (sl l hl)]
  .rw[ZZ e,ZZ λz=>e ?_];have:i<p:=(sp i).mp (Y3 (WG z) hl);rw[<- z,sl i this]
 .rw[h.dec _ j (sm i hi) hj,hR i j hi hj]
  congr 1
  .by_cases e:i<p
   .rw[ZY e,ZY ((sp i).mpr e)]
   .rw[ZZ e,ZZ λz=>e ((sp i).mp z)]
  .exact bW λl hl=>by rw[hR l j (aR hl pm) hj,sl l hl]
 .exact h.ind ax λj hj=>by
   rw[<- hz j hj];exact bW λk hk=>by rw[sl k hk]
theorem fP.pivot(h:fP A b m wd R p pv s)(hp:p<m)(hb:∀i,i<m->0<b i){c:Nat}(hc:c<wd)(h0:R p c≠0){R':Nat->Nat->Rat}(kR:∀j,j<wd->R' p j*R p c=R p j)(k6:∀i j,i<m->i≠p->j<wd->R' i j=R i j-R i c*R' p j) :
  fP A b m wd R' (p+1) (λl=>if l=p then c else pv l) s:=by
 have pm:=h.pm;have one:R' p c=1:=by
  have:=kR c hc
  grind
 have zp:∀l,l<p->R' p (pv l)=0:=λl hl=>by
  have:=kR (pv l) (h.pw l hl);rw[h.unit p l hp hl,ZZ (UT hl)]at this
  grind
 have pvl:∀l,l<p->(if l=p then c else pv l)=pv l:=λl hl=>ZZ (aQ hl);have old:∀i j,i<m->i≠p->j<wd->R i j=R' i j+R i c*R' p j:=λi j hi ne hj=>by rw[k6 i j hi ne hj];grind
 have dec:∀i j,i<m->j<wd->(A (s i) j:Rat)=(if i<p+1 then 0 else(b (s i):Rat)*R' i j)+sg (λl=>(A (s i) (if l=p then c else pv l):Rat)*R' l j) (p+1):=λi j hi hj=>by
  have dj:=h.dec i j hi hj;have dc:=h.dec i c hi hc;have ej:sg (λl=>(A (s i) (pv l):Rat)*R l j) p=sg (λl=>(A (s i) (pv l):Rat)*R' l j) p+R' p j*sg (λl=>(A (s i) (pv l):Rat)*R l c) p:=by
   rw[<- fG,<- fX];exact bW λl hl=>by rw[old l j (Tk hl hp) (aQ hl) hj];grind
  rw[ej]at dj;show _=_+(sg _ p+(A (s i) (if p=p then c else pv p):Rat)*R' p j);rw[ZY rfl,bW (g:=λl=>(A (s i) (pv l):Rat)*R' l j) λl hl=>by rw[pvl l hl]];by_cases e:i<p
  .rw[ZY (WU _ e)];rw[ZY e]at dj dc
   grind
  .rw[ZZ e]at dj dc;by_cases e2:i=p
   .rw[ZY (by lia)];subst e2;have:=kR j hj
    grind
   .rw[ZZ (by lia)];have:=old i j hi e2 hj
    grind
 refine⟨hp,h.sm,λl hl=>?_,λi l hi hl=>?_,dec,λax hz=>?_⟩
 .by_cases e:l=p
  .show(if l=p then c else pv l)<wd;rw[ZY e];exact hc
  .show(if l=p then c else pv l)<wd;rw[ZZ e];exact h.pw l (XX (UZ hl) e)
 .show R' i (if l=p then c else pv l)=_;by_cases e:l=p
  .rw[ZY e,e];by_cases ip:i=p
   .rw[ZY ip,ip];exact one
   .rw[ZZ ip,k6 i c hi ip hc,one];grind
  .rw[ZZ e];have iX:l<p:=by exact XX (UZ hl) e
   by_cases ip:i=p
   .rw[ip,zp l iX,ZZ (Ne.symm e)]
   .rw[k6 i _ hi ip (h.pw l iX),zp l iX,h.unit i l hi iX];grind
 .have lp:ax p=0:=by
   by_cases z:ax p=0
   .exact z
   .exfalso

    have hj:∀j,j<wd->sg (λk=>ax k*(A (s k) j:Rat)) p=-(ax p*(A (s p) j:Rat)):=λj hj=>by
     have:sg (λk=>ax k*(A (s k) j:Rat)) p+ax p*(A (s p) j:Rat)=0:=hz j hj
     grind
    have dm:=h.comb ax hc;rw[hj c hc,bW (g:=λl=>-(ax p)*((A (s p) (pv l):Rat)*R l c)) λl hl=>by rw[hj _ (h.pw l hl)];grind,fG]at dm;have dc:=h.dec p c hp hc;rw[ZZ (X9 p)]at dc;have b0:=gZ (WS (hb _ (h.sm p hp)));have:ax p*((b (s p):Rat)*R p c)=0:=by rw[dc]at dm;grind
    grind
  intro k hk;by_cases e:k=p
  .rw[e];exact lp
  .refine h.ind ax (λj hj=>?_) k (XX (UZ hk) e);have:sg (λk=>ax k*(A (s k) j:Rat)) p+ax p*(A (s p) j:Rat)=0:=hz j hj;rw[lp]at this
   grind
end
noncomputable def vr(r:List Int×Int)(j:Nat):Rat:=((r.1.getD j 0:Int):Rat)/(r.2:Rat)
theorem Kq{f:Int->Int}(h0:f 0=0)(xs:List Int)(j:Nat):(xs.map f).getD j 0=f (xs.getD j 0):=by
 rw[au,au,aq];cases xs[j]? with
 |none=>exact h0.symm
 |some t=>rfl
theorem pJ{r:List Int×Int}(h:0<r.2)(j:Nat):vr (iu r) j=vr r j:=by
 have g0:=gk (ts:=r.1) h;obtain⟨d1,d2⟩:=gw (ts:=r.1) (b:=r.2);have e1:(iu r).1.getD j 0=r.1.getD j 0/gcL r.1 r.2:=Kq (f:=λt=>t/gcL r.1 r.2) (Int.zero_ediv _) r.1 j;have d3:gcL r.1 r.2 ∣ r.1.getD j 0:=by
  rw[au];cases e:r.1[j]? with
  |none=>exact⟨0,by rw[Int.mul_zero];rfl⟩
  |some t=>exact d2 t (aC e)
 have e2:(iu r).2=r.2/gcL r.1 r.2:=rfl;unfold vr;rw[e1,e2];generalize r.1.getD j 0=t at *;generalize gcL r.1 r.2=g at *;obtain⟨u,hu⟩:=d3;obtain⟨v,hv⟩:=d1;rw[hu,hv,Zzq _ (WS g0),Zzq _ (WS g0),XV,XV];have v0:v≠0:=λz=>by rw[hv,z,Int.mul_zero]at h;lia
 have:=gZ v0;have:=gZ (WS g0)
 grind
theorem jo{r:List Int×Int}{c:Β}(h:0<r.2)(hc:0<c.2)(j:Nat):vr (gU r c) j=vr r j*((c.1:Rat)/(c.2:Rat)):=by
 have e1:(gU r c).1.getD j 0=r.1.getD j 0*c.1:=Kq (f:=λt=>t*c.1) (Int.zero_mul _) r.1 j;have e2:(gU r c).2=r.2*c.2:=rfl;unfold vr;rw[e1,e2,XV,XV];have:=gZ (WS h);have:=gZ (WS hc)
 grind
theorem mU{r p:List Int×Int}{c:Β}(hr:0<r.2)(hp:0<p.2)(hc:0<c.2)(hl:r.1.length=p.1.length)(j:Nat):vr (m_ r p c) j=vr r j+((c.1:Rat)/(c.2:Rat))*vr p j:=by
 have hB:=XZ hp hc;have g0:=ajM (t:=r.2) hB;obtain⟨u,hu⟩:=Int.gcd_dvd_left r.2 (p.2*c.2);obtain⟨v,hv⟩:=Q3 r.2 (p.2*c.2);have es:m_ r p c=(List.zipWith (λx y=>x*v+y*(u*c.1)) r.1 p.1,r.2*v):=by
  unfold m_;generalize((Int.gcd r.2 (p.2*c.2):Nat):Int)=g at g0 hu hv ⊢;have e1:p.2*c.2/g=v:=by rw[hv,Zzq _ (WS g0)]
  have e2:r.2/g=u:=by
   conv=>lhs;rw[hu]
   exact Zzq _ (WS g0)
  rw[e1,e2]
 generalize((Int.gcd r.2 (p.2*c.2):Nat):Int)=g at g0 hu hv;have v0:0<v:=Zwz (by rw[<- hv];exact hB) g0;have ez:(List.zipWith (λx y=>x*v+y*(u*c.1)) r.1 p.1).getD j 0=r.1.getD j 0*v+p.1.getD j 0*(u*c.1):=by
  rw[au,au,au,Zyq];by_cases e:j<r.1.length
  .rw[aj e,aj (aR e (WG hl))];rfl
  .rw[aM (VU e),aM (by lia)];show(0:Int)=0*v+0*(u*c.1);rw[Int.zero_mul,Int.zero_mul];rfl
 rw[es];unfold vr;show((List.zipWith (λx y=>x*v+y*(u*c.1)) r.1 p.1).getD j 0:Rat)/((r.2*v:Int):Rat)=_;rw[ez];generalize r.1.getD j 0=x;generalize p.1.getD j 0=y;have hu':(r.2:Rat)=(g:Rat)*(u:Rat):=by rw[<- XV,<- hu]
 have kN:(p.2:Rat)*(c.2:Rat)=(g:Rat)*(v:Rat):=by rw[<- XV,<- XV,hv]
 have r0:=gZ (WS hr);have p0:=gZ (WS hp);have c0:=gZ (WS hc);have q0:=gZ (WS v0);have k0:=gZ (WS g0);rw[Rat.intCast_add,XV,XV,XV,XV];generalize(r.2:Rat)=r2 at *;generalize(p.2:Rat)=p2 at *;generalize(c.2:Rat)=c2 at *;generalize(c.1:Rat)=c1 at *;generalize(g:Rat)=gg at *;generalize(u:Rat)=uu at *;generalize(v:Rat)=vv at *;generalize(x:Rat)=xx at *;generalize(y:Rat)=yy at *;have e1:(xx*vv+yy*(uu*c1))/(r2*vv)=xx/r2+yy*(uu*c1)/(r2*vv):=by grind
 have e2:yy*(uu*c1)/(r2*vv)=c1/c2*(yy/p2):=by
  have:uu*(c2*p2)=r2*vv:=by rw[hu',XU c2 p2,kN];grind
  grind
 rw[e1,e2]
theorem mZ{M wd:Nat}{r:List Int×Int}(hr:0<r.2)(g:gcL r.1 r.2=1)(hw:r.1.length=wd){v:Nat->Int}{u:Int}(u0:u≠0)(ub:u.natAbs<=M)(vb:∀j,j<wd->(v j).natAbs<=M)(e:∀j,j<wd->vr r j*(u:Rat)=(v j:Rat)):Big M r:=by
 refine least (s:=((List.range wd).map λj=>v j*u.sign,u.natAbs)) hr g ⟨?_,λk a b ha hb=>?_⟩ ⟨?_,?_,λt ht=>?_⟩
 .show r.1.length=((List.range wd).map λj=>v j*u.sign).length;rw[hw,ak,WJ]
 .have kw:k<wd:=by rw[<- hw];exact(ao.mp ha).1
  have hb:((List.range wd).map λj=>v j*u.sign)[k]?=some b:=hb;rw[aq,Up kw]at hb;cases hb;show a*((u.natAbs:Nat):Int)=v k*u.sign*r.2;have ek:=e k kw;unfold vr at ek;rw[au,ha]at ek;have ek:(a:Rat)/(r.2:Rat)*(u:Rat)=(v k:Rat):=ek;have r0:=gZ (WS hr);have k2:a*u=v k*r.2:=by
   refine Rat.intCast_inj.mp ?_;rw[XV,XV]
   grind
  have k1:((u.natAbs:Nat):Int)=u*u.sign:=(Int.mul_sign_self u).symm;rw[k1,<- Int.mul_assoc,k2];ac_rfl
 .show(0:Int)<(u.natAbs:Nat);lia
 .show(((u.natAbs:Nat):Int)).natAbs<=M;rw[XG];exact ub
 .obtain⟨j,hj,rfl⟩:=YV.mp ht;rw[VY,Int.natAbs_sign_of_ne_zero u0,Nat.mul_one];exact vb j (List.mem_range.mp hj)
end Rw
namespace K31
open PySem PyProof.Rows L2
noncomputable abbrev zK:Stmt:=top 10
abbrev iG:Φ:=["thing"]
abbrev iC:Str:="is_whole"
abbrev Ue:Φ:=["thing"]
theorem RX:bL Ue iG (bH zK):=fsc
noncomputable abbrev Dp:Stmt:=top 11
abbrev iH:Φ:=["one","other"]
abbrev iy:Str:="divisor"
abbrev XQ:Φ:=["one","other","left","right","rest"]
theorem mj:bL XQ iH (bH Dp):=fsc
noncomputable abbrev Mr:Stmt:=top 15
abbrev m9:Φ:=["top","bottom"]
abbrev nu:Str:="ratio"
abbrev abH:Φ:=["top","bottom","common"]
theorem HX:bL abH m9 (bH Mr):=fsc
noncomputable abbrev zm:Stmt:=top 16
abbrev jU:Φ:=["thing"]
abbrev jV:Str:="is_ratio"
abbrev Tr:Φ:=["thing","top","bottom"]
theorem xu:bL Tr jU (bH zm):=fsc
noncomputable abbrev Ut:Stmt:=top 17
abbrev zY:Φ:=["one","other"]
abbrev zZ:Str:="plus"
abbrev afA:Φ:=["one","other"]
theorem acI:bL afA zY (bH Ut):=fsc
noncomputable abbrev MF:Stmt:=top 18
abbrev sJ:Φ:=["one","other"]
abbrev sW:Str:="minus"
abbrev ac6:Φ:=["one","other"]
theorem X_:bL ac6 sJ (bH MF):=fsc
noncomputable abbrev N6:Stmt:=top 19
abbrev vC:Φ:=["one","other"]
abbrev xq:Str:="times"
abbrev adp:Φ:=["one","other"]
theorem Zj:bL adp vC (bH N6):=fsc
noncomputable abbrev TV:Stmt:=top 20
abbrev FN:Φ:=["one","other"]
abbrev FW:Str:="over"
abbrev agl:Φ:=["one","other"]
theorem abm:bL agl FN (bH TV):=fsc
noncomputable abbrev Oq:Stmt:=top 21
abbrev qu:Φ:=["one","other"]
abbrev pL:Str:="under"
abbrev acM:Φ:=["one","other"]
theorem Zv:bL acM qu (bH Oq):=fsc
noncomputable abbrev Gd:Stmt:=top 23
abbrev pH:Φ:=["fractions"]
abbrev qj:Str:="level"
abbrev Vr:Φ:=["fractions","bottom","one"]
theorem Bt:bL Vr pH (bH Gd):=fsc
noncomputable abbrev MJ:Stmt:=top 24
abbrev Cd:Φ:=["fractions"]
abbrev Al:Str:="total"
abbrev acZ:Φ:=["fractions","leveled"]
theorem R3:bL acZ Cd (bH MJ):=fsc
noncomputable abbrev zT:Stmt:=top 25
abbrev qL:Φ:=["fractions"]
abbrev qJ:Str:="greatest"
abbrev Tf:Φ:=["fractions","found","one"]
theorem qU:bL Tf qL (bH zT):=fsc
noncomputable abbrev Uu:Stmt:=top 27
abbrev Gn:Φ:=["thing","many"]
abbrev Gf:Str:="fits"
abbrev aev:Φ:=["thing","many"]
theorem acf:bL aev Gn (bH Uu):=fsc
noncomputable abbrev uw:Stmt:=top 28
abbrev gP:Φ:=["hall","plan"]
abbrev gM:Str:="check_plan"
abbrev Oi:Φ:=["hall","plan","room","thing"]
theorem rK:bL Oi gP (bH uw):=fsc
noncomputable abbrev ju:Stmt:=top 29
abbrev lK:Φ:=["offer","tops"]
abbrev lH:Str:="behind_door"
abbrev jj:Φ:=["offer","tops","leveled"]
theorem wu:bL jj lK (bH ju):=fsc
noncomputable abbrev rQ:Stmt:=top 30
abbrev kh:Φ:=["hall","offer","leveled"]
abbrev kZ:Str:="raised_look"
abbrev Js:Φ:=["hall","offer","leveled","behind"]
theorem vh:bL Js kh (bH rQ):=fsc
noncomputable abbrev CG:Stmt:=top 32
abbrev tK:Φ:=["tops","bottom"]
abbrev sZ:Str:="lowest"
abbrev PK:Φ:=["tops","bottom","common","top"]
theorem yC:bL PK tK (bH CG):=fsc
noncomputable abbrev qW:Stmt:=top 33
abbrev nY:Φ:=["row","often"]
abbrev oH:Str:="row_times"
abbrev w6:Φ:=["row","often"]
theorem O2:bL w6 nY (bH qW):=fsc
noncomputable abbrev uL:Stmt:=top 34
abbrev qT:Φ:=["row","other","often"]
abbrev qX:Str:="row_plus"
noncomputable abbrev zc:Φ:=["row","other","often","bottom","common","own","added","tops"]
theorem jR:bL zc qT (bH uL):=fsc
noncomputable abbrev vH:Stmt:=top 35
abbrev o8:Φ:=["leveled","step"]
abbrev o7:Str:="take_step"
abbrev QZ:Φ:=["leveled","step","row"]
theorem Aw:bL QZ o8 (bH vH):=fsc
noncomputable abbrev vK:Stmt:=top 36
abbrev lA:Φ:=["row","column"]
abbrev lB:Str:="number_at"
abbrev Rg:Φ:=["row","column"]
theorem Nj:bL Rg lA (bH vK):=fsc
noncomputable abbrev iB:Stmt:=top 37
abbrev jF:Φ:=["leveled"]
abbrev jG:Str:="fractions_of"
abbrev ig:Φ:=["leveled"]
theorem Fl:bL ig jF (bH iB):=fsc
noncomputable abbrev ud:Stmt:=top 38
abbrev mO:Φ:=["leveled","place","column"]
abbrev mV:Str:="first_from"
abbrev N_:Φ:=["leveled","place","column","row"]
theorem yL:bL N_ mO (bH ud):=fsc
noncomputable abbrev Ox:Stmt:=top 39
abbrev uZ:Φ:=["leveled","steps","step"]
abbrev vW:Str:="go_on"
abbrev ab9:Φ:=["leveled","steps","step"]
theorem aag:bL ab9 uZ (bH Ox):=fsc
noncomputable abbrev vV:Stmt:=top 40
abbrev oK:Φ:=["leveled","steps","place","found","column"]
abbrev oG:Str:="begin_row"
noncomputable abbrev Q7:Φ:=["leveled","steps","place","found","column","first"]
theorem Az:bL Q7 oK (bH vV):=fsc
noncomputable abbrev pX:Stmt:=top 41
abbrev jH:Φ:=["leveled","steps","place","column"]
abbrev jK:Str:="clear_column"
noncomputable abbrev Jl:Φ:=["leveled","steps","place","column","row","often"]
theorem nJ:bL Jl jH (bH pX):=fsc
noncomputable abbrev xO:Stmt:=top 42
abbrev ux:Φ:=["rows","wide"]
abbrev uc:Str:="reduced"
noncomputable abbrev DK:Φ:=["rows","wide","leveled","steps","place","column","found"]
theorem jP:bL DK ux (bH xO):=fsc
noncomputable abbrev zL:Stmt:=top 44
abbrev qQ:Φ:=["rows"]
abbrev qR:Str:="width_of"
abbrev Uk:Φ:=["rows"]
theorem Qk:bL Uk qQ (bH zL):=fsc
noncomputable abbrev mK:Stmt:=top 45
abbrev lO:Φ:=["rows","rights"]
abbrev j8:Str:="with_rights"
abbrev su:Φ:=["rows","rights"]
theorem IV:bL su lO (bH mK):=fsc
noncomputable abbrev qx:Stmt:=top 46
abbrev oR:Φ:=["end","wide"]
abbrev oZ:Str:="begins_of"
abbrev u_:Φ:=["end","wide","begins","row","columns"]
theorem oW:bL u_ oR (bH qx):=fsc
noncomputable abbrev DQ:Stmt:=top 47
abbrev tV:Φ:=["end","begins","wide"]
abbrev uE:Str:="odd_row"
abbrev XS:Φ:=["end","begins","wide","row"]
theorem G9:bL XS tV (bH DQ):=fsc
noncomputable abbrev xJ:Stmt:=top 48
abbrev oh:Φ:=["end","begins","wide"]
abbrev oY:Str:="answer_of"
noncomputable abbrev RL:Φ:=["end","begins","wide","answer","row","column"]
theorem oN:bL RL oh (bH xJ):=fsc
noncomputable abbrev jq:Stmt:=top 49
abbrev jZ:Φ:=["many"]
abbrev k_:Str:="single_rows"
abbrev jx:Φ:=["many"]
theorem HJ:bL jx jZ (bH jq):=fsc
noncomputable abbrev rA:Stmt:=top 50
abbrev kJ:Φ:=["rows","rights"]
abbrev lD:Str:="only_answer"
abbrev JN:Φ:=["rows","rights","wide","end","begins"]
theorem kE:bL JN kJ (bH rA):=fsc
noncomputable abbrev j5:Stmt:=top 52
abbrev jL:Φ:=["hall","plan"]
abbrev jM:Str:="chosen_doors"
abbrev qg:Φ:=["hall","plan"]
theorem Fd:bL qg jL (bH j5):=fsc
noncomputable abbrev vU:Stmt:=top 53
abbrev oE:Φ:=["share","chosen"]
abbrev o9:Str:="left_rows"
noncomputable abbrev Rf:Φ:=["share","chosen","rows","room","offer","behind","chance"]
theorem iY:bL Rf oE (bH vU):=fsc
noncomputable abbrev qw:Stmt:=top 54
abbrev n8:Φ:=["hall","plan"]
abbrev oO:Str:="worths_of"
abbrev w5:Φ:=["hall","plan","chosen","pays"]
theorem ur:bL w5 n8 (bH qw):=fsc
noncomputable abbrev rY:Stmt:=top 56
abbrev lG:Φ:=["seen","door"]
abbrev kY:Str:="better_door"
abbrev J5:Φ:=["seen","door","most"]
theorem wU:bL J5 lG (bH rY):=fsc
noncomputable abbrev Ag:Stmt:=top 57
abbrev yt:Φ:=["hall","plan","worths"]
abbrev xT:Str:="mended"
noncomputable abbrev H_:Φ:=["hall","plan","worths","leveled","told","room","door","seen"]
theorem pB:bL H_ yt (bH Ag):=fsc
noncomputable abbrev zj:Stmt:=top 58
abbrev qY:Φ:=["hall","plan"]
abbrev qF:Str:="mendings"
abbrev Ub:Φ:=["hall","plan","told","coming"]
theorem qz:bL Ub qY (bH zj):=fsc
noncomputable abbrev Dw:Stmt:=top 60
abbrev qe:Φ:=["hall"]
abbrev qd:Str:="wait_of"
noncomputable abbrev XM:Φ:=["hall","top","bottom","many","tops","bottoms"]
theorem gq:bL XM qe (bH Dw):=fsc
noncomputable abbrev gJ:Stmt:=top 61
abbrev iK:Φ:=["hall"]
abbrev jc:Str:="most_mendings"
abbrev gF:Φ:=["hall","doors"]
theorem tD:bL gF iK (bH gJ):=fsc
noncomputable abbrev xY:Stmt:=top 64
abbrev lX:Φ:=["thing"]
abbrev mq:Str:="is_word"
abbrev Du:Φ:=["thing"]
theorem Sv:bL Du lX (bH xY):=fsc
noncomputable abbrev uf:Stmt:=top 66
abbrev jt:Φ:=["name","pay"]
abbrev ji:Str:="check_head"
abbrev Mj:Φ:=["name","pay"]
theorem Jq:bL Mj jt (bH uf):=fsc
noncomputable abbrev kj:Stmt:=top 67
abbrev eU:Φ:=["room"]
abbrev eN:Str:="check_room_name"
abbrev Cr:Φ:=["room"]
theorem zx:bL Cr eU (bH kj):=fsc
noncomputable abbrev pZ:Stmt:=top 68
abbrev gK:Φ:=["chance"]
abbrev gH:Str:="check_chance"
abbrev Jc:Φ:=["chance"]
theorem Fy:bL Jc gK (bH pZ):=fsc
noncomputable abbrev mY:Stmt:=top 69
abbrev j_:Φ:=["pairs"]
abbrev jY:Str:="check_pairs"
abbrev rJ:Φ:=["pairs","room","chance"]
theorem pW:bL rJ j_ (bH mY):=fsc
noncomputable abbrev mJ:Stmt:=top 70
abbrev lg:Φ:=["pairs"]
abbrev j4:Str:="joined_ways"
abbrev yK:Φ:=["pairs","chances","room","chance"]
theorem lU:bL yK lg (bH mJ):=fsc
noncomputable abbrev rP:Stmt:=top 77
abbrev lC:Φ:=["share"]
abbrev lF:Str:="check_share"
abbrev J1:Φ:=["share"]
theorem Jm:bL J1 lC (bH rP):=fsc
noncomputable abbrev tX:Stmt:=top 78
abbrev mR:Φ:=["rooms"]
abbrev mG:Str:="numbers_of"
abbrev Nv:Φ:=["rooms","numbers","room","name"]
theorem m5:bL Nv mR (bH tX):=fsc
noncomputable abbrev nP:Stmt:=top 79
abbrev iM:Φ:=["door","numbers"]
abbrev iZ:Str:="numbered_ways"
abbrev Fx:Φ:=["door","numbers","numbered","name","chance"]
theorem iT:bL Fx iM (bH nP):=fsc
noncomputable abbrev vN:Stmt:=top 80
abbrev oA:Φ:=["doors","numbers"]
abbrev n6:Str:="offers_of"
abbrev QK:Φ:=["doors","numbers","taken","told","door"]
theorem n_:bL QK oA (bH vN):=fsc
noncomputable abbrev Tt:Stmt:=top 83
abbrev uI:Φ:=["_law_script","_law_k"]
abbrev uy:Str:="_law_cell"
abbrev afH:Φ:=["_law_script","_law_k"]
theorem ab6:bL afH uI (bH Tt):=fsc
noncomputable abbrev Ij:Stmt:=top 84
abbrev fH:Φ:=["_law_cell_here","_law_many"]
abbrev fJ:Str:="_law_stream"
noncomputable abbrev YD:Φ:=["_law_cell_here","_law_many","_law_found","_law_number","_law_digits","_law_k"]
theorem jW:bL YD fH (bH Ij):=fsc
noncomputable abbrev YJ:Stmt:=top 85
abbrev Om:Φ:=["_law_one","_law_other"]
abbrev Mh:Str:="_law_gcd"
noncomputable abbrev ajP:Φ:=["_law_one","_law_other","_law_low","_law_high"]
theorem Nr:bL ajP Om (bH YJ):=fsc
noncomputable abbrev GZ:Stmt:=top 86
abbrev pC:Φ:=["_law_top_here","_law_bottom"]
abbrev o_:Str:="_law_ratio"
noncomputable abbrev YS:Φ:=["_law_top_here","_law_bottom","_law_common"]
theorem KN:bL YS pC (bH GZ):=fsc
noncomputable abbrev xZ:Stmt:=top 87
abbrev Ci:Φ:=["_law_cell_here","_law_many"]
abbrev Cz:Str:="_law_names"
noncomputable abbrev tZ:Φ:=["_law_cell_here","_law_many","_law_letters","_law_xs","_law_base","_law_at","_law_step"]
theorem sY:bL tZ Ci (bH xZ):=fsc
noncomputable abbrev L_:Stmt:=top 88
abbrev Ao:Φ:=["_law_cell_here"]
abbrev Ck:Str:="_law_share"
abbrev acu:Φ:=["_law_cell_here","_law_xs","_law_bottom"]
theorem Hj:bL acu Ao (bH L_):=fsc
noncomputable abbrev aan:Stmt:=top 89
abbrev M9:Φ:=["_law_cell_here","_law_x","_law_y"]
abbrev M6:Str:="_law_pay"
abbrev aix:Φ:=["_law_cell_here","_law_x","_law_y"]
theorem agi:bL aix M9 (bH aan):=fsc
noncomputable abbrev yZ:Stmt:=top 90
abbrev Gr:Φ:=["_law_cell_here","_law_many"]
abbrev FT:Str:="_law_door"
noncomputable abbrev t_:Φ:=["_law_cell_here","_law_many","_law_xs","_law_rooms_here","_law_sort","_law_pairs","_law_bottom","_law_part","_law_weights"]
theorem jB:bL t_ Gr (bH yZ):=fsc
noncomputable abbrev Gh:Stmt:=top 91
noncomputable abbrev A_:Φ:=["_law_script","_law_at","_law_many","_law_most"]
abbrev C_:Str:="_law_doors"
noncomputable abbrev VJ:Φ:=["_law_script","_law_at","_law_many","_law_most","_law_rooms_here","_law_first","_law_cells","_law_k","_law_cell_here","_law_room","_law_door_here"]
theorem jw:bL VJ A_ (bH Gh):=fsc
noncomputable abbrev Ad:Stmt:=top 92
noncomputable abbrev BW:Φ:=["_law_title","_law_door_here","_law_names_here"]
abbrev z6:Str:="_law_built"
noncomputable abbrev Bf:Φ:=["_law_title","_law_door_here","_law_names_here","_law_told","_law_sort","_law_pay_here","_law_pairs"]
theorem v7:bL Bf BW (bH Ad):=fsc
noncomputable abbrev Og:Stmt:=top 93
noncomputable abbrev FQ:Φ:=["_law_cell_here","_law_share_here","_law_rooms_here"]
abbrev Gx:Str:="_law_hall"
noncomputable abbrev Td:Φ:=["_law_cell_here","_law_share_here","_law_rooms_here","_law_names_here","_law_found","_law_k","_law_titles"]
theorem CZ:bL Td FQ (bH Og):=fsc
noncomputable abbrev G5:Stmt:=top 94
abbrev yx:Φ:=["_law_cell_here","_law_rooms_here"]
abbrev xQ:Str:="_law_chosen"
noncomputable abbrev Zx:Φ:=["_law_cell_here","_law_rooms_here","_law_xs","_law_found","_law_k"]
theorem xW:bL Zx yx (bH G5):=fsc
noncomputable abbrev UJ:Stmt:=top 95
noncomputable abbrev Gw:Φ:=["_law_share_here","_law_door_here","_law_worths"]
abbrev Gk:Str:="_law_look"
noncomputable abbrev ae1:Φ:=["_law_share_here","_law_door_here","_law_worths","_law_top_here","_law_bottom","_law_room","_law_chance","_law_part"]
theorem mQ:bL ae1 Gw (bH UJ):=fsc
noncomputable abbrev MK:Stmt:=top 96
abbrev tG:Φ:=["_law_one","_law_other"]
abbrev tu:Str:="_law_below"
abbrev abU:Φ:=["_law_one","_law_other"]
theorem aaM:bL abU tG (bH MK):=fsc
noncomputable abbrev Ul:Stmt:=top 97
abbrev GK:Φ:=["_law_cell_here"]
abbrev GD:Str:="_law_size"
abbrev aeX:Φ:=["_law_cell_here","_law_xs"]
theorem V3:bL aeX GK (bH Ul):=fsc
noncomputable abbrev zR:Stmt:=top 98
abbrev qN:Φ:=["_law_cell_here","_law_many"]
abbrev qM:Str:="_law_corridor"
noncomputable abbrev Sg:Φ:=["_law_cell_here","_law_many","_law_pay_here","_law_found","_law_k"]
theorem qy:bL Sg qN (bH zR):=fsc
noncomputable abbrev NQ:Stmt:=top 99
abbrev Cq:Φ:=["_law_script"]
abbrev Bk:Str:="_law_rooms"
abbrev abM:Φ:=["_law_script","_law_xs"]
theorem R0:bL abM Cq (bH NQ):=fsc
noncomputable abbrev Ga:Stmt:=top 100
abbrev Ak:Φ:=["_law_script","_law_rooms_here"]
abbrev CP:Str:="_law_start"
abbrev Ny:Φ:=["_law_script","_law_rooms_here"]
theorem aaN:bL Ny Ak (bH Ga):=fsc
noncomputable abbrev T3:Stmt:=top 101
abbrev Ay:Φ:=["_law_one","_law_other"]
abbrev Aj:Str:="_law_less"
abbrev aep:Φ:=["_law_one","_law_other"]
theorem abW:bL aep Ay (bH T3):=fsc
noncomputable abbrev ZG:Stmt:=top 102
abbrev Ip:Φ:=["_law_some"]
abbrev Hs:Str:="_law_top"
abbrev aiW:Φ:=["_law_some","_law_best","_law_one"]
theorem K5:bL aiW Ip (bH ZG):=fsc
noncomputable abbrev U8:Stmt:=top 103
abbrev Nm:Φ:=["_law_last","_law_worths"]
abbrev O4:Str:="_law_far"
abbrev YW:Φ:=["_law_last","_law_worths"]
theorem ae8:bL YW Nm (bH U8):=fsc
noncomputable abbrev K4:Stmt:=top 104
noncomputable abbrev CJ:Φ:=["_law_share_here","_law_rooms_here","_law_plan","_law_last"]
abbrev Bu:Str:="_law_lacks"
noncomputable abbrev adt:Φ:=["_law_share_here","_law_rooms_here","_law_plan","_law_last","_law_found","_law_k","_law_lack"]
theorem vm:bL adt CJ (bH K4):=fsc
noncomputable abbrev S_:Stmt:=top 105
noncomputable abbrev Gy:Φ:=["_law_share_here","_law_rooms_here","_law_found","_law_at","_law_wait"]
abbrev Ge:Str:="_law_gone"
noncomputable abbrev agu:Φ:=["_law_share_here","_law_rooms_here","_law_found","_law_at","_law_wait","_law_some","_law_best","_law_room","_law_plan","_law_worths"]
theorem xR:bL agu Gy (bH S_):=fsc
noncomputable abbrev Wa:Stmt:=top 106
abbrev TJ:Φ:=["_law_script"]
abbrev N5:Str:="law"
noncomputable abbrev aiN:Φ:=["_law_script","_law_share_here","_law_rooms_here","_law_hall_here","_law_plan","_law_found","_law_wait","_law_last","_law_k","_law_far_here","_law_due"]
theorem pG:bL aiN TJ (bH Wa):=fsc
noncomputable abbrev wV:Stmt:=fU 71 0
abbrev kO:Φ:=["self","name","pay"]
abbrev Ab:Str:="__init__"
abbrev Cw:Str:="Door.__init__"
abbrev Qa:Φ:=["self","name","pay"]
theorem Lg:bL Qa kO (bH wV):=fsc
noncomputable abbrev vg:Stmt:=fU 71 1
abbrev oX:Φ:=["self"]
abbrev Bw:Str:="ways"
abbrev z8:Str:="Door.ways"
abbrev Pz:Φ:=["self"]
theorem Nu:bL Pz oX (bH vg):=fsc
noncomputable abbrev wR:Stmt:=fU 72 0
abbrev nU:Φ:=["self","name","pay","room"]
abbrev Ca:Str:="__init__"
abbrev Bj:Str:="Sure.__init__"
abbrev RW:Φ:=["self","name","pay","room"]
theorem Li:bL RW nU (bH wR):=fsc
noncomputable abbrev tY:Stmt:=fU 73 0
abbrev gR:Φ:=["self","name","pay","pairs"]
abbrev yQ:Str:="__init__"
abbrev yP:Str:="Mixed.__init__"
abbrev O8:Φ:=["self","name","pay","pairs"]
theorem Jt:bL O8 gR (bH tY):=fsc
noncomputable abbrev vX:Stmt:=fU 74 0
noncomputable abbrev oM:Φ:=["self","name","pay","chance","room","other"]
abbrev Ai:Str:="__init__"
abbrev Bc:Str:="Toss.__init__"
noncomputable abbrev RZ:Φ:=["self","name","pay","chance","room","other"]
theorem Ot:bL RZ oM (bH vX):=fsc
noncomputable abbrev qI:Stmt:=fU 75 0
abbrev oF:Φ:=["self","name","pay","rooms"]
abbrev Ba:Str:="__init__"
abbrev Ce:Str:="Even.__init__"
abbrev wL:Φ:=["self","name","pay","rooms"]
theorem N7:bL wL oF (bH qI):=fsc
noncomputable abbrev qD:Stmt:=fU 81 0
abbrev nW:Φ:=["self","share","rooms"]
abbrev Bx:Str:="__init__"
abbrev Aq:Str:="Hall.__init__"
abbrev u9:Φ:=["self","share","rooms"]
theorem O1:bL u9 nW (bH qD):=fsc
noncomputable abbrev vD:Stmt:=fU 81 1
abbrev i_:Φ:=["self"]
abbrev Bm:Str:="size"
abbrev Af:Str:="Hall.size"
abbrev QC:Φ:=["self"]
theorem Ml:bL QC i_ (bH vD):=fsc
noncomputable abbrev j7:Stmt:=fU 81 4
abbrev gC:Φ:=["self","room"]
abbrev p7:Str:="check_room"
abbrev pR:Str:="Hall.check_room"
abbrev Cy:Φ:=["self","room"]
theorem zW:bL Cy gC (bH j7):=fsc
noncomputable abbrev mL:Stmt:=fU 81 6
abbrev eZ:Φ:=["self","room"]
abbrev v9:Str:="offers"
abbrev wH:Str:="Hall.offers"
abbrev rZ:Φ:=["self","room"]
theorem HD:bL rZ eZ (bH mL):=fsc
structure Adr where
 Door:Addr
 Sure:Addr
 Mixed:Addr
 Toss:Addr
 Even:Addr
 Hall:Addr
 NOUGHT:Addr
 ONE:Addr
 Door_init:Addr
 Door_ways:Addr
 Sure_init:Addr
 Mixed_init:Addr
 Toss_init:Addr
 Even_init:Addr
 Hall_init:Addr
 Hall_size:Addr
 Hall_check_room:Addr
 Hall_offers:Addr
structure Txt(K:Frag)(mg:Str->Ω)(D:Adr):Prop where
 Zi:mg "Door"=some (.ref D.Door)
 afV:mg "Even"=some (.ref D.Even)
 aeW:mg "Hall"=some (.ref D.Hall)
 Lb:mg "Mixed"=some (.ref D.Mixed)
 jz:mg "NOUGHT"=some (.ref D.NOUGHT)
 Ep:mg "ONE"=some (.ref D.ONE)
 aeV:mg "Sure"=some (.ref D.Sure)
 afU:mg "Toss"=some (.ref D.Toss)
 Hw:∃u,mg "LONGEST_WORD"=some u/\RelV (.int 8) u
 gO:∀H,SqT K H D.NOUGHT [.int 0,.int 1]
 vZ:∀H,SqT K H D.ONE [.int 1,.int 1]
 Y9:Cls K D.Door
 KZ:Meth K D.Door "ways" D.Door_ways
 JF:cA K D.Door "leads"
 Mt:cA K D.Door "name"
 Ew:cA K D.Door "numbers"
 Fw:cA K D.Door "offered"
 QH:cA K D.Door "pay"
 JR:cA K D.Door "share"
 acB:Mk K D.Sure D.Sure_init
 aaR:Cls K D.Sure
 Oz:Meth K D.Sure "ways" D.Door_ways
 JQ:cA K D.Sure "leads"
 Ld:cA K D.Sure "name"
 Fb:cA K D.Sure "numbers"
 Ft:cA K D.Sure "offered"
 Pq:cA K D.Sure "pay"
 JV:cA K D.Sure "share"
 ZJ:Mk K D.Mixed D.Mixed_init
 Wt:Cls K D.Mixed
 J8:Meth K D.Mixed "ways" D.Door_ways
 I9:cA K D.Mixed "leads"
 Ju:cA K D.Mixed "name"
 Dl:cA K D.Mixed "numbers"
 Dm:cA K D.Mixed "offered"
 Lf:cA K D.Mixed "pay"
 GQ:cA K D.Mixed "share"
 acy:Mk K D.Toss D.Toss_init
 aaS:Cls K D.Toss
 Ou:Meth K D.Toss "ways" D.Door_ways
 JW:cA K D.Toss "leads"
 M7:cA K D.Toss "name"
 Ez:cA K D.Toss "numbers"
 Eu:cA K D.Toss "offered"
 Q0:cA K D.Toss "pay"
 J2:cA K D.Toss "share"
 acU:Mk K D.Even D.Even_init
 Zo:Cls K D.Even
 M4:Meth K D.Even "ways" D.Door_ways
 JT:cA K D.Even "leads"
 K8:cA K D.Even "name"
 Fv:cA K D.Even "numbers"
 E_:cA K D.Even "offered"
 Pr:cA K D.Even "pay"
 JD:cA K D.Even "share"
 acW:Mk K D.Hall D.Hall_init
 lQ:Cls K D.Hall
 zu:Meth K D.Hall "check_room" D.Hall_check_room
 lJ:Meth K D.Hall "offers" D.Hall_offers
 tW:Meth K D.Hall "size" D.Hall_size
 JH:cA K D.Hall "leads"
 Nz:cA K D.Hall "name"
 Et:cA K D.Hall "numbers"
 Fg:cA K D.Hall "offered"
 Ri:cA K D.Hall "pay"
 JK:cA K D.Hall "share"
 BX:Eh K D.Door "__init__" D.Door_init
 K9:zA K Ab Cw wV kO D.Door_init
 Oo:zA K Bw z8 vg oX D.Door_ways
 Ln:zA K Ca Bj wR nU D.Sure_init
 yR:Eh K D.Mixed "__init__" D.Mixed_init
 J0:zA K yQ yP tY gR D.Mixed_init
 Mi:zA K Ai Bc vX oM D.Toss_init
 Le:zA K Ba Ce qI oF D.Even_init
 Mu:zA K Bx Aq qD nW D.Hall_init
 NP:zA K Bm Af vD i_ D.Hall_size
 zP:zA K p7 pR j7 gC D.Hall_check_room
 Jk:zA K v9 wH mL eZ D.Hall_offers
 Rh:mg "abs"=none
 agZ:mg "all"=none
 afp:mg "bool"=none
 ni:mg "enumerate"=none
 adK:mg "int"=none
 lM:mg "isinstance"=none
 dY:mg "len"=none
 Mp:mg "list"=none
 dO:mg "range"=none
 ZX:mg "sorted"=none
 akS:mg "str"=none
 U9:mg "sum"=none
 adx:mg "tuple"=none
 R6:mg "zip"=none
 Uz:cL K mg iC zK iG
 Xy:cL K mg iy Dp iH
 abT:cL K mg nu Mr m9
 U5:cL K mg jV zm jU
 afb:cL K mg zZ Ut zY
 acD:cL K mg sW MF sJ
 ach:cL K mg xq N6 vC
 ae7:cL K mg FW TV FN
 abL:cL K mg pL Oq qu
 abk:cL K mg qj Gd pH
 f_total:cL K mg Al MJ Cd
 Uq:cL K mg qJ zT qL
 aei:cL K mg Gf Uu Gn
 K7:cL K mg gM uw gP
 JM:cL K mg lH ju lK
 Jp:cL K mg kZ rQ kh
 aad:cL K mg sZ CG tK
 Qf:cL K mg oH qW nY
 Sq:cL K mg qX uL qT
 Q8:cL K mg o7 vH o8
 RG:cL K mg lB vK lA
 Jf:cL K mg jG iB jF
 Ms:cL K mg mV ud mO
 abB:cL K mg vW Ox uZ
 Ry:cL K mg oG vV oK
 Ho:cL K mg jK pX jH
 XC:cL K mg uc xO ux
 Ti:cL K mg qR zL qQ
 J7:cL K mg j8 mK lO
 QJ:cL K mg oZ qx oR
 Xp:cL K mg uE DQ tV
 Ru:cL K mg oY xJ oh
 JX:cL K mg k_ jq jZ
 JB:cL K mg lD rA kJ
 G_:cL K mg jM j5 jL
 Qd:cL K mg o9 vU oE
 Qy:cL K mg oO qw n8
 J3:cL K mg kY rY lG
 Za:cL K mg xT Ag yt
 Tp:cL K mg qF zj qY
 Xi:cL K mg qd Dw qe
 Fe:cL K mg jc gJ iK
 Xg:cL K mg mq xY lX
 Lk:cL K mg ji uf jt
 CN:cL K mg eN kj eU
 HN:cL K mg gH pZ gK
 JL:cL K mg jY mY j_
 Jy:cL K mg j4 mJ lg
 Jv:cL K mg lF rP lC
 M_:cL K mg mG tX mR
 Fo:cL K mg iZ nP iM
 PB:cL K mg n6 vN oA
 agn:cL K mg uy Tt uI
 aa2:cL K mg fJ Ij fH
 aiy:cL K mg Mh YJ Om
 YC:cL K mg o_ GZ pC
 acO:cL K mg Cz xZ Ci
 abr:cL K mg Ck L_ Ao
 akW:cL K mg M6 aan M9
 aek:cL K mg FT yZ Gr
 abf:cL K mg C_ Gh A_
 abQ:cL K mg z6 Ad BW
 agw:cL K mg Gx Og FQ
 aav:cL K mg xQ G5 yx
 f_look:cL K mg Gk UJ Gw
 adn:cL K mg tu MK tG
 afO:cL K mg GD Ul GK
 SX:cL K mg qM zR qN
 abn:cL K mg Bk NQ Cq
 acS:cL K mg CP Ga Ak
 aeT:cL K mg Aj T3 Ay
 aiX:cL K mg Hs ZG Ip
 ajl:cL K mg O4 U8 Nm
 abq:cL K mg Bu K4 CJ
 agd:cL K mg Ge S_ Gy
def Fam(D:Adr)(C:Addr):Prop:=C=D.Door\/C=D.Sure\/C=D.Mixed\/C=D.Toss\/C=D.Even\/C=D.Hall
theorem Txt.cl{K:Frag}{mg:Str->Ω}{D:Adr}(T:Txt K mg D):∀C,Fam D C->Cls K C:=by
 rintro C (rfl|rfl|rfl|rfl|rfl|rfl)
 .exact T.Y9
 .exact T.aaR
 .exact T.Wt
 .exact T.aaS
 .exact T.Zo
 .exact T.lQ
theorem Txt.Bs{K:Frag}{mg:Str->Ω}{D:Adr}(T:Txt K mg D):∀C,Fam D C->cA K C "leads":=by
 rintro C (rfl|rfl|rfl|rfl|rfl|rfl)
 .exact T.JF
 .exact T.JQ
 .exact T.I9
 .exact T.JW
 .exact T.JT
 .exact T.JH
theorem Txt.Gv{K:Frag}{mg:Str->Ω}{D:Adr}(T:Txt K mg D):∀C,Fam D C->cA K C "name":=by
 rintro C (rfl|rfl|rfl|rfl|rfl|rfl)
 .exact T.Mt
 .exact T.Ld
 .exact T.Ju
 .exact T.M7
 .exact T.K8
 .exact T.Nz
theorem Txt.za{K:Frag}{mg:Str->Ω}{D:Adr}(T:Txt K mg D):∀C,Fam D C->cA K C "numbers":=by
 rintro C (rfl|rfl|rfl|rfl|rfl|rfl)
 .exact T.Ew
 .exact T.Fb
 .exact T.Dl
 .exact T.Ez
 .exact T.Fv
 .exact T.Et
theorem Txt.HB{K:Frag}{mg:Str->Ω}{D:Adr}(T:Txt K mg D):∀C,Fam D C->cA K C "offered":=by
 rintro C (rfl|rfl|rfl|rfl|rfl|rfl)
 .exact T.Fw
 .exact T.Ft
 .exact T.Dm
 .exact T.Eu
 .exact T.E_
 .exact T.Fg
theorem Txt.Zw{K:Frag}{mg:Str->Ω}{D:Adr}(T:Txt K mg D):∀C,Fam D C->cA K C "pay":=by
 rintro C (rfl|rfl|rfl|rfl|rfl|rfl)
 .exact T.QH
 .exact T.Pq
 .exact T.Lf
 .exact T.Q0
 .exact T.Pr
 .exact T.Ri
theorem Txt.xK{K:Frag}{mg:Str->Ω}{D:Adr}(T:Txt K mg D):∀C,Fam D C->cA K C "share":=by
 rintro C (rfl|rfl|rfl|rfl|rfl|rfl)
 .exact T.JR
 .exact T.JV
 .exact T.GQ
 .exact T.J2
 .exact T.JD
 .exact T.JK
def c7(D:Adr)(C:Addr):Prop:=C=D.Door\/C=D.Sure\/C=D.Mixed\/C=D.Toss\/C=D.Even
theorem c7.fam{D:Adr}{C:Addr}(h:c7 D C):Fam D C:=by
 unfold c7 at h;unfold Fam;rcases h with h|h|h|h|h<;>simp[h]
theorem Txt.NZ{K:Frag}{mg:Str->Ω}{D:Adr}(T:Txt K mg D):∀C,c7 D C->Meth K C "ways" D.Door_ways:=by
 rintro C (rfl|rfl|rfl|rfl|rfl)
 .exact T.KZ
 .exact T.Oz
 .exact T.J8
 .exact T.Ou
 .exact T.M4
section
variable{P:Program}{w:World}{K:Frag}{mg:Str->Ω}{base:Heap}{D:Adr}{f:Addr}{fd:FuncData}
noncomputable abbrev frT(f:Β):T:=.tup [.int f.1,.int f.2]
noncomputable def isW:T->Option Bool
 |.int _=>some true
 |.bl _=>some false
 |.non=>some false
 |.str _=>some false
 |.tup _=>some false
 |.lst _=>some false
 |_=>none
def m6:ST:=λts q=>∃t b,ts=[t]/\isW t=some b/\q (.fz (.bl b))
theorem RB(F:Fun K iC iC zK f fd)(T:Txt K mg D):cj P w K mg base CX0 1 f fd iG (spT K m6):=by
 refine F.okT RX (λts R hP=>by obtain⟨t,b,e,_⟩:=hP;exact e ▸ rfl) λag A outer s H E hr=>?_;refine⟨_,(bG (bQ (Tz (Ii .int (qv 0) (by rfl) T.lM (by rfl) T.adK boot_int) (SN (aem (Ii .bool (qv 0) (by rfl) T.lM (by rfl) T.afp boot_bool)))))),?_⟩;rintro _ R ⟨t,b,rfl,h,q⟩;cases t<;>cases h<;>exact q
def lY:ST:=λts q=>∃a b,ts=[.int a,.int b]/\q (.fz (.int (Int.gcd a b)))
theorem Ua(F:Fun K iy iy Dp f fd)(T:Txt K mg D):cj P w K mg base CX0 1 f fd iH (spT K lY):=by
 refine F.okT mj (λts R hP=>by obtain⟨t,b,e,_⟩:=hP;exact e ▸ rfl) λag A outer s H E hr=>?_;refine⟨_,(bC (bM 2 mj.nd (Or.inl rfl) (bV G8 (by rfl) T.Rh boot_abs (bx (qv 0) bF)))
  (bC (bM 3 mj.nd (Or.inl rfl) (bV G8 (by rfl) T.Rh boot_abs (bx (qv 1) bF)))
  (bC (Cj VZ (bY (sS hr.units) (qv 3) bA)
  (bC (bM 4 mj.nd (Or.inl rfl) (bK cC (qv 2) (qv 3)))
  (bC (bM 2 mj.nd (Or.inl rfl) (qv 3))
  (bG (bM 3 mj.nd (Or.inl rfl) (qv 4))))))
  (bG (bQ (qv 2)))))),?_⟩
 rintro _ R ⟨a,b,rfl,q⟩;refine⟨λm o=>∃(l r:Nat)(x:OT),o=[.fz (.int a),.fz (.int b),.fz (.int l),.fz (.int r),x]/\Nat.gcd l r=Int.gcd a b/\m=r,⟨_,_,_,_,rfl,rfl,rfl⟩,?_⟩;rintro m _ ⟨l,r,x,rfl,hg,hm⟩;refine sw2 (λh=>?_) λh=>?_
 .have hr:r≠0:=by intro z;subst z;cases h
  refine⟨λo=>∃x,o=[.fz (.int a),.fz (.int b),.fz (.int r),.fz (.int ((l%r:Nat):Int)),x],?_,?_⟩
  .rintro _ ⟨x,rfl⟩;exact⟨l%r,by have:=Nat.mod_lt l (Nat.pos_of_ne_zero hr);lia,r,l%r,x,rfl,(Nat.gcd_comm r (l%r)).trans ((Nat.gcd_rec r l).symm.trans ((Nat.gcd_comm r l).trans hg)),rfl⟩
  .exact⟨by lia,_,by rw[Int.natCast_emod];rfl⟩
 .have hr:r=0:=by
   by_cases z:r=0
   .exact z
   .have:(decide ((r:Int)=0))=false:=Zp (by lia);rw[show xr true (decide ((r:Int)=0)) = !decide ((r:Int)=0)from rfl,this]at h;cases h
  subst hr;rw[Nat.gcd_zero_right]at hg;rw[<- hg]at q;exact q
structure Low(t b x y:Int):Prop where
 pos:0<y
 gcd:Int.gcd x y=1
 eq:x*b=t*y
 lx:x.natAbs<=t.natAbs
 ly:y.natAbs<=b.natAbs
theorem Hz{c q:Int}(h:c≠0):Int.fdiv (c*q) c=q:=by
 rw[Zwy (Int.dvd_mul_right c q),Zzq _ h]
theorem Hq{c q:Int}(h:c≠0):q.natAbs<=(c*q).natAbs:=by
 rw[VY];exact Zxw _ (by lia)
theorem wN{t b c:Int}(hb:b≠0)(hc:c≠0)(hg:c.natAbs=Int.gcd t b)(hs:0<c*b):Low t b (Int.fdiv t c) (Int.fdiv b c):=by
 have d1:c ∣ t:=Int.natAbs_dvd.mp (by rw[hg];exact Int.gcd_dvd_left t b);have d2:c ∣ b:=Int.natAbs_dvd.mp (by rw[hg];exact Q3 t b);obtain⟨x,rfl⟩:=d1;obtain⟨y,rfl⟩:=d2;rw[Hz hc,Hz hc];refine⟨?_,?_,?_,Hq hc,Hq hc⟩
 .rw[<- Int.mul_assoc]at hs;have hp:0<c*c:=by
   rcases Int.lt_or_lt_of_ne hc with z|z
   .exact Zwx z z
   .exact XZ z z
  exact Zwz hs hp
 .rw[Int.gcd_mul_left]at hg;have hp:0<c.natAbs:=by lia
  exact Nat.eq_of_mul_eq_mul_left hp (by rw[Nat.mul_one];exact hg.symm)
 .rw[Int.mul_left_comm,Int.mul_assoc]
theorem mX{a b:Int}(hb:b≠0):(0:Int)<(Int.gcd a b:Nat):=by
 have:=Zxz a hb;lia
theorem Kr{i j:Int}(h:i.natAbs<=j.natAbs)(k:Bd j):Bd i:=Y3 h k
theorem Yh{i:Int}(h:Bd i):Bd (-i):=by unfold Bd at *;rw[Int.natAbs_neg];exact h
theorem SQ{a b:Int}(hb:b≠0)(h:Bd b):Bd ((Int.gcd a b:Nat):Int):=Kr (by
 have:=UX (by lia) (Int.gcd_dvd_natAbs_right a b);omega) h
def sH:ST:=λts q=>∃t b,ts=[.int t,.int b]/\b≠0/\Bd b/\∀x y,Low t b x y->q (.fz (frT (x,y)))
theorem aaY(F:Fun K nu nu Mr f fd)(T:Txt K mg D)(dB:OkT P w K mg base 1 iC iG m6)(dM:OkT P w K mg base 1 iy iH lY):cj P w K mg base CX0 2 f fd m9 (spT K sH):=by
 refine F.okT HX (λts R hP=>by obtain⟨t,b,e,_⟩:=hP;exact e ▸ rfl) λag A outer s H E hr=>?_;refine⟨_,(bC (cG (QW.qt (nR (fV (dX (bI dB hr.md (by rfl) (bx (qv 0) bF)))) (kI (fV (dX (bI dB hr.md (by rfl) (bx (qv 1) bF)))))))
  (bG fM)
  bT)
  (bC (cG (bY (go_eq hr.units) (qv 1) bA)
  (bG fM)
  bT)
  (bC (bM 2 HX.nd (Or.inl rfl) (bI dM hr.md (by rfl) (bx (qv 0) (bx (qv 1) bF))))
  (bC (cG (bY vQ (qv 1) bA)
  (bG (bM 2 HX.nd (Or.inl rfl) (zG (qv 2))))
  bT)
  (bG (bQ (cW (bx (bK mF (qv 0) (qv 2)) (bx (bK mF (qv 1) (qv 2)) bF))))))))),?_⟩
 rintro _ R ⟨t,b,rfl,hb,hd,q⟩;refine⟨_,_,rfl,rfl,_,_,rfl,rfl,?_⟩;have g0:=mX (a:=t) hb;have g1:=SQ (a:=t) hb hd;refine swF (Zp hb) ⟨_,_,rfl,swD (λhn=>⟨⟨by omega,Yh g1⟩,⟨by omega,Yh g1⟩,q _ _ (wN hb (by omega) (by lia) (Zwx (by lia) hn))⟩) λhn=>⟨⟨by exact WS g0,g1⟩,⟨by exact WS g0,g1⟩,q _ _ (wN hb (WS g0) (by lia) (XZ g0 (by lia)))⟩⟩
noncomputable abbrev frR(r:Rat):T:=.tup [.int r.num,.int r.den]
theorem iR{t b x y:Int}(h:Low t b x y)(hb:b≠0):frT (x,y)=frR (Rat.divInt t b):=by
 have hy:=h.pos;have e:Rat.divInt t b=⟨x,y.toNat,by lia,by have:=h.gcd;unfold Int.gcd at this;rw[show y.toNat=y.natAbs by lia];exact this⟩:=by
  rw[Rat.mk_eq_divInt,show((y.toNat:Nat):Int)=y by exact Zxv (XY hy)];exact(Zyz hb (WS hy)).mpr h.eq.symm
 rw[e];show T.tup [.int x,.int y]=.tup [.int x,.int (y.toNat:Nat)];rw[show((y.toNat:Nat):Int)=y by exact Zxv (XY hy)]
theorem rd(r:Rat):Rat.divInt r.num r.den=r:=Rat.num_divInt_den r
theorem jm(r:Rat):((r.den:Nat):Int)≠0:=by have:=r.den_pos;lia
def Bq(r:Rat):Prop:=Bd r.num/\Bd (r.den:Nat)
def NT:ST:=λts q=>∃a b:Rat,ts=[frR a,frR b]/\Bq a/\Bq b/\Bd ((a.den:Int)*b.den)/\q (.fz (frR (a+b)))
def Bb:ST:=λts q=>∃a b:Rat,ts=[frR a,frR b]/\Bq a/\Bq b/\Bd ((a.den:Int)*b.den)/\q (.fz (frR (a-b)))
def Iw:ST:=λts q=>∃a b:Rat,ts=[frR a,frR b]/\Bq a/\Bq b/\Bd ((a.den:Int)*b.den)/\q (.fz (frR (a*b)))
def Vv:ST:=λts q=>∃a b:Rat,ts=[frR a,frR b]/\b≠0/\Bq a/\Bq b/\Bd ((a.den:Int)*b.num)/\q (.fz (frR (a/b)))
def xH:ST:=λts q=>∃a b:Rat,ts=[frR a,frR b]/\Bq a/\Bq b/\q (.fz (.bl (decide (a<b))))
theorem mD{a b:Int}(ha:a≠0)(hb:b≠0):a*b≠0:=λz=>(Int.mul_eq_zero.mp z).elim ha hb
section
variable(dI:OkT P w K mg base 2 nu m9 sH)
include dI
theorem acg(F:Fun K zZ zZ Ut f fd):cj P w K mg base CX0 3 f fd zY (spT K NT):=by
 refine F.okT acI (λts R hP=>by obtain⟨t,b,e,_⟩:=hP;exact e ▸ rfl) λag A outer s H E hr=>?_;refine⟨_,(bG (bQ (bI dI hr.md (by rfl) (bx (bK cN (bK cB (bJ (qv 0) bA) (bJ (qv 1) bA)) (bK cB (bJ (qv 1) bA) (bJ (qv 0) bA))) (bx (bK cB (bJ (qv 0) bA) (bJ (qv 1) bA)) bF))))),?_⟩;rintro _ R ⟨a,b,rfl,ha,hb,hd,q⟩;refine⟨⟨ha.1,hb.2⟩,⟨hb.1,ha.2⟩,⟨ha.2,hb.2⟩,_,_,rfl,mD (jm a) (jm b),hd,λx y l=>?_⟩;rw[iR l (mD (jm a) (jm b)),<- JJ _ _ (jm a) (jm b),rd,rd];exact q
theorem YH(F:Fun K sW sW MF f fd):cj P w K mg base CX0 3 f fd sJ (spT K Bb):=by
 refine F.okT X_ (λts R hP=>by obtain⟨t,b,e,_⟩:=hP;exact e ▸ rfl) λag A outer s H E hr=>?_;refine⟨_,(bG (bQ (bI dI hr.md (by rfl) (bx (bK mC (bK cB (bJ (qv 0) bA) (bJ (qv 1) bA)) (bK cB (bJ (qv 1) bA) (bJ (qv 0) bA))) (bx (bK cB (bJ (qv 0) bA) (bJ (qv 1) bA)) bF))))),?_⟩;rintro _ R ⟨a,b,rfl,ha,hb,hd,q⟩;refine⟨⟨ha.1,hb.2⟩,⟨hb.1,ha.2⟩,⟨ha.2,hb.2⟩,_,_,rfl,mD (jm a) (jm b),hd,λx y l=>?_⟩;rw[iR l (mD (jm a) (jm b)),<- Rat.divInt_sub_divInt _ _ (jm a) (jm b),rd,rd];exact q
theorem Y7(F:Fun K xq xq N6 f fd):cj P w K mg base CX0 3 f fd vC (spT K Iw):=by
 refine F.okT Zj (λts R hP=>by obtain⟨t,b,e,_⟩:=hP;exact e ▸ rfl) λag A outer s H E hr=>?_;refine⟨_,(bG (bQ (bI dI hr.md (by rfl) (bx (bK cB (bJ (qv 0) bA) (bJ (qv 1) bA)) (bx (bK cB (bJ (qv 0) bA) (bJ (qv 1) bA)) bF))))),?_⟩;rintro _ R ⟨a,b,rfl,ha,hb,hd,q⟩;refine⟨⟨ha.1,hb.1⟩,⟨ha.2,hb.2⟩,_,_,rfl,mD (jm a) (jm b),hd,λx y l=>?_⟩;rw[iR l (mD (jm a) (jm b)),<- T2,rd,rd];exact q
theorem adh(F:Fun K FW FW TV f fd):cj P w K mg base CX0 3 f fd FN (spT K Vv):=by
 refine F.okT abm (λts R hP=>by obtain⟨t,b,e,_⟩:=hP;exact e ▸ rfl) λag A outer s H E hr=>?_;refine⟨_,(bG (bQ (bI dI hr.md (by rfl) (bx (bK cB (bJ (qv 0) bA) (bJ (qv 1) bA)) (bx (bK cB (bJ (qv 0) bA) (bJ (qv 1) bA)) bF))))),?_⟩;rintro _ R ⟨a,b,rfl,h0,ha,hb,hd,q⟩;have nb:b.num≠0:=λz=>h0 (by rw[<- rd b,z];exact TK _);refine⟨⟨ha.1,hb.2⟩,⟨ha.2,hb.1⟩,_,_,rfl,mD (jm a) nb,hd,λx y l=>?_⟩;rw[iR l (mD (jm a) nb),<- T2,rd,<- Rat.inv_def,<- Rat.div_def];exact q
end
theorem aaT(F:Fun K pL pL Oq f fd):cj P w K mg base CX0 1 f fd qu (spT K xH):=by
 refine F.okT Zv (λts R hP=>by obtain⟨t,b,e,_⟩:=hP;exact e ▸ rfl) λag A outer s H E hr=>?_;refine⟨_,(bG (bQ (Dr vQ (bK cB (bJ (qv 0) bA) (bJ (qv 1) bA)) (bK cB (bJ (qv 1) bA) (bJ (qv 0) bA))))),?_⟩;rintro _ R ⟨a,b,rfl,ha,hb,q⟩;refine⟨⟨ha.1,hb.2⟩,⟨hb.1,ha.2⟩,?_⟩;rw[show decide (a<b)=decide (a.num*(b.den:Int)<b.num*(a.den:Int))from decide_eq_decide.mpr (Rat.lt_iff a b)]at q;exact q
def qH:ST:=λts q=>∃r:Rat,ts=[frR r]/\q (.fz (.bl true))
theorem RM(F:Fun K jV jV zm f fd)(T:Txt K mg D)(dB:OkT P w K mg base 1 iC iG m6)(dM:OkT P w K mg base 1 iy iH lY):cj P w K mg base CX0 2 f fd jU (spT K qH):=by
 refine F.okT xu (λts R hP=>by obtain⟨t,e,_⟩:=hP;exact e ▸ rfl) λag A outer s H E hr=>?_;refine⟨_,(bC (cG (QW.qt (nR (fV (dX (Ii .tuple (qv 0) (by rfl) T.lM (by rfl) T.adx boot_tuple))) (kI (bY (sS hr.units) (bV dh (by rfl) T.dY W1 (bx (qv 0) bF)) bA))))
  (bG (bQ v8))
  bT)
  (bC (bM 1 xu.nd (Or.inl rfl) (bJ (qv 0) bA))
  (bC (bM 2 xu.nd (Or.inl rfl) (bJ (qv 0) bA))
  (bC (cG (QW.qt (nR (fV (dX (bI dB hr.md (by rfl) (bx (qv 1) bF)))) (kI (fV (dX (bI dB hr.md (by rfl) (bx (qv 2) bF)))))))
  (bG (bQ v8))
  bT)
  (bG (bQ (Tz (Dr Z2 (qv 2) bA) (SN (Dr (go_eq hr.units) (bI dM hr.md (by rfl) (bx (qv 1) (bx (qv 2) bF))) bA))))))))),?_⟩
 rintro _ R ⟨r,rfl,q⟩;refine⟨_,_,rfl,rfl,_,_,rfl,rfl,?_⟩;have:=r.den_pos;refine swT (Zs (by lia)) ⟨_,_,rfl,?_⟩;rw[show Int.gcd r.num r.den=1 from r.reduced];exact q
noncomputable def alE:List Rat->Nat
 |[]=>1
 |r::rs=>Nat.lcm r.den (alE rs)
noncomputable def cD(n:Nat):List Rat->Nat
 |[]=>n
 |r::rs=>cD (Nat.lcm n r.den) rs
theorem eY:∀(rs:List Rat){n:Nat},0<n->0<cD n rs
 |[],_,h=>h
 |r::rs,_,h=>eY rs (Nat.lcm_pos h r.den_pos)
theorem jy:∀(rs:List Rat){n:Nat},n ∣ cD n rs/\∀r∈rs,r.den ∣ cD n rs
 |[],n=>⟨Nat.dvd_refl n,λ_ z=>(nomatch z)⟩
 |r::rs,n=>by
  obtain⟨a,b⟩:=jy rs (n:=Nat.lcm n r.den);refine⟨Nat.dvd_trans (Nat.dvd_lcm_left ..) a,λx hx=>?_⟩;rcases YU.mp hx with rfl|z
  .exact Nat.dvd_trans (Nat.dvd_lcm_right ..) a
  .exact b x z
theorem pU:∀(rs:List Rat){n m:Nat},n ∣ m->(∀r∈rs,r.den ∣ m)->cD n rs ∣ m
 |[],_,_,h,_=>h
 |r::rs,_,_,h,k=>pU rs (Nat.lcm_dvd h (k r (aO ..))) λx hx=>k x (aJ _ hx)
theorem HY:∀(as bs:List Rat)(n:Nat),cD n (as++bs)=cD (cD n as) bs
 |[],_,_=>rfl
 |_::as,bs,_=>HY as bs _
noncomputable def tops(B:Nat)(rs:List Rat):List Int:=rs.map λr=>r.num*((B/r.den:Nat):Int)
theorem Sy{m n:Nat}(h:Bd (n:Int))(l:m<=n):Bd (m:Int):=Kr (by omega) h
theorem ZD(n d:Nat):(Int.fdiv (n:Int) ((Int.gcd n d:Nat):Int))*d=((Nat.lcm n d:Nat):Int):=by
 rw[show Int.gcd (n:Int) (d:Int)=Nat.gcd n d from rfl,Zwy (Int.natCast_dvd_natCast.mpr (Nat.gcd_dvd_left n d)),<- Int.natCast_ediv,<- Th,Nat.lcm,Nat.div_mul_right_comm (Nat.gcd_dvd_left n d)]
theorem Ie(m n:Nat):Int.fdiv (m:Int) (n:Int)=((m/n:Nat):Int):=by rw[Zyu _ (Wp _)];rfl
def wM:ST:=λts q=>∃rs:List Rat,ts=[.lst (rs.map frR)]/\rs.length<=1000/\(∀r∈rs,Bd r.num)/\Bd (cD 1 rs:Nat)/\q (.fz (.tup [.lst ((tops (cD 1 rs) rs).map T.int),.int (cD 1 rs:Nat)]))
theorem aaJ(F:Fun K qj qj Gd f fd)(dM:OkT P w K mg base 1 iy iH lY):cj P w K mg base CX0 2 f fd pH (spT K wM):=by
 refine F.okT Bt (λts R hP=>by obtain⟨t,e,_⟩:=hP;exact e ▸ rfl) λag A outer s H E hr=>?_;refine⟨_,(bC (bM 1 Bt.nd (Or.inr rfl) bA)
  (bC (dG VZ rfl (cH (qv 0)) (b_ (n:=99) 2 Bt.nd (Or.inl rfl))
  (bG (bM 1 Bt.nd (Or.inr rfl) (bK cB (bK mF (qv 1) (bI dM hr.md (by rfl) (bx (qv 1) (bx (bJ (qv 2) bA) bF)))) (bJ (qv 2) bA)))))
  (bG (bQ (cW (bx (dH (bH Gd) Vr ["fractions","bottom","?one"] ["one"] (cH (qv 0)) (fj (i:=0)) cI (bK cB (bJ (qv 0) bA) (bK mF (qv 2) (bJ (qv 0) bA)))) (bx (qv 1) bF))))))),?_⟩
 rintro _ R ⟨rs,rfl,rl,hn,hB,q⟩;refine fW frR rs (λas o=>∃x,o=[.fz (.lst (rs.map frR)),.fz (.int (cD 1 as:Nat)),x]) ⟨_,rfl⟩ ?_ ?_
 .rintro as a bs _ e ⟨x,rfl⟩;have d1:=(jy (a::bs) (n:=cD 1 as)).1;have el:cD 1 rs=cD (cD 1 as) (a::bs):=by rw[e];exact HY as (a::bs) 1
  have hp:=eY as UY;have hB0:=eY rs UY;have b1:Bd (cD 1 as:Nat):=Sy hB (el ▸ UX (el ▸ hB0) d1);have b2:Bd (a.den:Nat):=Sy hB (UX hB0 ((jy rs).2 a (e ▸ by simp)));refine⟨_,_,rfl,⟨by have:=mX (a:=(cD 1 as:Nat)) (jm a);exact WS this,SQ (jm a) b2⟩,⟨Kr ?_ b1,b2⟩,.fz (frR a),?_⟩
  .rw[show Int.gcd ((cD 1 as:Nat):Int) (a.den:Int)=Nat.gcd (cD 1 as) a.den from rfl,Ie];exact Zyy ..
  .rw[ZD,HY]
   rfl
 .rintro _ ⟨x,rfl⟩;refine⟨aL (by simpa using rl) (by decide),comp_map frR (λr=>.int (r.num*((cD 1 rs/r.den:Nat):Int))) rs (λr hr N M hN=>?_) ?_⟩
  .have b2:Bd (r.den:Nat):=Sy hB (UX (eY rs UY) ((jy rs).2 r hr));refine⟨⟨jm r,b2⟩,⟨hn r hr,Kr ?_ hB⟩,?_⟩
   .rw[Ie];exact Zyy ..
   .rw[Ie];exact hN
  .have:(tops (cD 1 rs) rs).map T.int=rs.map (λr=>.int (r.num*((cD 1 rs/r.den:Nat):Int))):=by unfold tops;rw[WP];rfl
   rw[this]at q;exact q
noncomputable def VG(l:List Nat):Bool:=decide (1<=l.length)&&decide (l.length<=8)&&l.all λc=>decide (97<=c)&&decide (c<=122)
abbrev Wd(n:Str):Prop:=VG n.cps.toList=true
theorem Wd.len{n:Str}(h:Wd n):1<=n.length/\n.length<=8:=by
 unfold Wd VG at h;simp only[Zzt,decide_eq_true_eq,Array.length_toList]at h;exact h.1
theorem VH(c d:Nat):(!decide ((⟨#[d]⟩ : Str).cps.toList<(⟨#[c]⟩ : Str).cps.toList))=decide (c<=d):=by
 have:((⟨#[d]⟩ : Str).cps.toList<(⟨#[c]⟩ : Str).cps.toList)↔d<c:=by
  show[d]<[c]↔d<c;constructor
  .intro h;cases h with
   |rel h=>exact h
   |cons h=>cases h
  .exact λh=>.rel h
 rw[show decide ((⟨#[d]⟩ : Str).cps.toList<(⟨#[c]⟩ : Str).cps.toList)=decide (d<c)from decide_eq_decide.mpr this];by_cases h:c<=d
 .rw[Zs h,Zp (Ts h)];rfl
 .rw[Zp h,Zs (Nat.lt_of_not_le h)];rfl
def uK:ST:=λts q=>∃n:Str,ts=[.str n]/\Wd n/\q (.fz (.bl true))
theorem TF(F:Fun K mq mq xY f fd)(T:Txt K mg D):cj P w K mg base CX0 1 f fd lX (spT K uK):=by
 refine F.okT Sv (λts R hP=>by obtain⟨t,e,_⟩:=hP;exact e ▸ rfl) λag A outer s H E hr=>?_;refine⟨_,(bC (cG (QW.qt (nR (fV (dX (Ii .str (qv 0) (by rfl) T.lM (by rfl) T.akS boot_str))) (kI (fV (Rm Qj Qj bA (bV adk (by rfl) T.dY W1 (bx (qv 0) bF)) (aaH (by rfl) T.Hw λ_=>.int _))))))
  (bG (bQ v8))
  bT)
  (bG (bQ (bV (afF rfl) (by rfl) T.agZ boot_all (bx (dH (bH xY) Du Du ["sign"] (afm (qv 0)) (fj (i:=0)) cI (Qq aaA aaA uG (qv 0) uG)) bF))))),?_⟩
 rintro _ R ⟨n,rfl,hw,q⟩;obtain⟨l1,l8⟩:=hw.len;refine⟨aL l8 (by decide),swT (Zs (by lia)) (swF (by rw[Zs (show((n.length:Nat):Int)<=8 by lia)];rfl) ⟨by rw[ak];exact aL l8 (by decide),comp_map (λc=>.str ⟨#[c]⟩) (λc=>.bl (decide (97<=c)&&decide (c<=122))) n.cps.toList (λc _ N M hN=>?_) ⟨n.cps.toList.map λc=>decide (97<=c)&&decide (c<=122),by rw[WP];rfl,?_⟩⟩)⟩
 .have e1:(!decide ((⟨#[c]⟩ : Str).cps.toList<("a":Str).cps.toList))=decide (97<=c):=by rw[show("a":Str)=⟨#[97]⟩from by decide +kernel];exact VH 97 c
  have e2:(!decide (("z":Str).cps.toList<(⟨#[c]⟩ : Str).cps.toList))=decide (c<=122):=by rw[show("z":Str)=⟨#[122]⟩from by decide +kernel];exact VH c 122
  refine sw2 (λh=>?_) λh=>?_
  .rw[<- e1,h,<- e2]at hN;exact hN
  .rw[<- e1,h]at hN;exact hN
 .have:((n.cps.toList.map λc=>decide (97<=c)&&decide (c<=122)).all λb=>b)=true:=by
   unfold Wd VG at hw;rw[Zzt]at hw;rw[List.all_map];exact hw.2
  rw[<- this]at q;exact q
def qZ:ST:=λts q=>∃(n:Str)(r:Rat),ts=[.str n,frR r]/\Wd n/\q (.fz .non)
theorem Jr(F:Fun K ji ji uf f fd)(iJ:OkT P w K mg base 1 mq lX uK)(gA:OkT P w K mg base 2 jV jU qH):cj P w K mg base CX0 3 f fd jt (spT K qZ):=by
 refine F.okT Jq (λts R hP=>by obtain⟨t,r,e,_⟩:=hP;exact e ▸ rfl) λag A outer s H E hr=>?_;refine⟨_,(bC (cG (fV (dX (bI iJ hr.md (by rfl) (bx (qv 0) bF))))
  (bG fM)
  bT)
  (bG (cG (fV (dX (bI gA hr.md (by rfl) (bx (qv 1) bF))))
  (bG fM)
  bT))),?_⟩
 rintro _ R ⟨n,r,rfl,hw,q⟩;exact⟨_,rfl,hw,_,rfl,q⟩
def jN:ST:=λts q=>∃n:Str,ts=[.str n]/\Wd n/\q (.fz .non)
theorem zy(F:Fun K eN eN kj f fd)(iJ:OkT P w K mg base 1 mq lX uK):cj P w K mg base CX0 2 f fd eU (spT K jN):=by
 refine F.okT zx (λts R hP=>by obtain⟨t,e,_⟩:=hP;exact e ▸ rfl) λag A outer s H E hr=>?_;refine⟨_,(bG (cG (fV (dX (bI iJ hr.md (by rfl) (bx (qv 0) bF))))
  (bG fM)
  bT)),?_⟩
 rintro _ R ⟨n,rfl,hw,q⟩;exact⟨_,rfl,hw,q⟩
def Ch(r:Rat):Prop:=0<=r/\r<=1/\Bd (r.den:Nat)
theorem Ch.bq{r:Rat}(h:Ch r):Bq r:=by
 have h0:=Rat.num_nonneg.mpr h.1;have h1:=(Rat.le_iff r 1).mp h.2.1;exact⟨Kr (by have:r.num*((1:Rat).den:Int)<=(1:Rat).num*(r.den:Int):=h1;simp at this;omega) h.2.2,h.2.2⟩
theorem bq0:Bq 0:=⟨Nat.two_pow_pos 8000,Nat.one_lt_two_pow (by decide)⟩
theorem bq1:Bq 1:=⟨Nat.one_lt_two_pow (by decide),Nat.one_lt_two_pow (by decide)⟩
def nF:ST:=λts q=>∃r:Rat,ts=[frR r]/\Ch r/\q (.fz .non)
theorem Fp(F:Fun K gH gH pZ f fd)(T:Txt K mg D)(gA:OkT P w K mg base 2 jV jU qH)(gY:OkT P w K mg base 1 pL qu xH):cj P w K mg base CX0 3 f fd gK (spT K nF):=by
 refine F.okT Fy (λts R hP=>by obtain⟨t,e,_⟩:=hP;exact e ▸ rfl) λag A outer s H E hr=>?_;refine⟨_,(bG (cG (QW.qt (nR (fV (dX (bI gA hr.md (by rfl) (bx (qv 0) bF)))) (nR (dX (bI gY hr.md (by rfl) (bx (qv 0) (bx (lW (by rfl) T.jz T.gO) bF)))) (kI (dX (bI gY hr.md (by rfl) (bx (lW (by rfl) T.Ep T.vZ) (bx (qv 0) bF))))))))
  (bG fM)
  bT)),?_⟩
 rintro _ R ⟨r,rfl,hc,q⟩;refine⟨_,rfl,r,0,rfl,hc.bq,bq0,?_⟩;rw[Zp (Rat.not_lt.mpr hc.1)];refine⟨1,r,rfl,bq1,hc.bq,?_⟩;rw[Zp (Rat.not_lt.mpr hc.2.1)];exact q
noncomputable def Ah(rs:List Rat):Rat:=rs.foldr (· + ·) 0
theorem Qt{B:Nat}(hB:B≠0):∀{rs:List Rat},(∀r∈rs,r.den ∣ B)->Rat.divInt (tops B rs).sum B=Ah rs
 |[],_=>by show Rat.divInt 0 _=0;exact TK _
 |r::rs,h=>by
  have ih:=Qt hB (rs:=rs) λx hx=>h x (aJ _ hx);have mh:((B:Nat):Int)≠0:=by lia
  obtain⟨m,hm⟩:=h r (aO ..);show Rat.divInt (r.num*((B/r.den:Nat):Int)+(tops B rs).sum) B=r+Ah rs;have e1:r+Ah rs=Rat.divInt (r.num*B+(tops B rs).sum*r.den) (r.den*B):=by rw[<- JJ _ _ (jm r) mh,rd,ih]
  rw[e1];refine(Zyz mh (mD (jm r) mh)).mpr ?_;have:B/r.den=m:=by rw[hm];exact Zww _ r.den_pos
  rw[this,hm];simp only[Th]
  grind
def P0:ST:=λts q=>∃rs:List Rat,ts=[.lst (rs.map frR)]/\rs.length<=1000/\(∀r∈rs,Bd r.num)/\Bd (cD 1 rs:Nat)/\q (.fz (frR (Ah rs)))
theorem Zy(F:Fun K Al Al MJ f fd)(T:Txt K mg D)(jC:OkT P w K mg base 2 qj pH wM)(dI:OkT P w K mg base 2 nu m9 sH):cj P w K mg base CX0 3 f fd Cd (spT K P0):=by
 refine F.okT R3 (λts R hP=>by obtain⟨t,e,_⟩:=hP;exact e ▸ rfl) λag A outer s H E hr=>?_;refine⟨_,(bC (bM 1 R3.nd (Or.inl rfl) (bI jC hr.md (by rfl) (bx (qv 0) bF)))
  (bG (bQ (bI dI hr.md (by rfl) (bx (bV (Oj rfl) (by rfl) T.U9 boot_sum (bx (bJ (qv 1) bA) bF)) (bx (bJ (qv 1) bA) bF)))))),?_⟩
 rintro _ R ⟨rs,rfl,rl,hn,hB,q⟩;have hp:=eY rs UY;have hz:((cD 1 rs:Nat):Int)≠0:=by lia
 refine⟨rs,rfl,rl,hn,hB,_,rfl,_,_,rfl,hz,hB,λx y l=>?_⟩;rw[iR l hz,Qt (UT hp) (jy rs).2];exact q
abbrev wyT(p:Str×Rat):T:=.tup [.str p.1,frR p.2]
def wQ:ST:=λts q=>∃ps:List (Str×Rat),ts=[.lst (ps.map wyT)]/\ps.length<=1000/\(∀p∈ps,Wd p.1/\Ch p.2)/\Bd (cD 1 (ps.map (·.2)):Nat)/\Ah (ps.map (·.2))=1/\q (.fz .non)
theorem Hu(F:Fun K jY jY mY f fd)(T:Txt K mg D)(dU:OkT P w K mg base 2 eN eU jN)(fY:OkT P w K mg base 3 gH gK nF)(KY:OkT P w K mg base 3 Al Cd P0):cj P w K mg base CX0 4 f fd j_ (spT K wQ):=by
 refine F.okT pW (λts R hP=>by obtain⟨t,e,_⟩:=hP;exact e ▸ rfl) λag A outer s H E hr=>?_;refine⟨_,(bC (dG VZ rfl (cH (qv 0)) (fu (n:=2) rfl (bR (b_ (n:=99) 1 pW.nd (Or.inl rfl)) (bR (b_ (n:=99) 2 pW.nd (Or.inl rfl)) dF)))
  (bC (jJ (bI dU hr.md (by rfl) (bx (qv 1) bF)))
  (bG (jJ (bI fY hr.md (by rfl) (bx (qv 2) bF))))))
  (bG (cG (bY (sS hr.units) (bI KY hr.md (by rfl) (bx (dH (bH mY) rJ rJ ["pair"] (cH (qv 0)) (fj (i:=0)) cI (bJ (qv 0) bA)) bF)) (lW (by rfl) T.Ep T.vZ))
  (bG fM)
  bT))),?_⟩
 rintro _ R ⟨ps,rfl,pl,hp,hB,hs,q⟩;refine fW wyT ps (λ_ o=>∃x y,o=[.fz (.lst (ps.map wyT)),x,y]) ⟨_,_,rfl⟩ ?_ ?_
 .rintro as a bs _ e ⟨x,y,rfl⟩;obtain⟨h1,h2⟩:=hp a (e ▸ by simp);exact⟨rfl,_,rfl,h1,_,rfl,h2,_,_,rfl⟩
 .rintro _ ⟨x,y,rfl⟩;refine⟨aL (by simpa using pl) (by decide),comp_map wyT (λp=>frR p.2) ps (λp _ N M hN=>hN) ⟨ps.map (·.2),by rw[WP];rfl,by simpa using pl,λr hr=>?_,hB,?_⟩⟩
  .obtain⟨p,c9,rfl⟩:=YV.mp hr;exact(hp p c9).2.bq.1
  .rw[hs];exact q
def addW(ws:List (Str×Rat))(p:Str×Rat):List (Str×Rat):=if(ws.any λx=>decide (x.1=p.1))=true then ws.map (λx=>if x.1=p.1 then(x.1,x.2+p.2)else x)else ws++[p]
def jA(ps:List (Str×Rat)):List (Str×Rat):=ps.foldl addW []
noncomputable abbrev wKs(ws:List (Str×Rat)):List Key:=ws.map λx=>.inr x.1
abbrev wTs(ws:List (Str×Rat)):List T:=ws.map λx=>frR x.2
theorem agf(ws:List (Str×Rat))(n:Str):Nh (wKs ws) (.inr n)=ws.any λx=>decide (x.1=n):=by
 unfold Nh;rw[List.any_map]
 congr 1
 funext x
 exact decide_eq_decide.mpr ⟨λz=>Sum.inr.inj z,λz=>ZH Sum.inr z⟩
theorem T9(n:Str):∀ws:List (Str×Rat),pO (wKs ws) (wTs ws) (.inr n)=(ws.find? λx=>decide (x.1=n)).map λx=>frR x.2
 |[]=>rfl
 |x::ws=>by
  show(if(Sum.inr x.1:Key)=.inr n then some (frR x.2)else pO (wKs ws) (wTs ws) (.inr n))=_;by_cases h:x.1=n
  .rw[ZY (ZH Sum.inr h),List.find?_cons_of_pos (p:=λx:Str×Rat=>decide (x.1=n)) (Zs h)];rfl
  .rw[ZZ λz=>h (Sum.inr.inj z),List.find?_cons_of_neg (p:=λx:Str×Rat=>decide (x.1=n)) (by show ¬decide (x.1=n)=true;rw[Zp h];decide),T9 n ws]
noncomputable def zE(ws:List (Str×Rat))(n:Str):Rat:=((ws.find? λx=>decide (x.1=n)).map (·.2)).getD 0
theorem abD(ws:List (Str×Rat))(n:Str):((pO (wKs ws) (wTs ws) (.inr n)).getD (frR 0))=frR (zE ws n):=by
 rw[T9];unfold zE;cases(ws.find? λx=>decide (x.1=n))<;>rfl
theorem Wb{ws:List (Str×Rat)}{n:Str}(nd:(ws.map (·.1)).Nodup){x:Str×Rat}(hx:x∈ws)(e:x.1=n):(ws.find? λy=>decide (y.1=n))=some x:=by
 induction ws with
 |nil=>cases hx
 |cons y ws ih =>
  obtain⟨n1,n2⟩:=List.nodup_cons.mp nd;rcases YU.mp hx with rfl|z
  .exact List.find?_cons_of_pos (p:=λy:Str×Rat=>decide (y.1=n)) (Zs e)
  .rw[List.find?_cons_of_neg (p:=λy:Str×Rat=>decide (y.1=n)) (by show ¬decide (y.1=n)=true;rw[Zp λw=>n1 (YV.mpr ⟨x,z,e.trans w.symm⟩)];decide)];exact ih n2 z
theorem aj6(ws:List (Str×Rat))(p:Str×Rat)(nd:(ws.map (·.1)).Nodup):kpK (wKs ws) (.inr p.1)=wKs (addW ws p)/\kpT (wKs ws) (wTs ws) (.inr p.1) (frR (zE ws p.1+p.2))=wTs (addW ws p):=by
 unfold kpK kpT addW;rw[agf];by_cases h:(ws.any λx=>decide (x.1=p.1))=true
 .rw[ZY h,ZY h,ZY h];refine⟨by simp only[wKs,WP];refine U1 λx _=>?_;show(Sum.inr x.1:Key)=.inr (if x.1=p.1 then(x.1,x.2+p.2)else x).1;split<;>rfl,?_⟩
  clear h
  rw[show wTs (ws.map λx=>if x.1=p.1 then(x.1,x.2+p.2)else x)=ws.map ((λx=>frR x.2) ∘ λx=>if x.1=p.1 then(x.1,x.2+p.2)else x)from WP]
  suffices H:∀(us:List (Str×Rat)),(∀x∈us,x.1=p.1->x.2=zE ws p.1)->List.zipWith (λ(k:Key)x=>if k=.inr p.1 then frR (zE ws p.1+p.2)else x) (wKs us) (wTs us)=us.map ((λx=>frR x.2) ∘ λx=>if x.1=p.1 then(x.1,x.2+p.2)else x)from H ws λx hx e=>by
   unfold zE;rw[Wb nd hx e];rfl
  intro us
  induction us with
  |nil=>intro _;rfl
  |cons x us ih =>
   intro H;show List.zipWith _ (Sum.inr x.1::wKs us) (frR x.2::wTs us)=_;rw[List.zipWith_cons_cons,ih λy hy=>H y (aJ _ hy),List.map_cons]
   congr 1
   by_cases e:x.1=p.1
   .rw[ZY (ZH Sum.inr e)];show _=frR (if x.1=p.1 then(x.1,x.2+p.2)else x).2;rw[ZY e,H x (aO ..) e]
   .rw[ZZ λz=>e (Sum.inr.inj z)];show _=frR (if x.1=p.1 then(x.1,x.2+p.2)else x).2;rw[ZZ e]
 .rw[ZZ h,ZZ h,ZZ h];have n0:zE ws p.1=0:=by
   unfold zE;rw[List.find?_eq_none.mpr λx hx z=>h (List.any_eq_true.mpr ⟨x,hx,z⟩)];rfl
  rw[n0,Rat.zero_add];simp only[wKs,wTs,bf];exact⟨rfl,rfl⟩
theorem adw{ws:List (Str×Rat)}{p:Str×Rat}(nd:(ws.map (·.1)).Nodup):((addW ws p).map (·.1)).Nodup:=by
 unfold addW;by_cases h:(ws.any λx=>decide (x.1=p.1))=true
 .rw[ZY h,WP];rw[show ws.map ((λx=>x.1) ∘ λx=>if x.1=p.1 then(x.1,x.2+p.2)else x)=ws.map (·.1)from U1 λx _=>by show(if x.1=p.1 then(x.1,x.2+p.2)else x).1=x.1;split<;>rfl];exact nd
 .rw[ZZ h,bf];refine List.nodup_append.mpr ⟨nd,by simp,λa ha b hb z=>h ?_⟩;obtain⟨x,hx,rfl⟩:=YV.mp ha;rw[List.map_singleton,YR]at hb;exact List.any_eq_true.mpr ⟨x,hx,Zs (z.trans hb)⟩
theorem Xh(as bs:List (Str×Rat)):jA (as++bs)=bs.foldl addW (jA as):=List.foldl_append ..
theorem QM(ps:List (Str×Rat)):((jA ps).map (·.1)).Nodup:=by
 suffices H:∀(ps ws:List (Str×Rat)),(ws.map (·.1)).Nodup->((ps.foldl addW ws).map (·.1)).Nodup from H ps [] .nil
 intro ps
 induction ps with
 |nil=>exact λ_ h=>h
 |cons p ps ih=>exact λws h=>ih _ (adw h)
theorem KD(ps:List (Str×Rat)):(jA ps).length<=ps.length:=by
 suffices H:∀(ps ws:List (Str×Rat)),(ps.foldl addW ws).length<=ws.length+ps.length from by simpa[jA]using H ps []
 intro ps
 induction ps with
 |nil=>exact λ_=>aG _
 |cons p ps ih =>
  intro ws;have h1:(addW ws p).length<=ws.length+1:=by
   unfold addW;split
   .rw[ak];exact Xs _
   .rw[aA,List.length_singleton];exact aG _
  have:=ih (addW ws p);rw[List.foldl_cons,List.length_cons];lia
def adG(ps:List (Str×Rat)):Prop:=∀as a bs,ps=as++a::bs->Bq (zE (jA as) a.1)/\Bq a.2/\Bd (((zE (jA as) a.1).den:Int)*a.2.den)
def Bp(ps:List (Str×Rat)):List (Str×Rat):=(jA ps).filter λp=>!decide (p.2=0)
def wX:ST:=λts q=>∃ps:List (Str×Rat),ts=[.lst (ps.map wyT)]/\ps.length<=1000/\adG ps/\q (.l1 ((Bp ps).map wyT))
theorem Ji(F:Fun K j4 j4 mJ f fd)(T:Txt K mg D)(Eb:OkT P w K mg base 3 zZ zY NT):cj P w K mg base CX0 4 f fd lg (spT K wX):=by
 refine F.okT lU (λts R hP=>by obtain⟨t,e,_⟩:=hP;exact e ▸ rfl) λag A outer s H E hr=>?_;refine⟨_,(bC (g_ 1 lU.nd (Or.inr rfl) Ls)
  (bC (dG VZ rfl (cH (qv 0)) (fu (n:=2) rfl (bR (b_ (n:=99) 2 lU.nd (Or.inl rfl)) (bR (b_ (n:=99) 3 lU.nd (Or.inl rfl)) dF)))
  (bG (N8 1 (yM hr) (bI Eb hr.md (by rfl) (bx (acT 1 (yM hr) (qv 2) (lW (by rfl) T.jz T.gO)) (bx (qv 3) bF))) (qv 2))))
  (bG (adb 1 (bH mJ) yK ["pairs","chances","?room","chance"] ["room"] (fj (i:=0)) (Pa (bY (sS hr.units) (Oe (yM hr) (qv 2) (qv 0)) (lW (by rfl) T.jz T.gO))) (cW (bx (qv 0) (bx (Oe (yM hr) (qv 2) (qv 0)) bF))))))),?_⟩
 rintro _ R ⟨ps,rfl,pl,hb,q⟩;refine fW wyT ps (λas o=>∃x y,o=[.fz (.lst (ps.map wyT)),.d1 (wKs (jA as)) (wTs (jA as)),x,y]) ⟨_,_,rfl⟩ ?_ ?_
 .rintro as a bs _ e ⟨x,y,rfl⟩;obtain⟨h1,h2,h3⟩:=hb as a bs e;refine⟨rfl,_,rfl,zE (jA as) a.1,a.2,ZH (λt=>[t,frR a.2]) (abD (jA as) a.1),h1,h2,h3,_,rfl,?_,.fz (.str a.1),.fz (frR a.2),?_⟩
  .have:=KD as;have:as.length<=ps.length:=by rw[e];simp
   rw[ak];exact Y3 (show _<=1000 by lia) (by decide)
  .obtain⟨k1,k2⟩:=aj6 (jA as) a (QM as);rw[show jA (as++[a])=addW (jA as) a from by rw[Xh];rfl,<- k1,<- k2]
   rfl
 .rintro _ ⟨x,y,rfl⟩;have jl:=KD ps;refine⟨by rw[ak];exact aL (show _<=1000 by exact aL jl pl) (by decide),?_⟩;rw[show(wKs (jA ps)).map kT=(jA ps).map λp=>.str p.1 from WP];refine nC (λp=>.str p.1) (λp=>!decide (p.2=0)) wyT (jA ps) (λp hp N M hN hM=>?_) ?_
  rotate_left
  .exact q
  have ev:pO (wKs (jA ps)) (wTs (jA ps)) (.inr p.1)=some (frR p.2):=by rw[T9,Wb (QM ps) hp rfl];rfl
  refine⟨_,_,rfl,ev,?_⟩;have ez:(decide (p.2.num=0)&&decide ((p.2.den:Int)=1))=decide (p.2=0):=by
   by_cases z:p.2=0
   .rw[z];decide
   .rw[Zp z,Zp λy=>z (Rat.num_eq_zero.mp y)];rfl
  refine sw2 (λh=>⟨_,_,rfl,ev,hN ?_⟩) λh=>hM ?_
  .rw[<- h];exact ZH (λb=>!b) ez.symm
  .rw[<- h];exact ZH (λb=>!b) ez.symm
abbrev uh:Φ:=["name","pay","leads"]
abbrev drT(C:Addr)(n:Str)(p:Rat)(ws:List (Str×Rat)):T:=.ins C uh [.str n,frR p,.lst (ws.map wyT)]
def Pg(D:Adr):SI:=λC ks ts as R=>∃(n:Str)(p:Rat),ks=[]/\ts=[]/\Fam D C/\as=[.str n,frR p]/\Wd n/\R uh [.str n,frR p,.lst []]
theorem Oc(F:Fun K Ab Cw wV f fd)(T:Txt K mg D)(iW:OkT P w K mg base 3 ji jt qZ):cj P w K mg base CX0 4 f fd kO (spI K (Pg D)):=by
 refine F.okI Lg (λC ks ts as R hP=>by obtain⟨n,p,_,_,_,e,_⟩:=hP;exact e ▸ rfl) (by decide) λag A outer s H E hr=>?_;refine⟨_,(bC (jJ (bI iW hr.md (by rfl) (bx (qv 1) (bx (qv 2) bF))))
  (bC (qP (Fm:=Fam D) 0 (λC h=>⟨T.cl C h,T.Gv C h⟩) (qv 1))
  (bC (qP (Fm:=Fam D) 0 (λC h=>⟨T.cl C h,T.Zw C h⟩) (qv 2))
  (bG (qP (Fm:=Fam D) 0 (λC h=>⟨T.cl C h,T.Bs C h⟩) (d_ bF)))))),?_⟩
 rintro a dx C _ _ _ R ⟨n,p,rfl,rfl,hC,rfl,hw,q⟩;exact⟨_,_,rfl,hw,⟨hC,by decide⟩,⟨hC,by decide⟩,⟨hC,by decide⟩,_,_,rfl,q⟩
theorem aaf(D:Adr):Fam D D.Sure:=by simp[Fam]
theorem Xu(D:Adr):Fam D D.Mixed:=by simp[Fam]
theorem aak(D:Adr):Fam D D.Toss:=by simp[Fam]
theorem YQ(D:Adr):Fam D D.Even:=by simp[Fam]
theorem p8(D:Adr):Fam D D.Hall:=by simp[Fam]
def V5(D:Adr):SI:=λC ks ts as R=>∃(n m:Str)(p:Rat),ks=[]/\ts=[]/\Fam D C/\as=[.str n,frR p,.str m]/\Wd n/\Wd m/\R uh [.str n,frR p,.lst ([(m,1)].map wyT)]
theorem LR(F:Fun K Ca Bj wR f fd)(T:Txt K mg D)(jQ:OkI P w K mg base CX0 4 D.Door_init kO (spI K (Pg D)))(dU:OkT P w K mg base 2 eN eU jN):cj P w K mg base CX0 5 f fd nU (spI K (V5 D)):=by
 refine F.okI Li (λC ks ts as R hP=>by obtain⟨n,p,_,_,_,_,e,_⟩:=hP;exact e ▸ rfl) (by decide) λag A outer s H E hr=>?_;refine⟨_,(bC (Gi 0 T.BX jQ hr.md (by rfl) T.Zi (bx (qv 1) (bx (qv 2) bF)))
  (bC (jJ (bI dU hr.md (by rfl) (bx (qv 3) bF)))
  (bG (qP (Fm:=Fam D) 0 (λC h=>⟨T.cl C h,T.Bs C h⟩) (d_ (bx (cW (bx (qv 3) (bx (lW (by rfl) T.Ep T.vZ) bF))) bF)))))),?_⟩
 rintro a dx C _ _ _ R ⟨n,m,p,rfl,rfl,hC,rfl,hw,hm,q⟩;exact⟨_,_,rfl,rfl,hC,rfl,hw,_,rfl,hm,⟨hC,by decide⟩,_,_,rfl,q⟩
structure Prs(ps:List (Str×Rat)):Prop where
 few:ps.length<=1000
 ok:∀p∈ps,Wd p.1/\Ch p.2
 bd:Bd (cD 1 (ps.map (·.2)):Nat)
 one:Ah (ps.map (·.2))=1
 jb:adG ps
def CW(D:Adr):SI:=λC ks ts as R=>∃(n:Str)(p:Rat)(ps:List (Str×Rat)),ks=[]/\ts=[]/\Fam D C/\as=[.str n,frR p,.lst (ps.map wyT)]/\Wd n/\Prs ps/\R uh [.str n,frR p,.lst ((Bp ps).map wyT)]
theorem JZ(F:Fun K yQ yP tY f fd)(T:Txt K mg D)(jQ:OkI P w K mg base CX0 4 D.Door_init kO (spI K (Pg D)))(sE:OkT P w K mg base 4 jY j_ wQ)(rD:OkT P w K mg base 4 j4 lg wX):cj P w K mg base CX0 5 f fd gR (spI K (CW D)):=by
 refine F.okI Jt (λC ks ts as R hP=>by obtain⟨n,p,_,_,_,_,e,_⟩:=hP;exact e ▸ rfl) (by decide) λag A outer s H E hr=>?_;refine⟨_,(bC (Gi 0 T.BX jQ hr.md (by rfl) T.Zi (bx (qv 1) (bx (qv 2) bF)))
  (bC (jJ (bI sE hr.md (by rfl) (bx (qv 3) bF)))
  (bG (qP (Fm:=Fam D) 0 (λC h=>⟨T.cl C h,T.Bs C h⟩) (bI rD hr.md (by rfl) (bx (qv 3) bF)))))),?_⟩
 rintro a dx C _ _ _ R ⟨n,p,ps,rfl,rfl,hC,rfl,hw,h,q⟩;exact⟨_,_,rfl,rfl,hC,rfl,hw,_,rfl,h.few,h.ok,h.bd,h.one,_,rfl,h.few,h.jb,⟨hC,by decide⟩,_,_,rfl,q⟩
def Vn(D:Adr):SI:=λC ks ts as R=>∃(n x y:Str)(p c:Rat),ks=[]/\ts=[]/\Fam D C/\as=[.str n,frR p,frR c,.str x,.str y]/\Wd n/\Ch c/\Prs [(x,c),(y,1-c)]/\R uh [.str n,frR p,.lst ((Bp [(x,c),(y,1-c)]).map wyT)]
theorem NK(F:Fun K Ai Bc vX f fd)(T:Txt K mg D)(iW:OkT P w K mg base 3 ji jt qZ)(fY:OkT P w K mg base 3 gH gK nF)(oU:OkT P w K mg base 3 sW sJ Bb)(dZ:OkI P w K mg base CX0 5 D.Mixed_init gR (spI K (CW D))):cj P w K mg base CX0 6 f fd oM (spI K (Vn D)):=by
 refine F.okI Ot (λC ks ts as R hP=>by obtain⟨n,_,_,p,_,_,_,_,e,_⟩:=hP;exact e ▸ rfl) (by decide) λag A outer s H E hr=>?_;refine⟨_,(bC (jJ (bI iW hr.md (by rfl) (bx (qv 1) (bx (qv 2) bF))))
  (bC (jJ (bI fY hr.md (by rfl) (bx (qv 3) bF)))
  (bG (Gi 0 T.yR dZ hr.md (by rfl) T.Lb (bx (qv 1) (bx (qv 2) (bx (d_ (bx (cW (bx (qv 4) (bx (qv 3) bF))) (bx (cW (bx (qv 5) (bx (bI oU hr.md (by rfl) (bx (lW (by rfl) T.Ep T.vZ) (bx (qv 3) bF))) bF))) bF))) bF))))))),?_⟩
 rintro a dx C _ _ _ R ⟨n,x,y,p,c,rfl,rfl,hC,rfl,hw,hc,h,q⟩;refine⟨_,_,rfl,hw,_,rfl,hc,1,c,rfl,bq1,hc.bq,?_,n,p,_,rfl,rfl,hC,rfl,hw,h,_,_,rfl,q⟩;rw[show(((1:Rat).den:Nat):Int)*(c.den:Int)=(c.den:Int)from JP _];exact hc.2.2
noncomputable def even(bo:Φ):List (Str×Rat):=bo.map λr=>(r,mkRat 1 bo.length)
theorem U6{n:Nat}(h:0<n):frR (mkRat 1 n)=.tup [.int 1,.int (n:Nat)]:=by
 have:mkRat 1 n=⟨1,n,by exact UT h,by show Nat.Coprime 1 n;exact Nat.coprime_one_left n⟩:=by
  rw[Rat.mk_eq_divInt];rfl
 rw[this]
def U7(D:Adr):SI:=λC ks ts as R=>∃(n:Str)(p:Rat)(bo:Φ),ks=[]/\ts=[]/\Fam D C/\as=[.str n,frR p,.lst (bo.map T.str)]/\Wd n/\Prs (even bo)/\R uh [.str n,frR p,.lst ((Bp (even bo)).map wyT)]
theorem Mw(F:Fun K Ba Ce qI f fd)(T:Txt K mg D)(dZ:OkI P w K mg base CX0 5 D.Mixed_init gR (spI K (CW D))):cj P w K mg base CX0 6 f fd oF (spI K (U7 D)):=by
 refine F.okI N7 (λC ks ts as R hP=>by obtain⟨n,p,_,_,_,_,e,_⟩:=hP;exact e ▸ rfl) (by decide) λag A outer s H E hr=>?_;refine⟨_,(bG (Gi 0 T.yR dZ hr.md (by rfl) T.Lb (bx (qv 1) (bx (qv 2) (bx (dH (bH qI) wL wL ["room"] (cH (qv 3)) (fj (i:=0)) cI (cW (bx (qv 0) (bx (cW (bx bA (bx (bV dh (by rfl) T.dY W1 (bx (qv 4) bF)) bF))) bF)))) bF))))),?_⟩;rintro a dx C _ _ _ R ⟨n,p,bo,rfl,rfl,hC,rfl,hw,h,q⟩;have hl:bo.length<=1000:=by have:=h.few;rwa[even,ak]at this
 refine⟨by rw[ak];exact aL hl (by decide),comp_map L2.T.str (λr=>wyT (r,mkRat 1 bo.length)) bo (λr hr N M hN=>?_) ⟨n,p,even bo,rfl,rfl,hC,?_,hw,h,_,_,rfl,q⟩⟩
 .rw[show wyT (r,mkRat 1 bo.length)=.tup [.str r,frR (mkRat 1 bo.length)]from rfl,U6 (List.length_pos_of_mem hr),<- ak (f:=L2.T.str)]at hN;exact hN
 .unfold even;rw[WP]
  rfl
def B_(D:Adr):ST:=λts q=>∃(C:Addr)(n:Str)(p:Rat)(ws:List (Str×Rat)),ts=[drT C n p ws]/\Fam D C/\q (.l1 (ws.map wyT))
theorem Lh(F:Fun K Bw z8 vg f fd)(T:Txt K mg D):cj P w K mg base CX0 1 f fd oX (spT K (B_ D)):=by
 refine F.okT Nu (λts R hP=>by obtain⟨C,n,p,ws,e,_⟩:=hP;exact e ▸ rfl) λag A outer s H E hr=>?_;refine⟨_,(bG (bQ (yr O6 (by rfl) T.Mp boot_list (bx (pI (Fm:=Fam D) (λC h=>⟨T.cl C h,T.Bs C h⟩) (qv 0)) bF)))),?_⟩;rintro _ R ⟨C,n,p,ws,rfl,hC,q⟩;exact⟨hC,_,rfl,q⟩
structure bN where
 name:Str
 pay:Rat
 ways:List (Nat×Rat)
abbrev nwT(p:Nat×Rat):T:=.tup [.int (p.1:Nat),frR p.2]
abbrev ofT(o:bN):T:=.tup [.str o.name,frR o.pay,.lst (o.ways.map nwT)]
abbrev mH:Φ:=["share","numbers","offered"]
noncomputable abbrev nmK(ns:Φ):List Key:=ns.map Sum.inr
noncomputable abbrev nmT(ns:Φ):List T:=(List.range ns.length).map λk:Nat=>.int k
abbrev hlT(D:Adr)(s:Rat)(ns:Φ)(off:List (List bN)):T:=.ins D.Hall mH [frR s,.dct (nmK ns) (nmT ns),.lst (off.map λds=>.lst (ds.map ofT))]
def wg:ST:=λts q=>∃r:Rat,ts=[frR r]/\0<=r/\r<1/\Bq r/\q (.fz .non)
theorem Jb(F:Fun K lF lF rP f fd)(T:Txt K mg D)(gA:OkT P w K mg base 2 jV jU qH)(gY:OkT P w K mg base 1 pL qu xH):cj P w K mg base CX0 3 f fd lC (spT K wg):=by
 refine F.okT Jm (λts R hP=>by obtain⟨t,e,_⟩:=hP;exact e ▸ rfl) λag A outer s H E hr=>?_;refine⟨_,(bG (cG (QW.qt (nR (fV (dX (bI gA hr.md (by rfl) (bx (qv 0) bF)))) (nR (dX (bI gY hr.md (by rfl) (bx (qv 0) (bx (lW (by rfl) T.jz T.gO) bF)))) (kI (fV (dX (bI gY hr.md (by rfl) (bx (qv 0) (bx (lW (by rfl) T.Ep T.vZ) bF)))))))))
  (bG fM)
  bT)),?_⟩
 rintro _ R ⟨r,rfl,h0,h1,hb,q⟩;refine⟨_,rfl,r,0,rfl,hb,bq0,?_⟩;rw[Zp (Rat.not_lt.mpr h0)];refine⟨r,1,rfl,hb,bq1,?_⟩;rw[Zs h1];exact q
theorem Y6(ns:Φ)(n:Str)(h:n∉ns):Nh (nmK ns) (.inr n)=false:=by
 unfold Nh;rw[List.any_map];exact List.any_eq_false.mpr λx hx z=>h ((Sum.inr.inj (of_decide_eq_true z)) ▸ hx)
theorem T4{α:Type}(n:Str):∀(ns:Φ)(ts:List α),n∉ns->pO (nmK ns) ts (.inr n)=none
 |[],_,_=>rfl
 |_::_,[],_=>rfl
 |m::ns,t::ts,h=>by
  show(if(Sum.inr m:Key)=.inr n then some t else pO (nmK ns) ts (.inr n))=none;rw[ZZ λz=>h (by rw[Sum.inr.inj z];exact aO ..)];exact T4 n ns ts λz=>h (aJ _ z)
theorem VL{α:Type}{n:Str} : ∀{ns:Φ}{ts:List α}{k:Nat}{t:α},ns.Nodup->ns[k]?=some n->ts[k]?=some t->pO (nmK ns) ts (.inr n)=some t
 |[],_,_,_,_,e,_=>by cases e
 |m::ns,[],_,_,_,_,e=>by cases e
 |m::ns,u::ts,k,t,nd,e1,e2=>by
  obtain⟨n1,n2⟩:=List.nodup_cons.mp nd;show(if(Sum.inr m:Key)=.inr n then some u else pO (nmK ns) ts (.inr n))=some t;cases k with
  |zero=>cases e1;cases e2;exact ZY rfl
  |succ k =>
   have h8:ns[k]?=some n:=by simpa using e1
   rw[ZZ λ(z:(Sum.inr m:Key)=.inr n)=>n1 (by rw[Sum.inr.inj z];exact aC h8)];exact VL n2 h8 (by simpa using e2)
theorem ags(ns:Φ)(n:Str)(h:n∉ns):kpK (nmK ns) (.inr n)=nmK (ns++[n])/\kpT (nmK ns) (nmT ns) (.inr n) (.int (ns.length:Nat))=nmT (ns++[n]):=by
 unfold kpK kpT;rw[Y6 ns n h];refine⟨by rw[ZZ (by decide)];simp[nmK],?_⟩;rw[ZZ (by decide)];simp only[nmT,aA,List.length_singleton,List.range_succ,bf,List.map_singleton]
noncomputable abbrev rmT(p:Str×List T):T:=.tup [.str p.1,.lst p.2]
def yN:ST:=λts q=>∃ff:List (Str×List T),ts=[.lst (ff.map rmT)]/\ff.length<=1000/\(∀p∈ff,Wd p.1)/\(ff.map (·.1)).Nodup/\q (.d1 (nmK (ff.map (·.1))) (nmT (ff.map (·.1))))
theorem Jw(F:Fun K mG mG tX f fd)(T:Txt K mg D)(iJ:OkT P w K mg base 1 mq lX uK):cj P w K mg base CX0 2 f fd mR (spT K yN):=by
 refine F.okT m5 (λts R hP=>by obtain⟨t,e,_⟩:=hP;exact e ▸ rfl) λag A outer s H E hr=>?_;refine⟨_,(bC (g_ 1 m5.nd (Or.inl rfl) Ls)
  (bC (dG VZ rfl (cH (qv 0)) (b_ (n:=99) 2 m5.nd (Or.inl rfl))
  (bC (bM 3 m5.nd (Or.inl rfl) (bJ (qv 2) bA))
  (bC (cG (QW.qt (nR (fV (dX (bI iJ hr.md (by rfl) (bx (qv 3) bF)))) (kI (Uy 1 (Yg (yM hr) (qv 3) (qv 1))))))
  (bG fM)
  bT)
  (bG (N8 1 (yM hr) (Lp 1 (bV Vu (by rfl) T.dY W1 (bx (qv 1) bF))) (qv 3))))))
  (bG (jE 1)))),?_⟩
 rintro _ R ⟨ff,rfl,rl,hw,nd,q⟩;refine fW rmT ff (λas o=>∃x y,o=[.fz (.lst (ff.map rmT)),.d1 (nmK (as.map (·.1))) (nmT (as.map (·.1))),x,y]) ⟨_,_,rfl⟩ ?_ ?_
 .rintro as a bs _ e ⟨x,y,rfl⟩;have na:a.1∉as.map (·.1):=by
   rw[e,bf,List.map_cons]at nd;exact λz=>(List.nodup_append.mp nd).2.2 a.1 z a.1 (aO ..) rfl
  have al:as.length<=ff.length:=by rw[e];simp
  refine⟨_,rfl,hw a (e ▸ by simp),_,rfl,?_⟩;rw[T4 a.1 _ _ na];refine⟨trivial,_,rfl,by rw[ak,ak];exact Y3 (show _<=1000 by exact aL al rl) (by decide),.fz (rmT a),.fz (.str a.1),?_⟩;obtain⟨k1,k2⟩:=ags (as.map (·.1)) a.1 na;rw[bf,List.map_singleton,<- k1,<- k2];simp only[ak]
  rfl
 .rintro _ ⟨x,y,rfl⟩;exact q
structure NWk(ns:Φ)(us:List (Nat×Rat)):Prop where
 few:us.length<=1000
 lt:∀p∈us,p.1<ns.length
abbrev Qp(ns:Φ)(us:List (Nat×Rat)):List (Str×Rat):=us.map λp=>(ns.getD p.1 ⟨#[]⟩,p.2)
def sX(D:Adr):ST:=λts q=>∃(C:Addr)(n:Str)(p:Rat)(ns:Φ)(us:List (Nat×Rat)),ts=[drT C n p (Qp ns us),.dct (nmK ns) (nmT ns)]/\c7 D C/\ns.Nodup/\NWk ns us/\q (.l1 (us.map nwT))
theorem Ea(F:Fun K iZ iZ nP f fd)(T:Txt K mg D)(vY:OkI P w K mg base CX0 1 D.Door_ways oX (spT K (B_ D))):cj P w K mg base CX0 2 f fd iM (spT K (sX D)):=by
 refine F.okT iT (λts R hP=>by obtain⟨C,n,p,ns,us,e,_⟩:=hP;exact e ▸ rfl) λag A outer s H E hr=>?_;refine⟨_,(bC (g_ 2 iT.nd (Or.inl rfl) (d_ bF))
  (bC (dG VZ rfl (cH (QE.any λC(hC:c7 D C)=>Cg (qv 0) (T.cl C hC.fam) (T.NZ C hC) vY hr.md (KS:=uh))) (fu (n:=2) rfl (bR (b_ (n:=99) 3 iT.nd (Or.inl rfl)) (bR (b_ (n:=99) 4 iT.nd (Or.inl rfl)) dF)))
  (bC (cG (WQ (yM hr) (qv 3) (qv 1))
  (bG fM)
  bT)
  (bG (nG 2 (cW (bx (Oe (yM hr) (qv 1) (qv 3)) (bx (qv 4) bF)))))))
  (bG (jE 2)))),?_⟩
 rintro _ R ⟨C,n,p,ns,us,rfl,hC,nd,hu,q⟩;refine⟨C,hC,⟨rfl,rfl⟩,C,n,p,_,rfl,hC.fam,?_⟩;show uQ _ _ _ (List.map wyT (Qp ns us)) _;rw[show(Qp ns us).map wyT=us.map λp=>wyT (ns.getD p.1 ⟨#[]⟩,p.2)from WP];refine fW (λp=>wyT (ns.getD p.1 ⟨#[]⟩,p.2)) us (λas o=>∃x y,o=[.fz (drT C n p (Qp ns us)),.fz (.dct (nmK ns) (nmT ns)),.l1 (as.map nwT),x,y]) ⟨_,_,rfl⟩ ?_ ?_
 .rintro as a bs _ e ⟨x,y,rfl⟩;have lt:=hu.lt a (e ▸ by simp);have al:as.length<us.length:=by rw[e];simp
  have few:=hu.few;have en:ns[a.1]?=some (ns.getD a.1 ⟨#[]⟩):=by rw[au,aj lt];rfl
  have ev:pO (nmK ns) (nmT ns) (.inr (ns.getD a.1 ⟨#[]⟩))=some (.int (a.1:Nat)):=VL nd en (by rw[aq,Up lt];rfl);refine⟨rfl,_,rfl,?_⟩;rw[ev];refine⟨_,_,rfl,ev,by rw[ak];exact Y3 (show _<=1000 by exact aL (Y2 al) few) (by decide),.fz (.str (ns.getD a.1 ⟨#[]⟩)),.fz (frR a.2),?_⟩;rw[bf]
  rfl
 .rintro _ ⟨x,y,rfl⟩;exact q
structure Made where
 cls:Addr
 of:bN
abbrev mdT(ns:Φ)(m:Made):T:=drT m.cls m.of.name m.of.pay (Qp ns m.of.ways)
structure Mds(D:Adr)(ns:Φ)(ds:List Made):Prop where
 few:ds.length<=1000
 cls:∀m∈ds,c7 D m.cls
 ways:∀m∈ds,NWk ns m.of.ways
 nd:(ds.map λm=>m.of.name).Nodup
theorem abu(ns:Φ)(n:Str)(h:n∉ns):kpK (nmK ns) (.inr n)=nmK (ns++[n])/\kpT (nmK ns) (ns.map λ_=>L2.T.bl true) (.inr n) (.bl true)=(ns++[n]).map λ_=>L2.T.bl true:=by
 unfold kpK kpT;rw[Y6 ns n h];refine⟨by rw[ZZ (by decide)];simp[nmK],?_⟩;rw[ZZ (by decide)];simp
def BK(D:Adr):ST:=λts q=>∃(ns:Φ)(ds:List Made),ts=[.lst (ds.map (mdT ns)),.dct (nmK ns) (nmT ns)]/\ns.Nodup/\Mds D ns ds/\q (.l1 (ds.map λm=>ofT m.of))
theorem Ng(F:Fun K n6 n6 vN f fd)(T:Txt K mg D)(nH:OkT P w K mg base 2 iZ iM (sX D)):cj P w K mg base CX0 3 f fd oA (spT K (BK D)):=by
 refine F.okT n_ (λts R hP=>by obtain⟨ns,ds,e,_⟩:=hP;exact e ▸ rfl) λag A outer s H E hr=>?_;refine⟨_,(bC (g_ 2 n_.nd (Or.inl rfl) Ls)
  (bC (g_ 3 n_.nd (Or.inl rfl) (d_ bF))
  (bC (dG VZ rfl (cH (qv 0)) (b_ (n:=99) 4 n_.nd (Or.inl rfl))
  (bC (cG (Uy 2 (Yg (yM hr) (pI (Fm:=Fam D) (λC h=>⟨T.cl C h,T.Gv C h⟩) (qv 4)) (qv 2)))
  (bG fM)
  bT)
  (bC (N8 2 (yM hr) v8 (pI (Fm:=Fam D) (λC h=>⟨T.cl C h,T.Gv C h⟩) (qv 4)))
  (bG (nG 3 (cW (bx (pI (Fm:=Fam D) (λC h=>⟨T.cl C h,T.Gv C h⟩) (qv 4)) (bx (pI (Fm:=Fam D) (λC h=>⟨T.cl C h,T.Zw C h⟩) (qv 4)) (bx (bI nH hr.md (by rfl) (bx (qv 4) (bx (qv 1) bF))) bF)))))))))
  (bG (jE 3))))),?_⟩
 rintro _ R ⟨ns,ds,rfl,nd,hd,q⟩;refine fW (mdT ns) ds (λas o=>∃x,o=[.fz (.lst (ds.map (mdT ns))),.fz (.dct (nmK ns) (nmT ns)),.d1 (nmK (as.map λm=>m.of.name)) ((as.map λm=>m.of.name).map λ_=>.bl true),.l1 (as.map λm=>ofT m.of),x]) ⟨_,rfl⟩ ?_ ?_
 .rintro as a bs _ e ⟨x,rfl⟩;have na:a.of.name∉as.map λm=>m.of.name:=by
   have nd:=hd.nd;rw[e,bf,List.map_cons]at nd;exact λz=>(List.nodup_append.mp nd).2.2 _ z _ (aO ..) rfl
  have al:as.length<ds.length:=by rw[e];simp
  have few:=hd.few;have ma:a∈ds:=e ▸ by simp
  have hc:=hd.cls a ma;refine⟨hc.fam,_,rfl,_,rfl,?_⟩;rw[T4 _ _ _ na];refine⟨hc.fam,_,rfl,_,rfl,by rw[ak,ak];exact Y3 (show _<=1000 by exact aL (Y2 al) few) (by decide),hc.fam,_,rfl,hc.fam,_,rfl,_,_,_,ns,a.of.ways,rfl,hc,nd,hd.ways a ma,by rw[ak];exact Y3 (show _<=1000 by exact aL (Y2 al) few) (by decide),.fz (mdT ns a),?_⟩;obtain⟨k1,k2⟩:=abu (as.map λm=>m.of.name) a.of.name na;rw[show(as++[a]).map (λm=>m.of.name)=as.map (λm=>m.of.name)++[a.of.name]from bf,<- k1,<- k2,bf]
  rfl
 .rintro _ ⟨x,rfl⟩;exact q
structure ad0(D:Adr)(ns:Φ)(ae:List (List Made)):Prop where
 len:ae.length=ns.length
 few:ns.length<=1000
 wd:∀n∈ns,Wd n
 nd:ns.Nodup
 mds:∀ds∈ae,Mds D ns ds
abbrev zJ(ns:Φ)(ae:List (List Made)):List T:=(ns.zip ae).map λp=>rmT (p.1,p.2.map (mdT ns))
noncomputable abbrev offs(ae:List (List Made)):List (List bN):=ae.map λds=>ds.map λm=>m.of
def V_(D:Adr):SI:=λC ks ts as R=>∃(s:Rat)(ns:Φ)(ae:List (List Made)),C=D.Hall/\ks=[]/\ts=[]/\as=[frR s,.lst (zJ ns ae)]/\0<=s/\s<1/\Bq s/\ad0 D ns ae/\R mH [frR s,.dct (nmK ns) (nmT ns),.lst ((offs ae).map λds=>.lst (ds.map ofT))]
theorem La(F:Fun K Bx Aq qD f fd)(T:Txt K mg D)(rN:OkT P w K mg base 3 lF lC wg)(uz:OkT P w K mg base 2 mG mR yN)(vO:OkT P w K mg base 3 n6 oA (BK D)):cj P w K mg base CX0 4 f fd nW (spI K (V_ D)):=by
 refine F.okI O1 (λC ks ts as R hP=>by obtain⟨n,p,_,_,_,_,e,_⟩:=hP;exact e ▸ rfl) (by decide) λag A outer s H E hr=>?_;refine⟨_,(bC (jJ (bI rN hr.md (by rfl) (bx (qv 1) bF)))
  (bC (qP (Fm:=Fam D) 0 (λC h=>⟨T.cl C h,T.xK C h⟩) (qv 1))
  (bC (qP (Fm:=Fam D) 0 (λC h=>⟨T.cl C h,T.za C h⟩) (bI uz hr.md (by rfl) (bx (qv 2) bF)))
  (bG (qP (Fm:=Fam D) 0 (λC h=>⟨T.cl C h,T.HB C h⟩) (dH (bH qD) u9 u9 ["room"] (cH (qv 2)) (fj (i:=0)) cI (bI vO hr.md (by rfl) (bx (bJ (qv 0) bA) (bx (adq (Fm:=Fam D) 1 (λC h=>⟨T.cl C h,T.za C h⟩)) bF))))))))),?_⟩
 rintro a dx C _ _ _ R ⟨s,ns,ae,rfl,rfl,rfl,rfl,s0,s1,sb,h,q⟩;have z1:(ns.zip ae).map (·.1)=ns:=List.map_fst_zip (by have:=h.len;exact WG (Eq.symm this));have z2:(ns.zip ae).map (·.2)=ae:=List.map_snd_zip (by have:=h.len;exact WG this);have zl:(ns.zip ae).length=ns.length:=by rw[VX,h.len,UV]
 have hf:=p8 D;have few:=h.few;refine⟨_,rfl,s0,s1,sb,⟨hf,by decide⟩,(ns.zip ae).map λp=>(p.1,p.2.map (mdT ns)),by rw[WP];rfl,by rw[ak,zl];exact few,λp hp=>?_,?_,⟨hf,by decide⟩,?_⟩
 .obtain⟨x,hx,rfl⟩:=YV.mp hp;exact h.wd x.1 (z1 ▸ YV.mpr ⟨x,hx,rfl⟩)
 .rw[WP];exact z1.symm ▸ h.nd
 .rw[show((ns.zip ae).map λp=>(p.1,p.2.map (mdT ns))).map (·.1)=ns from List.map_map.trans z1];refine⟨by rw[ak,zl];exact aL few (by decide),comp_map (λp=>rmT (p.1,p.2.map (mdT ns))) (λp=>.lst (p.2.map λm=>ofT m.of)) (ns.zip ae) (λp hp N M hN=>?_) ⟨⟨hf,by decide⟩,_,_,rfl,?_⟩⟩
  .exact⟨hf,_,rfl,ns,p.2,rfl,h.nd,h.mds p.2 (z2 ▸ YV.mpr ⟨p,hp,rfl⟩),hN⟩
  .have:(ns.zip ae).map (λp=>L2.T.lst (p.2.map λm=>ofT m.of))=(offs ae).map λds=>.lst (ds.map ofT):=by
    rw[show(offs ae).map (λds=>L2.T.lst (ds.map ofT))=ae.map λds=>.lst (ds.map λm=>ofT m.of)from by simp[offs,WP,Function.comp_def]]
    conv=>rhs;rw[<- z2,WP]
    rfl
   rw[<- this]at q;exact q
structure PJ(ns:Φ)(off:List (List bN)):Prop where
 len:off.length=ns.length
 few:ns.length<=1000
 fews:∀ds∈off,ds.length<=1000
def nT(D:Adr):ST:=λts q=>∃(s:Rat)(ns:Φ)(off:List (List bN)),ts=[hlT D s ns off]/\q (.fz (.int (ns.length:Nat)))
theorem MN(F:Fun K Bm Af vD f fd)(T:Txt K mg D):cj P w K mg base CX0 1 f fd i_ (spT K (nT D)):=by
 refine F.okT Ml (λts R hP=>by obtain⟨s,ns,off,e,_⟩:=hP;exact e ▸ rfl) λag A outer s H E hr=>?_;refine⟨_,(bG (bQ (bV Vu (by rfl) T.dY W1 (bx (pI (Fm:=Fam D) (λC h=>⟨T.cl C h,T.za C h⟩) (qv 0)) bF)))),?_⟩;rintro _ R ⟨s,ns,off,rfl,q⟩;refine⟨p8 D,_,rfl,?_⟩;rw[<- ak (f:=(Sum.inr:Str->Key))]at q;exact q
def yG(D:Adr):ST:=λts q=>∃(s:Rat)(ns:Φ)(off:List (List bN))(k:Nat),ts=[hlT D s ns off,.int k]/\k<ns.length/\q (.fz .non)
theorem Jz(F:Fun K p7 pR j7 f fd)(T:Txt K mg D)(dB:OkT P w K mg base 1 iC iG m6)(fQ:OkI P w K mg base CX0 1 D.Hall_size i_ (spT K (nT D))):cj P w K mg base CX0 2 f fd gC (spT K (yG D)):=by
 refine F.okT zW (λts R hP=>by obtain⟨s,ns,off,k,e,_⟩:=hP;exact e ▸ rfl) λag A outer s H E hr=>?_;refine⟨_,(bG (cG (QW.qt (nR (fV (dX (bI dB hr.md (by rfl) (bx (qv 1) bF)))) (kI (fV (Rm Qj vQ bA (qv 1) (Cg (qv 0) T.lQ T.tW fQ hr.md (KS:=mH)))))))
  (bG fM)
  bT)),?_⟩
 rintro _ R ⟨s,ns,off,k,rfl,hk,q⟩;refine⟨_,_,rfl,rfl,⟨rfl,rfl⟩,_,_,_,rfl,?_⟩;show sw (!decide ((k:Int)<(ns.length:Nat))) _ _;rw[Zs (show(k:Int)<(ns.length:Nat)by lia)];exact q
def sI(D:Adr):ST:=λts q=>∃(s:Rat)(ns:Φ)(off:List (List bN))(k:Nat)(ds:List bN),ts=[hlT D s ns off,.int k]/\PJ ns off/\off[k]?=some ds/\q (.l1 (ds.map ofT))
theorem cZ{α:Type}{l:List α}{h:α->T}{k:Nat}{a:α}(e:l[k]?=some a):ixT (l.map h) (k:Nat)=some (h a):=by
 show nth (l.map h) k=_;rw[rR,aq,e];rfl
theorem WL(F:Fun K v9 wH mL f fd)(T:Txt K mg D)(kW:OkI P w K mg base CX0 2 D.Hall_check_room gC (spT K (yG D))):cj P w K mg base CX0 3 f fd eZ (spT K (sI D)):=by
 refine F.okT HD (λts R hP=>by obtain⟨s,ns,off,k,ds,e,_⟩:=hP;exact e ▸ rfl) λag A outer s H E hr=>?_;refine⟨_,(bC (jJ (Br (qv 0) T.lQ T.zu kW hr.md (bx (qv 1) bF) (KS:=mH)))
  (bG (bQ (dH (bH mL) rZ rZ ["name","pay","numbered"] (cH (bJ (pI (Fm:=Fam D) (λC h=>⟨T.cl C h,T.HB C h⟩) (qv 0)) (qv 1))) (fu (n:=3) rfl (bR (fj (i:=0)) (bR (fj (i:=1)) (bR (fj (i:=2)) dF)))) cI (cW (bx (qv 0) (bx (qv 1) (bx (yr O6 (by rfl) T.Mp boot_list (bx (qv 2) bF)) bF)))))))),?_⟩
 rintro _ R ⟨s,ns,off,k,ds,rfl,h,e,q⟩;have lk:k<ns.length:=by rw[<- h.len];exact(ao.mp e).1
 refine⟨⟨rfl,rfl⟩,s,ns,off,k,rfl,lk,p8 D,_,rfl,.lst (ds.map ofT),cZ (h:=λds=>L2.T.lst (ds.map ofT)) e,by rw[ak];exact aL (h.fews ds (aC e)) (by decide),comp_map ofT ofT ds (λo _ N M hN=>⟨rfl,hN⟩) q⟩
open Rw (vr iu gU m_ gcL gk gw rT lE Big pJ jo mU jD mZ fP)
noncomputable abbrev Row:=List Int×Int
noncomputable abbrev rwT(r:Row):T:=.tup [.lst (r.1.map T.int),.int r.2]
noncomputable def NN:Nat:=10^600
theorem aeo{i:Int}(h:i.natAbs<=NN*NN*NN):Bd i:=Y3 h (by decide +kernel)
theorem bdN{i:Int}(h:i.natAbs<=NN):Bd i:=aeo (aL h (by decide +kernel))
theorem abK{i:Int}(h:i.natAbs<=NN*NN):Bd i:=aeo (aL h (by decide +kernel))
theorem adD{a b:Int}{m n:Nat}(h1:a.natAbs<=m)(h2:b.natAbs<=n):(a*b).natAbs<=m*n:=by rw[VY];exact WH h1 h2
theorem sV{a b:Int}(h:0<b):Int.fdiv a b=a/b:=Zyu _ (XY h)
def DN:ST:=λts q=>∃r:Row,ts=[.lst (r.1.map T.int),.int r.2]/\0<r.2/\Bd r.2/\r.1.length<=1000/\q (.fz (rwT (iu r)))
theorem Xx(F:Fun K sZ sZ CG f fd)(dM:OkT P w K mg base 1 iy iH lY):cj P w K mg base CX0 2 f fd tK (spT K DN):=by
 refine F.okT yC (λts R hP=>by obtain⟨r,e,_⟩:=hP;exact e ▸ rfl) λag A outer s H E hr=>?_;refine⟨_,(bC (bM 2 yC.nd (Or.inr rfl) (qv 1))
  (bC (dG VZ rfl (cH (qv 0)) (b_ (n:=99) 3 yC.nd (Or.inl rfl))
  (bG (bM 2 yC.nd (Or.inr rfl) (bI dM hr.md (by rfl) (bx (qv 3) (bx (qv 2) bF))))))
  (bG (bQ (cW (bx (dH (bH CG) PK ["tops","bottom","common","?top"] ["top"] (cH (qv 0)) (fj (i:=0)) cI (bK mF (qv 0) (qv 3))) (bx (bK mF (qv 1) (qv 2)) bF))))))),?_⟩
 rintro _ R ⟨⟨tops,b⟩,rfl,hb,bb,tl,q⟩;have hb:0<b:=hb;have bb:Bd b:=bb;refine fW L2.T.int tops (λas o=>∃x,o=[.fz (.lst (tops.map L2.T.int)),.fz (.int b),.fz (.int (gcL as b)),x]) ⟨_,rfl⟩ ?_ ?_
 .rintro as a bs _ e ⟨x,rfl⟩;refine⟨_,_,rfl,.fz (.int a),?_⟩;rw[show gcL (as++[a]) b=((Int.gcd a (gcL as b):Nat):Int)from by unfold gcL;rw[List.foldl_append];rfl]
  rfl
 .rintro _ ⟨x,rfl⟩;have g0:=gk (ts:=tops) hb;have g1:Bd (gcL tops b):=Kr (by have:=rT (ts:=tops) hb;omega) bb;refine⟨by rw[ak];exact aL tl (by decide),comp_map L2.T.int (λt=>.int (t/gcL tops b)) tops (λt ht N M hN=>⟨⟨by exact WS g0,g1⟩,?_⟩) ⟨⟨by exact WS g0,g1⟩,?_⟩⟩
  .rw[sV g0];exact hN
  .rw[sV g0];have:(iu (tops,b)).1.map L2.T.int=tops.map λt=>.int (t/gcL tops b):=WP;rw[<- this];exact q
structure Fn(c:Rat):Prop where
 n:c.num.natAbs<=NN
 d:c.den<=NN
noncomputable abbrev pr(c:Rat):Int×Int:=(c.num,c.den)
def z9:ST:=λts q=>∃(r:Row)(c:Rat),ts=[rwT r,frR c]/\Big NN r/\r.1.length<=1000/\Fn c/\q (.fz (rwT (iu (gU r (pr c)))))
theorem O9(F:Fun K oH oH qW f fd)(T:Txt K mg D)(tL:OkT P w K mg base 2 sZ tK DN):cj P w K mg base CX0 3 f fd nY (spT K z9):=by
 refine F.okT O2 (λts R hP=>by obtain⟨r,c,e,_⟩:=hP;exact e ▸ rfl) λag A outer s H E hr=>?_;refine⟨_,(bG (bQ (bI tL hr.md (by rfl) (bx (dH (bH qW) w6 w6 ["top"] (cH (bJ (qv 0) bA)) (fj (i:=0)) cI (bK cB (qv 0) (bJ (qv 2) bA))) (bx (bK cB (bJ (qv 0) bA) (bJ (qv 1) bA)) bF))))),?_⟩;rintro _ R ⟨r,c,rfl,hr,rl,hc,q⟩;have:=c.den_pos;have cd:((c.den:Nat):Int).natAbs<=NN:=hc.d;refine⟨by rw[ak];exact aL rl (by decide),comp_map L2.T.int (λt=>.int (t*c.num)) r.1 (λt ht N M hN=>⟨⟨bdN (hr.top t ht),bdN hc.n⟩,hN⟩) ⟨⟨bdN hr.bot,bdN cd⟩,gU r (pr c),?_,XZ hr.pos (show(0:Int)<(c.den:Nat)by lia),abK (adD hr.bot cd),by show(r.1.map _).length<=1000;rw[ak];exact rl,q⟩⟩;show _=[L2.T.lst ((r.1.map λt=>t*c.num).map L2.T.int),.int (r.2*c.den)];rw[WP]
 rfl
def Es:ST:=λts q=>∃(r o:Row)(c:Rat),ts=[rwT r,rwT o,frR c]/\Big NN r/\Big NN o/\r.1.length<=1000/\o.1.length=r.1.length/\Fn c/\q (.fz (rwT (iu (m_ r o (pr c)))))
theorem Ra(F:Fun K qX qX uL f fd)(T:Txt K mg D)(dM:OkT P w K mg base 1 iy iH lY)(tL:OkT P w K mg base 2 sZ tK DN):cj P w K mg base CX0 3 f fd qT (spT K Es):=by
 refine F.okT jR (λts R hP=>by obtain⟨r,o,c,e,_⟩:=hP;exact e ▸ rfl) λag A outer s H E hr=>?_;refine⟨_,(bC (bM 3 jR.nd (Or.inl rfl) (bK cB (bJ (qv 1) bA) (bJ (qv 2) bA)))
  (bC (bM 4 jR.nd (Or.inl rfl) (bI dM hr.md (by rfl) (bx (bJ (qv 0) bA) (bx (qv 3) bF))))
  (bC (bM 5 jR.nd (Or.inr rfl) (bK mF (qv 3) (qv 4)))
  (bC (bM 6 jR.nd (Or.inr rfl) (bK cB (bK mF (bJ (qv 0) bA) (qv 4)) (bJ (qv 2) bA)))
  (bC (qK (bH uL) zc zc ["one","another"] (Ia (by rfl) T.R6 (bx (bJ (qv 0) bA) (bx (bJ (qv 1) bA) bF))) (fu (n:=2) rfl (bR (fj (i:=0)) (bR (fj (i:=1)) dF))) cI (bK cN (bK cB (qv 0) (qv 7)) (bK cB (qv 1) (qv 8))) (lR (i:=7) jR.nd rfl (Or.inl rfl)))
  (bG (bQ (bI tL hr.md (by rfl) (bx (qv 7) (bx (bK cB (bJ (qv 0) bA) (qv 5)) bF)))))))))),?_⟩
 rintro _ R ⟨r,o,c,rfl,hr,ho,rl,ol,hc,q⟩;have:=c.den_pos;have cd:((c.den:Nat):Int).natAbs<=NN:=hc.d;have hB:0<o.2*(c.den:Int):=XZ ho.pos (by lia);have bB:=adD ho.bot cd;have g0:=mX (a:=r.2) (WS hB);have gr:((Int.gcd r.2 (o.2*(c.den:Int)):Nat):Int)≠0:=by exact WS g0
 have gl:Int.gcd r.2 (o.2*(c.den:Int))<=r.2.natAbs:=UX (by have:=hr.pos;omega) (Int.gcd_dvd_natAbs_left ..);have gb:Bd ((Int.gcd r.2 (o.2*(c.den:Int)):Nat):Int):=bdN (by have:=hr.bot;lia);have d2:(o.2*(c.den:Int)/((Int.gcd r.2 (o.2*(c.den:Int)):Nat):Int)).natAbs<=NN*NN:=aL (Int.natAbs_ediv_le_natAbs _ _) bB;have d1:(r.2/((Int.gcd r.2 (o.2*(c.den:Int)):Nat):Int)).natAbs<=NN:=aL (Int.natAbs_ediv_le_natAbs _ _) hr.bot;refine⟨⟨bdN ho.bot,bdN cd⟩,_,_,rfl,⟨gr,gb⟩,⟨gr,gb⟩,⟨by rw[sV g0];exact bdN d1,bdN hc.n⟩,?_⟩;rw[sV g0,sV g0];refine⟨by unfold DP;rw[ak,VX,ak,ak,ol,UV];exact aL rl (by decide),?_⟩;rw[zip_map];refine comp_map (λp=>.tup [.int p.1,.int p.2]) (λp=>.int (p.1*(o.2*(c.den:Int)/((Int.gcd r.2 (o.2*(c.den:Int)):Nat):Int))+p.2*(r.2/((Int.gcd r.2 (o.2*(c.den:Int)):Nat):Int)*c.num))) (r.1.zip o.1) (λp hp N M hN=>⟨rfl,⟨bdN (hr.top _ (VQ hp).1),abK d2⟩,⟨bdN (ho.top _ (VQ hp).2),abK (adD d1 hc.n)⟩,hN⟩) ⟨⟨bdN hr.bot,abK d2⟩,m_ r o (pr c),?_,?_,aeo ?_,?_,q⟩
 .show _=[L2.T.lst ((List.zipWith _ r.1 o.1).map L2.T.int),_];rw[Zxu,List.zip,Zxu]
  rfl
 .exact XZ hr.pos (Zxy hB (XY g0) (Q3 ..))
 .rw[Nat.mul_assoc];exact adD hr.bot d2
 .show(List.zipWith _ r.1 o.1).length<=1000;rw[JS,ol,UV];exact rl
open Rw (vr iu gU m_ gcL gk gw rT lE Big pJ jo mU jD mZ fP)
inductive Stp where
 |swap (i j:Nat)|times (i:Nat) (c:Rat)|add (i j:Nat) (c:Rat)
def stT:Stp->T
 |.swap i j=>.tup [.str "swap",.int i,.int j]
 |.times i c=>.tup [.str "times",.int i,frR c]
 |.add i j c=>.tup [.str "add",.int i,.int j,frR c]
noncomputable def rAt(rs:List Row)(i:Nat):Row:=rs.getD i ([],1)
def vL(rs:List Row):Stp->List Row
 |.swap i j=>(rs.set i (rAt rs j)).set j (rAt rs i)
 |.times i c=>rs.set i (iu (gU (rAt rs i) (pr c)))
 |.add i j c=>rs.set i (iu (m_ (rAt rs i) (rAt rs j) (pr c)))
def ah5(n:Nat):Stp->Prop
 |.swap i j=>i<n/\j<n
 |.times i c=>i<n/\Fn c
 |.add i j c=>i<n/\j<n/\Fn c
theorem yu{rs:List Row}{i:Nat}(h:i<rs.length):rs[i]?=some (rAt rs i):=by
 unfold rAt;rw[au,aj h];rfl
theorem d9{rs:List Row}{i:Nat}(h:i<rs.length):rAt rs i∈rs:=aC (yu h)
theorem zU{n i:Nat}(h:i<n):ixN n ((i:Nat):Int)=some i:=by
 unfold ixN;rw[ZY (Wp _),ZY (by lia)];rfl
theorem uo{rs:List Row}{i:Nat}(h:i<rs.length):ixT (rs.map rwT) ((i:Nat):Int)=some (rwT (rAt rs i)):=cZ (yu h)
structure Rws(rs:List Row)(wd:Nat):Prop where
 big:∀r∈rs,Big NN r
 wds:∀r∈rs,r.1.length=wd
 few:rs.length<=100
 wde:wd<=1000
def BL:SO:=λaw ts R=>∃(rs:List Row)(st:Stp)(wd:Nat),aw=[rs.map rwT]/\ts=[stT st]/\Rws rs wd/\ah5 rs.length st/\R [(vL rs st).map rwT]
theorem OD(F:Fun K o7 o7 vH f fd)(T:Txt K mg D)(wZ:OkT P w K mg base 3 oH nY z9)(zH:OkT P w K mg base 3 qX qT Es):cj P w K mg base CX0 4 f fd o8 (spO K BL):=by
 refine F.okO Aw (λaw ts R ⟨rs,st,wd,e1,e2,_⟩=>by rw[e1,e2];rfl) (by decide) λag A outer s H E hr=>?_;refine⟨_,(bC (bM 2 Aw.nd (Or.inl rfl) (uM 0 (bJ (qv 1) bA)))
  (bG (cG (bY (go_eq hr.units) (bJ (qv 1) bA) uG)
  (bC (Dv 0 (uM 0 (bJ (qv 1) bA)) (bJ (qv 1) bA))
  (bG (Dv 0 (qv 2) (bJ (qv 1) bA))))
  (bG (cG (bY (go_eq hr.units) (bJ (qv 1) bA) uG)
  (bG (Dv 0 (bI wZ hr.md (by rfl) (bx (qv 2) (bx (bJ (qv 1) bA) bF))) (bJ (qv 1) bA)))
  (bG (Dv 0 (bI zH hr.md (by rfl) (bx (qv 2) (bx (uM 0 (bJ (qv 1) bA)) (bx (bJ (qv 1) bA) bF)))) (bJ (qv 1) bA)))))))),?_⟩
 rintro as aw ts R tl ⟨rs,st,wd,rfl,rfl,h,hs,q⟩;obtain⟨a,rfl⟩ : ∃a,as=[a]:=by
  match as,tl with
  |[a],_=>exact⟨a,rfl⟩
 have bu:∀(L:List L2.T)(x y:OT),R [L]->∃be,(∀j,slot [.la a L,x,y] j=slot (List.zipWith OT.la [a] be) j\/[a].length<=j)/\be.length=[a].length/\R be:=λL x y q=>⟨[L],λj=>by
  cases j with
  |zero=>exact .inl rfl
  |succ j=>exact .inr (by simp),rfl,q⟩
 have lm:(rs.map rwT).length=rs.length:=ak _
 match st,hs,q with
 |.swap i j,hs,q =>
  refine⟨_,uo hs.1,_,uo hs.2,i,zU (lm ▸ hs.1),j,zU (by rw[VS,lm];exact hs.2),bu _ _ _ ?_⟩;rw[vL,List.map_set,List.map_set]at q;exact q
 |.times i c,hs,q =>
  have m:=d9 hs.1;refine⟨_,uo hs.1,rAt rs i,c,rfl,h.big _ m,by rw[h.wds _ m];exact h.wde,hs.2,i,zU (lm ▸ hs.1),bu _ _ _ ?_⟩;rw[vL,List.map_set]at q;exact q
 |.add i j c,hs,q =>
  have m:=d9 hs.1;have n:=d9 hs.2.1;refine⟨_,uo hs.1,_,uo hs.2.1,rAt rs i,rAt rs j,c,rfl,h.big _ m,h.big _ n,by rw[h.wds _ m];exact h.wde,by rw[h.wds _ m,h.wds _ n],hs.2.2,i,zU (lm ▸ hs.1),bu _ _ _ ?_⟩;rw[vL,List.map_set]at q;exact q
open Rw (vr iu gU m_ gcL gk gw rT lE Big pJ jo mU jD mZ fP)
def um:ST:=λts q=>∃(r:Row)(k:Nat),ts=[rwT r,.int k]/\k<r.1.length/\Big NN r/\q (.fz (frR (vr r k)))
theorem O_(F:Fun K lB lB vK f fd)(dI:OkT P w K mg base 2 nu m9 sH):cj P w K mg base CX0 3 f fd lA (spT K um):=by
 refine F.okT Nj (λts R hP=>by obtain⟨r,k,e,_⟩:=hP;exact e ▸ rfl) λag A outer s H E hr=>?_;refine⟨_,(bG (bQ (bI dI hr.md (by rfl) (bx (bJ (bJ (qv 0) bA) (qv 1)) (bx (bJ (qv 0) bA) bF))))),?_⟩;rintro _ R ⟨r,k,rfl,hk,hr,q⟩;have h0:=hr.pos;refine⟨_,cZ (aj hk),_,_,rfl,by exact WS h0,bdN hr.bot,λx y l=>?_⟩;rw[iR l (WS h0),UK];unfold vr at q;rw[au,aj hk]at q;exact q
def uP:ST:=λts q=>∃(rs:List Row)(wd:Nat),ts=[.lst (rs.map rwT)]/\Rws rs wd/\q (.l1 (rs.map λr=>.lst ((List.range wd).map λk=>frR (vr r k))))
theorem FJ(F:Fun K jG jG iB f fd)(dI:OkT P w K mg base 2 nu m9 sH):cj P w K mg base CX0 3 f fd jF (spT K uP):=by
 refine F.okT Fl (λts R hP=>by obtain⟨r,k,e,_⟩:=hP;exact e ▸ rfl) λag A outer s H E hr=>?_;refine⟨_,(bG (bQ (acJ (bH iB) ig ig "row" (cH (qv 0)) adH cI (Vy (bH iB) ("row"::ig) ("row"::ig) ["top"] (cH (bJ (qv 0) bA)) (fj (i:=0)) cI (bI dI hr.md (by rfl) (bx (qv 0) (bx (bJ (qv 1) bA) bF))))))),?_⟩;rintro _ R ⟨rs,wd,rfl,h,q⟩;refine⟨by rw[ak];exact aL h.few (by decide),comp_map rwT (λr=>.lst ((List.range wd).map λk=>frR (vr r k))) rs (λr hr N M hN=>⟨by rw[ak,h.wds r hr];exact aL h.wde (by decide),?_⟩) q⟩;have hb:=h.big r hr;have h0:=hb.pos;refine comp_map T.int (λt=>frR ((t:Rat)/(r.2:Rat))) r.1 (λt ht N M hN=>⟨_,_,rfl,by exact WS h0,bdN hb.bot,λx y l=>by rw[iR l (WS h0),UK];exact hN⟩) ?_;have e:(r.1.map λt:Int=>frR ((t:Rat)/(r.2:Rat)))=(List.range wd).map λk=>frR (vr r k):=by
  refine Zzx (by rw[ak,ak,WJ,h.wds r hr]) λn h1 h2=>?_;rw[ak]at h1;rw[UU,UU,Zzw];unfold vr;rw[au,aj h1]
  rfl
 rw[e];exact hN
theorem Yq{lo n i:Nat}{t:T}(e:(rng (lo:Nat) n)[i]?=some t):i<n/\t=.int ((lo+i:Nat):Int):=by
 unfold rng at e;rw[aq]at e;by_cases hi:i<n
 .rw[Up hi]at e;cases e;exact⟨hi,rfl⟩
 .rw[aM (by simpa using hi)]at e;cases e
theorem aay{r:Row}{k:Nat}(h:0<r.2)(hk:k<r.1.length):vr r k=0↔r.1[k]=0:=by
 have e:vr r k=(r.1[k] : Rat)/(r.2:Rat):=by unfold vr;rw[au,aj hk];rfl
 have n:(r.2:Rat)≠0:=λz=>by have:=Rat.intCast_eq_zero_iff.mp z;lia
 rw[e];constructor
 .intro z;have:(r.1[k] : Rat)=0:=by grind
  exact Rat.intCast_eq_zero_iff.mp this
 .intro z;rw[z];grind
def yU:ST:=λts R=>∃(rs:List Row)(wd p k:Nat),ts=[.lst (rs.map rwT),.int p,.int k]/\Rws rs wd/\p<=rs.length/\k<wd/\(∀q,p<=q->q<rs.length->vr (rAt rs q) k≠0->R (.fz (.int q)))/\((∀i,p<=i->i<rs.length->vr (rAt rs i) k=0)->R (.fz .non))
theorem JC(F:Fun K mV mV ud f fd)(T:Txt K mg D):cj P w K mg base CX0 1 f fd mO (spT K yU):=by
 refine F.okT yL (λts R hP=>by obtain⟨r,_,_,k,e,_⟩:=hP;exact e ▸ rfl) λag A outer s H E hr=>?_;refine⟨_,(bC (dG VZ rfl (Ku (by rfl) T.dO (bx (qv 1) (bx (bV dh (by rfl) T.dY W1 (bx (qv 0) bF)) bF))) (b_ (n:=99) 3 yL.nd (Or.inl rfl))
  (bG (cG (bY (sS hr.units) (bJ (bJ (bJ (qv 0) (qv 3)) bA) (qv 2)) bA)
  (bG (bQ (qv 3)))
  bT)))
  (bG (bQ jf))),?_⟩
 rintro _ R ⟨rs,wd,p,k,rfl,h,hp,hk,q,q0⟩;have at_:∀i,i<rs.length->k<(rAt rs i).1.length:=λi hi=>by rw[h.wds _ (d9 hi)];exact hk
 have few:=h.few;have lm:(rs.map rwT).length=rs.length:=ak _;refine⟨⟨by lia,by lia,by lia,by lia⟩,Av (λi o=>∃x,o=[.fz (.lst (rs.map rwT)),.fz (.int p),.fz (.int k),x]/\∀j,p<=j->j<p+i->vr (rAt rs j) k=0) _ 0 ⟨_,rfl,λj _ _=>by lia⟩ (λi t o e z=>?_) λo z=>?_⟩
 .obtain⟨hi,rfl⟩:=Yq e;rw[lm]at hi;have eL:p+i<rs.length:=by omega
  obtain⟨x,rfl,hz⟩:=z;have v0:=aay (h.big _ (d9 eL)).pos (at_ _ eL);refine⟨_,uo eL,_,cZ (aj (at_ _ eL)),?_⟩;by_cases c:(rAt rs (p+i)).1[k]'(at_ _ eL)=0
  .refine swF (by show xr true (decide (_=_))=false;rw[Zs c];rfl) ⟨_,rfl,λj hj hl=>?_⟩;by_cases ej:j=p+i
   .rw[ej];exact v0.mpr c
   .exact hz j hj (by lia)
  .exact swT (by show xr true (decide (_=_))=true;rw[Zp c];rfl) (q _ (X2 _ _) eL λz=>c (v0.mp z))
 .obtain⟨x,rfl,hz⟩:=z;refine q0 λj hj hl=>hz j hj ?_;unfold rng;rw[ak,WJ,lm];lia
def Jj:SO:=λaw ts R=>∃(rs:List Row)(ss:List T)(st:Stp)(wd:Nat),aw=[rs.map rwT,ss]/\ts=[stT st]/\Rws rs wd/\ah5 rs.length st/\ss.length<sizeLine/\R [(vL rs st).map rwT,ss++[stT st]]
theorem ZQ(F:Fun K vW vW Ox f fd)(vG:OkF P w K mg base 4 o7 o8 (spO K BL)):cj P w K mg base CX0 5 f fd uZ (spO K Jj):=by
 refine F.okO aag (λaw ts R ⟨rs,ss,st,wd,e1,e2,_⟩=>by rw[e1,e2];rfl) (by decide) λag A outer s H E hr=>?_;refine⟨_,(bC (agh 0 vG hr.md (by rfl) (bx (qv 2) bF))
  (bG (nG 1 (qv 2)))),?_⟩
 rintro as aw ts R tl ⟨rs,ss,st,wd,rfl,rfl,h,hs,hl,q⟩;obtain⟨a,b,rfl⟩ : ∃a b,as=[a,b]:=by
  match as,tl with
  |[a,b],_=>exact⟨a,b,rfl⟩
 refine⟨rs,st,wd,rfl,rfl,h,hs,hl,[(vL rs st).map rwT,ss++[stT st]],λj=>?_,rfl,q⟩
 match j with
 |0=>exact .inl rfl
 |1=>exact .inl rfl
 |j+2=>exact .inr (by simp)
open Rw (vr iu gU m_ gcL gk gw rT lE Big pJ jo mU jD mZ fP)
theorem Gu{rs:List Row}{i:Nat}{r:Row}(h:i<rs.length)(j:Nat):rAt (rs.set i r) j=if j=i then r else rAt rs j:=by
 unfold rAt;rw[au,au,List.getElem?_set];by_cases e:i=j
 .subst e;rw[ZY rfl,ZY rfl,ZY h];rfl
 .rw[ZZ e,ZZ (Ne.symm e)]
theorem Fn.of{a b:Int}(hb:b≠0)(h1:a.natAbs<=NN)(h2:b.natAbs<=NN):Fn (Rat.divInt a b):=by
 have hg:=Zxz a hb;have low:∃x y,Low a b x y:=by
  rcases Int.lt_or_lt_of_ne hb with z|z
  .exact⟨_,_,wN (c:=-((Int.gcd a b:Nat):Int)) hb (by lia) (by lia) (Zwx (by lia) z)⟩
  .exact⟨_,_,wN (c:=((Int.gcd a b:Nat):Int)) hb (by lia) (by lia) (XZ (by lia) z)⟩
 obtain⟨x,y,l⟩:=low;have e:=iR l hb;injection e with e;injection e with e1 e;injection e with e2 e;injection e1 with e1;injection e2 with e2;exact⟨by rw[<- e1];exact aL l.lx h1,by have:=l.ly;lia⟩
theorem ZV{r:Row}{k:Nat}(hk:k<r.1.length):vr r k=Rat.divInt r.1[k] r.2:=by
 unfold vr;rw[au,aj hk,UK];rfl
theorem Fn.vr{r:Row}{k:Nat}(h:Big NN r)(hk:k<r.1.length):Fn (vr r k):=by
 have:=h.pos;rw[ZV hk];exact Fn.of (WS this) (h.top _ (aU _)) h.bot
theorem Fn.inv{c:Rat}(h:Fn c)(h0:c≠0):Fn (1/c):=by
 have nb:c.num≠0:=λz=>h0 (by rw[<- rd c,z];exact TK _);rw[Rat.div_def,Rat.one_mul,Rat.inv_def];exact Fn.of nb h.d h.n
theorem Fn.neg{c:Rat}(h:Fn c):Fn (0-c):=by
 rw[Rat.sub_eq_add_neg,Rat.zero_add];exact⟨by show(-c.num).natAbs<=NN;rw[Int.natAbs_neg];exact h.n,h.d⟩
theorem Fn.bq{c:Rat}(h:Fn c):Bq c:=⟨bdN h.n,bdN h.d⟩
theorem Rws.fn{rs:List Row}{wd i k:Nat}(h:Rws rs wd)(hi:i<rs.length)(hk:k<wd):Fn (Rw.vr (rAt rs i) k):=Fn.vr (h.big _ (d9 hi)) (by rw[h.wds _ (d9 hi)];exact hk)
theorem Rws.of{rs dq:List Row}{wd:Nat}(h:Rws rs wd)(hl:dq.length=rs.length)(hr:∀i,i<rs.length->Big NN (rAt dq i)/\(rAt dq i).1.length=wd):Rws dq wd:=by
 have:∀r∈dq,Big NN r/\r.1.length=wd:=λr hm=>by
  obtain⟨i,hi,e0⟩:=Zxt hm;have e:=yu hi;rw[aj hi,e0]at e;injection e with e;rw[e];exact hr i (hl ▸ hi)
 exact⟨λr hm=>(this r hm).1,λr hm=>(this r hm).2,hl ▸ h.few,h.wde⟩
theorem Ik(rs:List Row)(st:Stp):(vL rs st).length=rs.length:=by cases st<;>simp[vL]
def bgP(r:Row)(k:Nat):Row:=if vr r k=1 then r else iu (gU r (pr (1/vr r k)))
def bgA(rs:List Row)(p q k i:Nat):Row:=if i=p then bgP (rAt rs q) k else rAt rs (Rw.sw p q i)
def swR(rs:List Row)(p q:Nat):List Row:=if q=p then rs else vL rs (.swap p q)
theorem ab0(rs:List Row)(p q:Nat):(swR rs p q).length=rs.length:=by
 unfold swR;split
 .rfl
 .exact Ik _ _
theorem afe{rs:List Row}{p q:Nat}(hp:p<rs.length)(hq:q<rs.length)(i:Nat):rAt (swR rs p q) i=rAt rs (Rw.sw p q i):=by
 unfold swR Rw.sw;by_cases e:q=p
 .subst e;rw[ZY rfl];by_cases c:i=q
  .rw[ZY c,c]
  .rw[ZZ c,ZZ c]
 .rw[ZZ e];show rAt ((rs.set p (rAt rs q)).set q (rAt rs p)) i=_;rw[Gu (by rw[VS];exact hq),Gu hp];by_cases c:i=q
  .subst c;rw[ZY rfl,ZZ e,ZY rfl]
  .rw[ZZ c];by_cases d:i=p
   .rw[ZY d,ZY d]
   .rw[ZZ d,ZZ d,ZZ c]
def BR:SO:=λaw ts R=>∃(rs:List Row)(ss:List T)(wd p q k:Nat),aw=[rs.map rwT,ss]/\ts=[.int p,.int q,.int k]/\Rws rs wd/\p<rs.length/\q<rs.length/\k<wd/\vr (rAt rs q) k≠0/\ss.length+2<sizeLine /\
 ∀dq ia,dq.length=rs.length->(∀i,i<rs.length->rAt dq i=bgA rs p q k i)->ia.length<=ss.length+2->R [dq.map rwT,ia]
theorem af5{x y:RS}{E:DT}{o:List OT}(J:List OT->Prop)(k:∀o',J o'->y E o')(h:(∀o',J o'->y E o')->jh x y E o):jh x y E o:=h k
theorem eqR(v u:Rat):(decide (v.num=u.num)&&decide (((v.den:Nat):Int)=u.den))=decide (v=u):=by
 rw[<- Bool.decide_and];refine decide_eq_decide.mpr ⟨λ⟨a,b⟩=>Rat.ext a (by lia),λz=>by rw[z];exact⟨rfl,rfl⟩⟩
theorem fin2{R:List (List T)->Prop}{a b:Addr}(L M:List T){o:List OT}(q:R [L,M]):∃be,(∀j,slot (.la a L::.la b M::o) j=slot (List.zipWith OT.la [a,b] be) j\/[a,b].length<=j)/\be.length=[a,b].length/\R be:=⟨[L,M],λj=>by
 match j with
 |0=>exact .inl rfl
 |1=>exact .inl rfl
 |j+2=>exact .inr (by simp),rfl,q⟩
theorem X6{α β:Type}{as:List α}{x y:β}(tl : [x,y].length=as.length):∃a b,as=[a,b]:=by
 match as,tl with
 |[a,b],_=>exact⟨a,b,rfl⟩
theorem Nx(F:Fun K oG oG vV f fd)(T:Txt K mg D)(tR:OkF P w K mg base 5 vW uZ (spO K Jj))(jT:OkT P w K mg base 3 lB lA um)(Tn:OkT P w K mg base 3 FW FN Vv):cj P w K mg base CX0 6 f fd oK (spO K BR):=by
 refine F.okO Az (λaw ts R ⟨rs,ss,wd,p,q,k,e1,e2,_⟩=>by rw[e1,e2];rfl) (by decide) λag A outer s H E hr=>?_;refine⟨_,(bC (cG (bY (sS hr.units) (qv 3) (qv 2))
  (bG (I_ 0 1 tR hr.md (by rfl) (bx (cW (bx uG (bx (qv 2) (bx (qv 3) bF)))) bF)))
  bT)
  (bC (bM 5 Az.nd (Or.inl rfl) (bI jT hr.md (by rfl) (bx (uM 0 (qv 2)) (bx (qv 4) bF))))
  (bG (cG (bY (sS hr.units) (qv 5) (lW (by rfl) T.Ep T.vZ))
  (bG (I_ 0 1 tR hr.md (by rfl) (bx (cW (bx uG (bx (qv 2) (bx (bI Tn hr.md (by rfl) (bx (lW (by rfl) T.Ep T.vZ) (bx (qv 5) bF))) bF)))) bF)))
  bT)))),?_⟩
 rintro as aw ts R tl ⟨rs,ss,wd,p,q,k,rfl,rfl,h,hp,hq,hk,h0,hl,ok⟩;obtain⟨a,b,rfl⟩:=X6 tl;have sl:=ab0 rs p q;have sa:=afe hp hq;have gx:Rw.sw p q p=q:=ZY rfl;have swl:∀i,i<rs.length->Rw.sw p q i<rs.length:=λi hi=>by
  unfold Rw.sw;split
  .exact hq
  .split<;>omega
 have hS:Rws (swR rs p q) wd:=h.of sl λi hi=>by rw[sa];exact⟨h.big _ (d9 (swl i hi)),h.wds _ (d9 (swl i hi))⟩
 refine af5 (λo=>∃dL,o=[.la a ((swR rs p q).map rwT),.la b dL,.fz (.int p),.fz (.int q),.fz (.int k),.und]/\dL.length<=ss.length+1) ?_ λgo=>?_
 .rintro _ ⟨dL,rfl,l1⟩;have c9:p<(swR rs p q).length:=by lia
  have hk':k<(rAt (swR rs p q) p).1.length:=by rw[hS.wds _ (d9 c9)];exact hk
  have fn:=hS.fn c9 hk;refine⟨_,uo c9,_,k,rfl,hk',hS.big _ (d9 c9),?_⟩;have v:vr (rAt (swR rs p q) p) k=vr (rAt rs q) k:=by rw[sa,gx]
  rw[v];rw[v]at fn;by_cases e:vr (rAt rs q) k=1
  .refine swF (by show xr true (_&&_)=false;rw[show(decide ((vr (rAt rs q) k).num=1)&&decide (((vr (rAt rs q) k).den:Int)=1))=_ from eqR _ 1,Zs e];rfl) (fin2 _ _ (ok _ _ sl (λi hi=>?_) (aL l1 (Xs _))));rw[sa];unfold bgA bgP;split
   .rename_i c;rw[c,gx]
   .rfl
  .refine swT (by show xr true (_&&_)=true;rw[show(decide ((vr (rAt rs q) k).num=1)&&decide (((vr (rAt rs q) k).den:Int)=1))=_ from eqR _ 1,Zp e];rfl) ⟨1,_,rfl,h0,bq1,fn.bq,by show Bd (1*_);rw[JP];exact bdN fn.n,swR rs p q,dL,.times p (1/vr (rAt rs q) k),wd,rfl,rfl,hS,⟨c9,fn.inv h0⟩,by lia,fin2 _ _ (ok _ _ (by rw[Ik];exact sl) (λi hi=>?_) (by rw[aA];show _+1<=_;exact Nat.succ_le_succ l1))⟩;show rAt ((swR rs p q).set p _) i=_;rw[Gu c9,sa,sa,gx];unfold bgA bgP;split
   .rfl
   .rfl
 .by_cases e:q=p
  .refine swF (by show xr true (decide (_=_))=false;rw[Zs (by lia)];rfl) (go [.la a (rs.map rwT),.la b ss,.fz (.int p),.fz (.int q),.fz (.int k),.und] ⟨ss,?_,by exact Xs _⟩);unfold swR;rw[ZY e]
  .refine swT (by show xr true (decide (_=_))=true;rw[Zp (by lia)];rfl) ⟨rs,ss,.swap p q,wd,rfl,rfl,h,⟨hp,hq⟩,by lia,go [.la a ((vL rs (.swap p q)).map rwT),.la b (ss++[stT (.swap p q)]),.fz (.int p),.fz (.int q),.fz (.int k),.und] ⟨ss++[stT (.swap p q)],?_,by simp⟩⟩;unfold swR;rw[ZZ e]
open Rw (vr iu gU m_ gcL gk gw rT lE Big pJ jo mU jD mZ fP)
def clA(rs:List Row)(p k i:Nat):Row:=if i=p\/vr (rAt rs i) k=0 then rAt rs i else iu (m_ (rAt rs i) (rAt rs p) (pr (0-vr (rAt rs i) k)))
def uR:SO:=λaw ts R=>∃(rs:List Row)(ss:List T)(wd p k:Nat),aw=[rs.map rwT,ss]/\ts=[.int p,.int k]/\Rws rs wd/\p<rs.length/\k<wd/\ss.length+rs.length<sizeLine/\(∀i,i<rs.length->Big NN (clA rs p k i)) /\
 ∀dq ia,dq.length=rs.length->(∀i,i<rs.length->rAt dq i=clA rs p k i)->ia.length<=ss.length+rs.length->R [dq.map rwT,ia]
theorem abx{rs:List Row}{p k i wd:Nat}(h:Rws rs wd)(hp:p<rs.length)(hi:i<rs.length):(clA rs p k i).1.length=wd:=by
 unfold clA;split
 .exact h.wds _ (d9 hi)
 .rw[jD];show(List.zipWith _ (rAt rs i).1 (rAt rs p).1).length=wd;rw[JS,h.wds _ (d9 hi),h.wds _ (d9 hp),UV]
theorem EY(F:Fun K jK jK pX f fd)(T:Txt K mg D)(tR:OkF P w K mg base 5 vW uZ (spO K Jj))(jT:OkT P w K mg base 3 lB lA um)(oU:OkT P w K mg base 3 sW sJ Bb):cj P w K mg base CX0 6 f fd jH (spO K uR):=by
 refine F.okO nJ (λaw ts R ⟨rs,ss,wd,p,k,e1,e2,_⟩=>by rw[e1,e2];rfl) (by decide) λag A outer s H E hr=>?_;refine⟨_,(bG (dG VZ rfl (cY (by rfl) T.dO (bx (Lp 0 (bV dh (by rfl) T.dY W1 (bx (qv 0) bF))) bF)) (b_ (n:=99) 4 nJ.nd (Or.inl rfl))
  (bG (cG (QW.qt (Jh (bY (sS hr.units) (qv 4) (qv 2)) (Cu (bY (sS hr.units) (bJ (bJ (uM 0 (qv 4)) bA) (qv 3)) bA))))
  (bC (bM 5 nJ.nd (Or.inl rfl) (bI oU hr.md (by rfl) (bx (lW (by rfl) T.jz T.gO) (bx (bI jT hr.md (by rfl) (bx (uM 0 (qv 4)) (bx (qv 3) bF))) bF))))
  (bG (I_ 0 1 tR hr.md (by rfl) (bx (cW (bx uG (bx (qv 4) (bx (qv 2) (bx (qv 5) bF))))) bF))))
  bT)))),?_⟩
 rintro as aw ts R tl ⟨rs,ss,wd,p,k,rfl,rfl,h,hp,hk,hl,hb,ok⟩;obtain⟨a,b,rfl⟩:=X6 tl;have lm:(rs.map rwT).length=rs.length:=ak _;have few:=h.few;refine⟨trivial,⟨by lia,by lia⟩,jr (λn o=>∃c8 dL x y,o=[.la a (c8.map rwT),.la b dL,.fz (.int p),.fz (.int k),x,y]/\c8.length=rs.length/\(∀i,i<rs.length->rAt c8 i=if i<n then clA rs p k i else rAt rs i)/\dL.length<=ss.length+n) ⟨rs,ss,_,_,rfl,rfl,λi _=>by rw[ZZ (WV _)],aG _⟩ ?_ ?_⟩
 .rintro n _ hn ⟨c8,dL,x,y,rfl,l1,gi,s1⟩;have hn:n<rs.length:=by rw[lm]at hn;lia
  have rn:rAt c8 n=rAt rs n:=by rw[gi n hn,ZZ (X9 _)]
  have rp:rAt c8 p=rAt rs p:=by
   rw[gi p hp];split
   .unfold clA;rw[ZY (.inl rfl)]
   .rfl
  have h1:Rws c8 wd:=h.of l1 λi hi=>by
   rw[gi i hi];split
   .exact⟨hb i hi,abx h hp hi⟩
   .exact⟨h.big _ (d9 hi),h.wds _ (d9 hi)⟩
  have stay:clA rs p k n=rAt rs n->∀i,i<rs.length->rAt c8 i=if i<n+1 then clA rs p k i else rAt rs i:=λe i hi=>by
   rw[gi i hi];by_cases c:i=n
   .subst c;rw[ZZ (X9 _),ZY (X1 _),e]
   .by_cases d:i<n
    .rw[ZY d,ZY (WU _ d)]
    .rw[ZZ d,ZZ (by lia)]
  by_cases e:n=p
  .exact swF (by show xr true (decide (_=_))=false;rw[Zs (by lia)];rfl) ⟨c8,dL,_,_,rfl,l1,stay (ZY (.inl e)),by lia⟩
  .have ge:n<c8.length:=by lia
   have k3:k<(rAt c8 n).1.length:=by rw[h1.wds _ (d9 ge)];exact hk
   have v0:=aay (h1.big _ (d9 ge)).pos k3;refine swT (by show xr true (decide (_=_))=true;rw[Zp (by lia)];rfl) ⟨_,uo ge,_,cZ (aj k3),?_⟩;by_cases c:(rAt c8 n).1[k]'hk1=0
   .exact swF (by show xr true (decide (_=_))=false;rw[Zs c];rfl) ⟨c8,dL,_,_,rfl,l1,stay (ZY (.inr (by rw[<- rn];exact v0.mpr c))),by lia⟩
   .have fn:=h1.fn ge hk;refine swT (by show xr true (decide (_=_))=true;rw[Zp c];rfl) ⟨_,uo ge,_,k,rfl,k3,h1.big _ (d9 ge),0,_,rfl,bq0,fn.bq,by show Bd (1*_);rw[JP];exact bdN fn.d,c8,dL,.add n p (0-vr (rAt c8 n) k),wd,rfl,rfl,h1,⟨ge,by lia,fn.neg⟩,by lia,vL c8 (.add n p (0-vr (rAt c8 n) k)),dL++[stT (.add n p (0-vr (rAt c8 n) k))],_,_,rfl,by rw[Ik];exact l1,λi hi=>?_,by rw[aA];show _+1<=_;lia⟩;show rAt (c8.set n _) i=_;rw[Gu ge,rn,rp];by_cases d:i=n
    .rw[ZY d,d,ZY (X1 _)];unfold clA;rw[ZZ λz=>z.elim e λz=>c (v0.mp (by rw[rn];exact z))]
    .rw[ZZ d,gi i hi];by_cases d':i<n
     .rw[ZY d',ZY (WU _ d')]
     .rw[ZZ d',ZZ (by lia)]
 .rintro _ ⟨c8,dL,x,y,rfl,l1,gi,s1⟩;rw[lm]at gi s1;exact fin2 _ _ (ok c8 dL l1 (λi hi=>by rw[gi i hi,ZY (by lia)]) (by lia))
open Rw (vr iu gU m_ gcL gk gw rT lE Big pJ jo mU jD mZ fP sg fX fG bW gD gW)
theorem aar(c:Rat):(((pr c).1:Int):Rat)/(((pr c).2:Int):Rat)=c:=by rw[<- UK];exact rd c
theorem Np(c:Rat):0<(pr c).2:=by have:=c.den_pos;show(0:Int)<(c.den:Nat);lia
theorem Vz{r:Row}(h:0<r.2):0<(iu r).2:=Zxy h (XY (gk h)) gw.1
theorem aez{r:Row}{k:Nat}(h:0<r.2)(h0:vr r k≠0):0<(bgP r k).2/\(bgP r k).1.length=r.1.length/\(gcL (bgP r k).1 (bgP r k).2=1\/bgP r k=r)/\∀j,vr (bgP r k) j*vr r k=vr r j:=by
 unfold bgP;by_cases e:vr r k=1
 .rw[ZY e];exact⟨h,rfl,.inr rfl,λj=>by rw[e,Rat.mul_one]⟩
 .rw[ZZ e];have tp:0<(gU r (pr (1/vr r k))).2:=XZ h (Np _);refine⟨Vz tp,by rw[jD];unfold gU;rw[ak],.inl (lE tp),λj=>?_⟩;rw[pJ tp,jo h (Np _),aar]
  grind
theorem af2{rs:List Row}{p k i:Nat}(hi:0<(rAt rs i).2)(hp:0<(rAt rs p).2)(hl:(rAt rs i).1.length=(rAt rs p).1.length):0<(clA rs p k i).2/\(gcL (clA rs p k i).1 (clA rs p k i).2=1\/clA rs p k i=rAt rs i)/\∀j,vr (clA rs p k i) j=if i=p then vr (rAt rs p) j else vr (rAt rs i) j-vr (rAt rs i) k*vr (rAt rs p) j:=by
 unfold clA;by_cases e:i=p
 .rw[ZY (.inl e)];exact⟨hi,.inr rfl,λj=>by rw[ZY e,e]⟩
 .by_cases z:vr (rAt rs i) k=0
  .rw[ZY (.inr z)];exact⟨hi,.inr rfl,λj=>by rw[ZZ e,z];grind⟩
  .rw[ZZ λy=>y.elim e z];have tp:0<(m_ (rAt rs i) (rAt rs p) (pr (0-vr (rAt rs i) k))).2:=by
    have hB:=XZ hp (Np (0-vr (rAt rs i) k));exact XZ hi (Zxy hB (XY (mX (WS hB))) (Q3 _ _))
   refine⟨Vz tp,.inl (lE tp),λj=>?_⟩;rw[pJ tp,mU hi hp (Np _) hl,aar,ZZ e]
   grind
structure FnB(M:Nat)(c:Rat):Prop where
 n:c.num.natAbs<=M
 d:c.den<=M
theorem FnB.vr{M:Nat}{r:Row}{k:Nat}(h:Big M r)(hk:k<r.1.length):FnB M (Rw.vr r k):=by
 have hb:=h.pos;have hg:=Zxz r.1[k] (WS hb);have l:=wN (t:=r.1[k]) (c:=((Int.gcd r.1[k] r.2:Nat):Int)) (WS hb) (by lia) (by lia) (XZ (by lia) hb);have e:=iR l (WS hb);rw[ZV hk];injection e with e;injection e with e1 e;injection e with e2 e;injection e1 with e1;injection e2 with e2;exact⟨by rw[<- e1];exact aL l.lx (h.top _ (aU _)),by have:=l.ly;have:=h.bot;omega⟩
structure B0(rs0:List Row)(wd N:Nat):Prop where
 big:∀i,i<rs0.length->Big N (rAt rs0 i)/\(rAt rs0 i).1.length=wd
 one:1<=N
 mb:(2*rs0.length*N)^rs0.length<=NN
 nn:N<=NN
abbrev aT(rs0:List Row)(i j:Nat):Int:=(rAt rs0 i).1.getD j 0
abbrev aB(rs0:List Row)(i:Nat):Int:=(rAt rs0 i).2
structure Gs(rs0:List Row)(wd N c:Nat)(rs:List Row):Prop where
 len:rs.length=rs0.length
 row:∀i,i<rs0.length->0<(rAt rs i).2/\(rAt rs i).1.length=wd/\(gcL (rAt rs i).1 (rAt rs i).2=1\/Big N (rAt rs i))
 st:∃pv s,fP (aT rs0) (aB rs0) rs0.length wd (λi j=>vr (rAt rs i) j) c pv s
 unit:∀i l,i<rs0.length->l<c->vr (rAt rs i) l=if i=l then 1 else 0
 ker:∀x:Nat->Rat,(∀i,i<rs0.length->sg (λj=>vr (rAt rs i) j*x j) wd=0)->∀i,i<rs0.length->sg (λj=>vr (rAt rs0 i) j*x j) wd=0
section
variable{rs0 rs:List Row}{wd N c q:Nat}
theorem B0.zero(h:B0 rs0 wd N):Gs rs0 wd N 0 rs0:=⟨rfl,λi hi=>⟨(h.big i hi).1.pos,(h.big i hi).2,.inr (h.big i hi).1⟩,⟨λ_=>0,id,fP.zero λi hi=>(h.big i hi).1.pos⟩,λ_ _ _ z=>absurd z (WV _),λ_ z=>z⟩
theorem amd{m N:Nat}(hm:1<=m)(h1:1<=N):N<=(2*m*N)^m:=by
  have x:N<=2*m*N:=Zxw _ (by lia);have y:1<=2*m*N:=WH (show 1<=2*m by lia) h1
  calc N<=(2*m*N)^1:=by rw[Nat.pow_one];exact x
    _<=_:=XT y hm
theorem B0.sbigM(h:B0 rs0 wd N){R:Nat->Nat->Rat}{p:Nat}(st:∃pv s,fP (aT rs0) (aB rs0) rs0.length wd R p pv s){i:Nat}(hi:i<rs0.length){r:Row}(hr:0<r.2)(hw:r.1.length=wd)(g:gcL r.1 r.2=1\/Big N r)(e:∀j,j<wd->vr r j=R i j):Big ((2*rs0.length*N)^rs0.length) r:=by
 rcases g with g|g
 .obtain⟨pv,s,st⟩:=st;obtain⟨v,u,u0,ub,vb,ee⟩:=st.bound h.one (λi j hi hj=>by
   have b:=h.big i hi;show((rAt rs0 i).1.getD j 0).natAbs<=N;rw[au,aj (by rw[b.2];exact hj)];exact b.1.top _ (aU _)) (λi hi=>⟨(h.big i hi).1.pos,(h.big i hi).1.bot⟩) hi
  exact mZ hr g hw u0 ub vb λj hj=>by rw[e j hj];exact ee j hj
 .exact g.le (amd (by lia) h.one)
theorem B0.sbig(h:B0 rs0 wd N){R:Nat->Nat->Rat}{p:Nat}(st:∃pv s,fP (aT rs0) (aB rs0) rs0.length wd R p pv s){i:Nat}(hi:i<rs0.length){r:Row}(hr:0<r.2)(hw:r.1.length=wd)(g:gcL r.1 r.2=1\/Big N r)(e:∀j,j<wd->vr r j=R i j):Big NN r:=(h.sbigM st hi hr hw g e).le h.mb
theorem Gs.bigM(g:Gs rs0 wd N c rs)(h:B0 rs0 wd N){i:Nat}(hi:i<rs0.length):Big ((2*rs0.length*N)^rs0.length) (rAt rs i):=h.sbigM g.st hi (g.row i hi).1 (g.row i hi).2.1 (g.row i hi).2.2 λ_ _=>rfl
theorem Gs.big(g:Gs rs0 wd N c rs)(h:B0 rs0 wd N){i:Nat}(hi:i<rs0.length):Big NN (rAt rs i):=h.sbig g.st hi (g.row i hi).1 (g.row i hi).2.1 (g.row i hi).2.2 λ_ _=>rfl
theorem VR{p q i m:Nat}(hp:p<m)(hq:q<m)(hi:i<m):Rw.sw p q i<m:=by
 unfold Rw.sw;split
 .exact hq
 .split<;>omega
theorem ad2(p q i:Nat):Rw.sw p q (Rw.sw p q i)=i:=by
 unfold Rw.sw;by_cases a:i=p
 .subst a;rw[ZY rfl];by_cases b:q=i
  .rw[ZY b,b]
  .rw[ZZ b,ZY rfl]
 .by_cases b:i=q
  .subst b;rw[ZZ a,ZY rfl,ZY rfl]
  .rw[ZZ a,ZZ b,ZZ a,ZZ b]
theorem Gs.next(g:Gs rs0 wd N c rs)(h:B0 rs0 wd N)(hc:c<rs0.length)(cw:c<wd)(hq:c<=q)(dA:q<rs0.length)(h0:vr (rAt rs q) c≠0){rs2:List Row}(e2:∀i,i<rs0.length->rAt rs2 i=bgA rs c q c i) :
  (∀i,i<rs0.length->Big NN (rAt rs2 i)/\(rAt rs2 i).1.length=wd)/\(∀i,i<rs0.length->Big NN (clA rs2 c c i))/\∀gy:List Row,gy.length=rs0.length->(∀i,i<rs0.length->rAt gy i=clA rs2 c c i)->Gs rs0 wd N (c+1) gy:=by
 have gx:Rw.sw c q c=q:=ZY rfl;obtain⟨b1,b2,b3,b4⟩:=aez (g.row q dA).1 h0;have ec:rAt rs2 c=bgP (rAt rs q) c:=by rw[e2 c hc];exact ZY rfl
 have ei:∀i,i<rs0.length->i≠c->rAt rs2 i=rAt rs (Rw.sw c q i):=λi hi ne=>by rw[e2 i hi];exact ZZ ne
 have ck:∀i,i<rs0.length->0<(rAt rs2 i).2/\(rAt rs2 i).1.length=wd/\(gcL (rAt rs2 i).1 (rAt rs2 i).2=1\/Big N (rAt rs2 i)):=λi hi=>by
  by_cases e:i=c
  .rw[e,ec];refine⟨b1,by rw[b2];exact(g.row q dA).2.1,b3.elim .inl λz=>?_⟩;rw[z];exact(g.row q dA).2.2
  .rw[ei i hi e];exact g.row _ (VR hc dA hi)
 have cl:=λi(hi:i<rs0.length)=>af2 (rs:=rs2) (p:=c) (k:=c) (i:=i) (ck i hi).1 (ck c hc).1 (by rw[(ck i hi).2.1,(ck c hc).2.1]);have clw:∀i,i<rs0.length->(clA rs2 c c i).1.length=wd:=λi hi=>by
  unfold clA;split
  .exact(ck i hi).2.1
  .rw[jD];show(List.zipWith _ (rAt rs2 i).1 (rAt rs2 c).1).length=wd;rw[JS,(ck i hi).2.1,(ck c hc).2.1,UV]
 have clg:∀i,i<rs0.length->gcL (clA rs2 c c i).1 (clA rs2 c c i).2=1\/Big N (clA rs2 c c i):=λi hi=>(cl i hi).2.1.elim .inl λz=>by rw[z];exact(ck i hi).2.2
 have Vc:∀j,vr (clA rs2 c c c) j*vr (rAt rs q) c=vr (rAt rs q) j:=λj=>by
  rw[(cl c hc).2.2 j,ZY rfl,ec];exact b4 j
 have Vi:∀i,i<rs0.length->i≠c->∀j,vr (clA rs2 c c i) j=vr (rAt rs (Rw.sw c q i)) j-vr (rAt rs (Rw.sw c q i)) c*vr (clA rs2 c c c) j:=λi hi ne j=>by
  rw[(cl i hi).2.2 j,(cl c hc).2.2 j,ZZ ne,ZY rfl,ei i hi ne]
 have dv:∃pv s,fP (aT rs0) (aB rs0) rs0.length wd (λi j=>vr (clA rs2 c c i) j) (c+1) pv s:=by
  obtain⟨pv,s,st⟩:=g.st;have s1:=st.swap hq dA (R':=λi j=>vr (rAt rs (Rw.sw c q i)) j) λi j _ _=>rfl;exact⟨_,_,s1.pivot hc (λi hi=>(h.big i hi).1.pos) cw (by show vr (rAt rs (Rw.sw c q c)) c≠0;rw[gx];exact h0) (R':=λi j=>vr (clA rs2 c c i) j) (λj _=>by show vr (clA rs2 c c c) j*vr (rAt rs (Rw.sw c q c)) c=vr (rAt rs (Rw.sw c q c)) j;rw[gx];exact Vc j) λi j hi ne _=>Vi i hi ne j⟩
 have mM:∀i,i<rs0.length->Big NN (clA rs2 c c i):=λi hi=>h.sbig dv hi (cl i hi).1 (clw i hi) (clg i hi) λ_ _=>rfl;refine⟨λi hi=>⟨?_,(ck i hi).2.1⟩,mM,λgy l3 e3=>⟨l3,λi hi=>by rw[e3 i hi];exact⟨(cl i hi).1,clw i hi,clg i hi⟩,?_,λi l hi hl=>?_,λx hx=>g.ker x λi hi=>?_⟩⟩
 .by_cases e:i=c
  .rw[e];refine h.sbig dv hc (ck c hc).1 (ck c hc).2.1 (ck c hc).2.2 λj _=>?_;show _=vr (clA rs2 c c c) j;rw[(cl c hc).2.2 j,ZY rfl]
  .rw[ei i hi e];exact g.big h (VR hc dA hi)
 .obtain⟨pv,s,st⟩:=dv;exact⟨pv,s,st.congr λi j hi=>by rw[e3 i hi]⟩
 .rw[e3 i hi];have v0:l<c->vr (clA rs2 c c c) l=0:=λhl=>by
   have:=Vc l;rw[g.unit q l dA hl,ZZ (by lia)]at this
   grind
  have v1:vr (clA rs2 c c c) c=1:=by
   have:=Vc c
   grind
  by_cases e:i=c
  .subst e;by_cases z:l<i
   .rw[v0 z,ZZ (UT z)]
   .rw[show l=i by lia,v1,ZY rfl]
  .rw[Vi i hi e l];by_cases z:l<c
   .rw[v0 z,g.unit _ l (VR hc dA hi) z];have:(Rw.sw c q i=l)=(i=l):=by
     unfold Rw.sw;rw[ZZ e];split
     .exact propext ⟨λ_=>by lia,λ_=>by lia⟩
     .rfl
    simp only[this]
    grind
   .rw[show l=c by lia,v1,ZZ e]
    grind
 .have l5:=hx c hc;rw[e3 c hc]at l5;by_cases e:i=q
  .rw[e,bW (g:=λj=>vr (rAt rs q) c*(vr (clA rs2 c c c) j*x j)) λj _=>by rw[<- Vc j];grind,fG,l5]
   grind
  .have hs:=VR hc dA hi;have ne:Rw.sw c q i≠c:=λz=>by
    have:=ad2 c q i;rw[z,gx]at this;exact e this.symm
   have j':=hx _ hs;rw[e3 _ hs]at j';rw[bW (g:=λj=>vr (clA rs2 c c (Rw.sw c q i)) j*x j+vr (rAt rs i) c*(vr (clA rs2 c c c) j*x j)) λj _=>by rw[Vi _ hs ne,ad2];grind,fX,fG,l5,j']
   grind
theorem Gs.found(g:Gs rs0 wd N c rs)(hc:c<rs0.length)(cw:c<wd)(inj:∀x:Nat->Rat,(∀j,rs0.length<=j->x j=0)->(∀i,i<rs0.length->sg (λj=>vr (rAt rs0 i) j*x j) wd=0)->∀j,j<rs0.length->x j=0):¬∀i,c<=i->i<rs0.length->vr (rAt rs i) c=0:=λhz=>by
 have:=inj (λj=>if j<c then -(vr (rAt rs j) c)else if j=c then 1 else 0) (λj hj=>by rw[ZZ (by lia),ZZ (by lia)]) (g.ker _ λi hi=>?_) c hc
 .rw[ZZ (X9 _),ZY rfl]at this;exact absurd this (by decide)
 .rw[bW (g:=λj=>(if j=i then 1 else 0)*(if j<c then -(vr (rAt rs j) c)else 0)+(if j=c then 1 else 0)*vr (rAt rs i) c) λj hj=>?_,fX,gW (v:=λj=>if j<c then -(vr (rAt rs j) c)else 0),gW (v:=λ_=>vr (rAt rs i) c),ZY cw]
  .by_cases e:i<c
   .rw[ZY (Tk e cw),ZY e]
    grind
   .rw[hz i (VU e) hi];rw[ZZ e]
    grind
  .by_cases a:j<c
   .rw[ZY a,ZY a,g.unit i j hi a,ZZ (show j≠c by exact aQ a)];by_cases b:i=j
    .rw[ZY b,ZY b.symm];grind
    .rw[ZZ b,ZZ (Ne.symm b)];grind
   .rw[ZZ a,ZZ a];by_cases b:j=c
    .rw[ZY b,b];grind
    .rw[ZZ b];grind
theorem Gs.answer(g:Gs rs0 (rs0.length+1) N rs0.length rs){i:Nat}(hi:i<rs0.length):sg (λj=>vr (rAt rs0 i) j*vr (rAt rs j) rs0.length) rs0.length=vr (rAt rs0 i) rs0.length:=by
 have:=g.ker (λj=>if j<rs0.length then vr (rAt rs j) rs0.length else -1) (λi hi=>?_) i hi
 .show _=_;rw[show sg (λj=>vr (rAt rs0 i) j*(if j<rs0.length then vr (rAt rs j) rs0.length else -1)) (rs0.length+1)=sg (λj=>vr (rAt rs0 i) j*(if j<rs0.length then vr (rAt rs j) rs0.length else -1)) rs0.length+vr (rAt rs0 i) rs0.length*(if rs0.length<rs0.length then vr (rAt rs rs0.length) rs0.length else -1)from rfl,ZZ (X9 _),bW (g:=λj=>vr (rAt rs0 i) j*vr (rAt rs j) rs0.length) λj hj=>by rw[ZY hj]]at this
  grind
 .rw[show sg (λj=>vr (rAt rs i) j*(if j<rs0.length then vr (rAt rs j) rs0.length else -1)) (rs0.length+1)=sg (λj=>vr (rAt rs i) j*(if j<rs0.length then vr (rAt rs j) rs0.length else -1)) rs0.length+vr (rAt rs i) rs0.length*(if rs0.length<rs0.length then vr (rAt rs rs0.length) rs0.length else -1)from rfl,ZZ (X9 _),bW (g:=λj=>(if j=i then 1 else 0)*vr (rAt rs j) rs0.length) λj hj=>by rw[ZY hj,g.unit i j hi hj];simp only[eq_comm],gW (v:=λj=>vr (rAt rs j) rs0.length),ZY hi]
  grind
end
open Rw (vr iu gU m_ gcL gk gw rT lE Big pJ jo mU jD mZ fP sg fX fG bW gD gW)
abbrev iV(r:List Rat):Row:=(tops (cD 1 r) r,((cD 1 r:Nat):Int))
abbrev Jg(r:List Rat):T:=.lst (r.map frR)
theorem ab3(r:List Rat):(iV r).1.length=r.length:=ak _
theorem G7(r:List Rat)(j:Nat):vr (iV r) j=r.getD j 0:=by
 unfold vr;have hB:=eY r UY;show(((tops (cD 1 r) r).getD j 0:Int):Rat)/(((cD 1 r:Nat):Int):Rat)=_;unfold tops;rw[au,au,aq];by_cases h:j<r.length
 .rw[aj h];show((r[j].num*((cD 1 r/r[j].den:Nat):Int):Int):Rat)/_=r[j];obtain⟨k,hk⟩:=(jy r (n:=1)).2 r[j] (aU h);have hd:=r[j].den_pos;rw[show cD 1 r/r[j].den=k by rw[hk];exact Zww _ hd];have hV:k≠0:=λz=>by rw[z]at hk;lia
  rw[<- UK,hk,Th,Rat.divInt_mul_right (by lia)];exact rd _
 .rw[aM (Nat.not_lt.mp h)];show((0:Int):Rat)/_=0
  grind
structure Sys(ac:List (List Rat))(N:Nat):Prop where
 wid:∀r∈ac,r.length=ac.length+1
 few:ac.length<=100
 lev:∀r∈ac,Big N (iV r)
 num:∀r∈ac,∀c∈r,Bd c.num
 one:1<=N
 mb:(2*ac.length*N)^ac.length<=NN
 nn:N<=NN
 inj:∀x:Nat->Rat,(∀j,ac.length<=j->x j=0)->(∀r∈ac,sg (λj=>r.getD j 0*x j) (ac.length+1)=0)->∀j,j<ac.length->x j=0
theorem Lz{ac:List (List Rat)}{i:Nat}(h:i<ac.length):rAt (ac.map iV) i=iV ac[i]:=by
 have:=yu (rs:=ac.map iV) (i:=i) (by rw[ak];exact h);rw[aq,aj h]at this;injection this with this;exact this.symm
theorem Sys.b0{ac:List (List Rat)}{N:Nat}(h:Sys ac N):B0 (ac.map iV) (ac.length+1) N:=⟨λi hi=>by
 rw[ak]at hi;rw[Lz hi];exact⟨h.lev _ (aU hi),by rw[ab3];exact h.wid _ (aU hi)⟩,h.one,by rw[ak];exact h.mb,h.nn⟩
theorem Rws.mk'{rs:List Row}{wd:Nat}(hr:∀i,i<rs.length->Big NN (rAt rs i)/\(rAt rs i).1.length=wd)(h1:rs.length<=100)(h2:wd<=1000):Rws rs wd:=by
 have:∀r∈rs,Big NN r/\r.1.length=wd:=λr hm=>by
  obtain⟨i,hi,e0⟩:=Zxt hm;have e:=yu hi;rw[aj hi,e0]at e;injection e with e;rw[e];exact hr i hi
 exact⟨λr hm=>(this r hm).1,λr hm=>(this r hm).2,h1,h2⟩
theorem Sys.rws{ac:List (List Rat)}{N c:Nat}{rs:List Row}(h:Sys ac N)(g:Gs (ac.map iV) (ac.length+1) N c rs):Rws rs (ac.length+1):=by
 have l:=g.len;have few:=h.few;rw[ak]at l;refine Rws.mk' (λi hi=>?_) (aL (WG l) few) (by lia);have eL:i<(ac.map iV).length:=by rw[g.len]at hi;exact hi
 exact⟨g.big h.b0 eL,(g.row i eL).2.1⟩
theorem aeY{ac:List (List Rat)}{i n:Nat}(hi:i<ac.length)(x:Nat->Rat):sg (λj=>vr (rAt (ac.map iV) i) j*x j) n=sg (λj=>ac[i].getD j 0*x j) n:=bW λj _=>by rw[Lz hi,G7]
theorem Sys.inj'{ac:List (List Rat)}{N:Nat}(h:Sys ac N):∀x:Nat->Rat,(∀j,(ac.map iV).length<=j->x j=0)->(∀i,i<(ac.map iV).length->sg (λj=>vr (rAt (ac.map iV) i) j*x j) (ac.length+1)=0)->∀j,j<(ac.map iV).length->x j=0:=by
 rw[ak];intro x h1 h2;refine h.inj x h1 λr hr=>?_;obtain⟨i,hi,rfl⟩:=Zxt hr;rw[<- aeY hi];exact h2 i hi
def Jx(m:Nat)(y:Nat->Rat):List T:=(List.range m).map λi=>.lst ((List.range (m+1)).map λj=>frR (if j<m then if i=j then 1 else 0 else y i))
theorem agc{ac:List (List Rat)}{N:Nat}{rs:List Row}(h:Sys ac N)(g:Gs (ac.map iV) (ac.length+1) N ac.length rs):(rs.map λr=>T.lst ((List.range (ac.length+1)).map λk=>frR (vr r k)))=Jx ac.length λi=>vr (rAt rs i) ac.length:=by
 have l:=g.len;rw[ak]at l;unfold Jx;refine Zzx (by rw[ak,ak,WJ,l]) λi h1 h2=>?_;rw[ak]at h1;rw[UU,UU,Zzw];have e:=yu h1;rw[aj h1]at e;injection e with e;rw[e]
 congr 1
 refine U1 λj hj=>?_;have hj:=List.mem_range.mp hj;by_cases c:j<ac.length
 .rw[ZY c,g.unit i j (by rw[ak];exact aR h1 (WG l)) c]
 .rw[ZZ c,show j=ac.length by lia]
theorem afY{ac:List (List Rat)}{N:Nat}{rs:List Row}(g:Gs (ac.map iV) (ac.length+1) N ac.length rs):∀r∈ac,sg (λj=>r.getD j 0*vr (rAt rs j) ac.length) ac.length=r.getD ac.length 0:=λr hr=>by
 obtain⟨i,hi,rfl⟩:=Zxt hr;have l:(ac.map iV).length=ac.length:=ak _;have:=Gs.answer (rs0:=ac.map iV) (N:=N) (rs:=rs) (by rw[l];exact g) (i:=i) (by rw[l];exact hi);rw[l,Lz hi,G7]at this;rw[<- this];exact bW λj _=>by rw[G7]
def IK:ST:=λts R=>∃(ac:List (List Rat))(N:Nat),ts=[.lst (ac.map Jg),.int ac.length]/\Sys ac N/\∀(ss:List T)(y:Nat->Rat),(∀r∈ac,sg (λj=>r.getD j 0*y j) ac.length=r.getD ac.length 0)->(∀i,i<ac.length->FnB ((2*ac.length*N)^ac.length) (y i))->R (.fz (.tup [.lst ss,.lst (Jx ac.length y)]))
theorem Uj(F:Fun K uc uc xO f fd)(T:Txt K mg D)(jC:OkT P w K mg base 2 qj pH wM)(uF:OkT P w K mg base 1 mV mO yU)(vI:OkF P w K mg base 6 oG oK (spO K BR))(pQ:OkF P w K mg base 6 jK jH (spO K uR))(pY:OkT P w K mg base 3 jG jF uP):cj P w K mg base CX0 7 f fd ux (spT K IK):=by
 refine F.okT jP (λts R hP=>by obtain⟨_,_,e,_⟩:=hP;exact e ▸ rfl) λag A outer s H E hr=>?_;refine⟨_,(bC (afR (bH xO) DK DK ["row"] (cH (qv 0)) (fj (i:=0)) cI (bI jC hr.md (by rfl) (bx (qv 0) bF)) (lR (i:=2) jP.nd rfl (Or.inl rfl)))
  (bC (g_ 3 jP.nd (Or.inl rfl) (d_ bF))
  (bC (bM 4 jP.nd (Or.inl rfl) bA)
  (bC (dG VZ rfl (cY (by rfl) T.dO (bx (qv 1) bF)) (b_ (n:=99) 5 jP.nd (Or.inl rfl))
  (bC (bM 6 jP.nd (Or.inl rfl) (Lp 2 (bI uF hr.md (by rfl) (bx (qv 2) (bx (qv 4) (bx (qv 5) bF))))))
  (bG (cG (bY Gp (qv 6) jf)
  (bC (I_ 2 3 vI hr.md (by rfl) (bx (qv 4) (bx (qv 6) (bx (qv 5) bF))))
  (bC (I_ 2 3 pQ hr.md (by rfl) (bx (qv 4) (bx (qv 5) bF)))
  (bG (aaz 4 jP.nd (Or.inl rfl) Y8 bA))))
  bT))))
  (bG (GX 3 (GX 2 (bQ (cW (bx (qv 3) (bx (bI pY hr.md (by rfl) (bx (qv 2) bF)) bF))))))))))),?_⟩
 rintro _ R ⟨ac,N,rfl,h,ok⟩;have lm:(ac.map Jg).length=ac.length:=ak _;have ll:(ac.map iV).length=ac.length:=ak _;have few:=h.few;have b0:=h.b0;have e0:(ac.map λr=>rwT (iV r))=(ac.map iV).map rwT:=by rw[WP];rfl
 refine⟨by rw[lm];exact aL few (by decide),comp_map Jg (λr=>rwT (iV r)) ac (λr hr N' M hN=>⟨r,rfl,by rw[h.wid r hr];lia,h.num r hr,bdN (aL (h.lev r hr).bot h.nn),hN⟩) ?_⟩;rw[e0];refine⟨⟨by lia,by lia⟩,jr (λc o=>∃rs ss x y,o=[.fz (.lst (ac.map Jg)),.fz (.int ac.length),.l1 (rs.map rwT),.l1 ss,.fz (.int (c:Nat)),x,y]/\Gs (ac.map iV) (ac.length+1) N c rs/\ss.length<=102*c) ⟨_,[],_,_,rfl,b0.zero,aG _⟩ ?_ ?_⟩
 .rintro c _ hc ⟨rs,ss,x,y,rfl,g,sl⟩;have hc:c<ac.length:=by lia
  have dm:c<(ac.map iV).length:=by lia
  have l:=g.len;have hR:=h.rws g;have big:(20000:Nat)<sizeLine:=by decide
  refine⟨rs,_,c,c,rfl,hR,by lia,by exact WU _ hc,λq h1 h2 h3=>⟨trivial,rs,ss,_,c,q,c,rfl,rfl,hR,by exact Y3 h1 h2,h2,by exact WU _ hc,h3,by lia,λrs2 ss2 l2 e2 s2=>?_⟩,λz=>(g.found dm (WU _ hc) h.inj' λi a b=>z i a (by lia)).elim⟩;obtain⟨n1,n2,n3⟩:=g.next b0 dm (WU _ hc) h1 (aR h2 (WG l)) h3 (rs2:=rs2) λi hi=>e2 i (by lia);exact⟨rs2,ss2,_,c,c,rfl,rfl,Rws.mk' (λi hi=>n1 i (by lia)) (by lia) (by lia),by lia,by exact WU _ hc,by lia,λi hi=>n2 i (by lia),λgy ss3 l3 e3 s3=>⟨gy,ss3,.fz (.int c),.fz (.int q),rfl,n3 gy (by lia) λi hi=>e3 i (by lia),by lia⟩⟩
 .rintro _ ⟨rs,ss,x,y,rfl,g,sl⟩;have g:Gs (ac.map iV) (ac.length+1) N ac.length rs:=g;have hR:=h.rws g;have l:=g.len;refine⟨rs,_,rfl,hR,?_⟩;have:=ok ss _ (afY g) λi hi=>by
   have eL:i<(ac.map iV).length:=by lia
   have b:=g.bigM b0 eL;rw[ll]at b;exact FnB.vr b (by rw[(g.row i eL).2.1];exact X1 _)
  rw[<- agc h g]at this;exact this
open Rw (vr iu gU m_ gcL gk gw rT lE Big pJ jo mU jD mZ fP sg fX fG bW gD gW)
def El:ST:=λts q=>∃(ac:List (List Rat))(n:Nat),ts=[.lst (ac.map Jg)]/\(∀r∈ac,r.length=n)/\(ac=[]->n=0)/\q (.fz (.int n))
theorem RP(F:Fun K qR qR zL f fd)(T:Txt K mg D):cj P w K mg base CX0 1 f fd qQ (spT K El):=by
 refine F.okT Qk (λts R hP=>by obtain⟨_,_,e,_⟩:=hP;exact e ▸ rfl) λag A outer s H E hr=>?_;refine⟨_,(bC (cG (bY (go_eq hr.units) (bV dh (by rfl) T.dY W1 (bx (qv 0) bF)) bA)
  (bG (bQ bA))
  bT)
  (bG (bQ (bV dh (by rfl) T.dY W1 (bx (bJ (qv 0) bA) bF))))),?_⟩
 rintro _ R ⟨ac,n,rfl,h,h0,q⟩
 match ac,h,h0 with
 |[],h,h0=>rw[h0 rfl]at q;exact q
 |r::ac,h,h0 =>
  have e:(r.map frR).length=n:=by rw[ak];exact h r (aO ..)
  rw[<- e]at q;exact⟨_,rfl,q⟩
theorem Ro(i:Nat):∀m,(List.range m).filter (λj=>decide (j=i))=if i<m then[i]else[]
 |0=>by rw[ZZ (WV _)];rfl
 |m+1=>by
  rw[List.range_succ,List.filter_append,Ro i m];by_cases e:m=i
  .subst e;rw[ZZ (X9 _),ZY (X1 _)];simp
  .rw[Zyr (by simpa using e)];by_cases c:i<m
   .rw[ZY c,ZY (WU _ c)];rfl
   .rw[ZZ c,ZZ (by lia)];rfl
def wO:ST:=λts q=>∃(ac:List (List Rat))(ay:List Rat),ts=[.lst (ac.map Jg),.lst (ay.map frR)]/\ac.length<=100/\(∀r∈ac,r.length<=100)/\q (.l1 ((List.zipWith (λr c=>r++[c]) ac ay).map Jg))
theorem Jo(F:Fun K j8 j8 mK f fd)(T:Txt K mg D):cj P w K mg base CX0 1 f fd lO (spT K wO):=by
 refine F.okT IV (λts R hP=>by obtain⟨_,_,e,_⟩:=hP;exact e ▸ rfl) λag A outer s H E hr=>?_;refine⟨_,(bG (bQ (dH (bH mK) su su ["row","right"] (Ia (by rfl) T.R6 (bx (qv 0) (bx (qv 1) bF))) (fu (n:=2) rfl (bR (fj (i:=0)) (bR (fj (i:=1)) dF))) cI (bK cN (qv 0) (d_ (bx (qv 1) bF)))))),?_⟩;rintro _ R ⟨ac,ay,rfl,h1,h2,q⟩;have zl:(ac.zip ay).length<=ac.length:=by rw[VX];exact Nat.min_le_left ..
 refine⟨by unfold DP;rw[ak,VX,ak,ak];exact aL (aL (Nat.min_le_left ..) h1) (by decide),?_⟩;rw[zip_map];refine comp_map (λp=>.tup [Jg p.1,frR p.2]) (λp=>Jg (p.1++[p.2])) (ac.zip ay) (λp hp N M hN=>⟨rfl,?a,?b⟩) ?c
 case a =>
  have:=h2 _ (VQ hp).1;show(p.1.map frR).length+1<=sizeLine;rw[ak];exact aL (show _<=101 by exact Nat.succ_le_succ this) (by decide)
 case b =>
  show N (.lst (p.1.map frR++[frR p.2]));rw[show(p.1.map frR++[frR p.2])=(p.1++[p.2]).map frR by rw[bf];rfl];exact hN
 case c =>
  rw[Zxu]at q;rw[List.zip,Zxu];exact q
def Bv:ST:=λts q=>∃(m:Nat)(y:Nat->Rat),ts=[.lst (Jx m y),.int m]/\m<=100/\q (.l1 ((List.range m).map λi:Nat=>.int i))
theorem Oa(F:Fun K oZ oZ qx f fd)(T:Txt K mg D):cj P w K mg base CX0 1 f fd oR (spT K Bv):=by
 refine F.okT oW (λts R hP=>by obtain⟨_,_,e,_⟩:=hP;exact e ▸ rfl) λag A outer s H E hr=>?_;refine⟨_,(bC (g_ 2 oW.nd (Or.inl rfl) (d_ bF))
  (bC (dG VZ rfl (cH (qv 0)) (b_ (n:=99) 3 oW.nd (Or.inr rfl))
  (bC (qK (bH qx) u_ u_ ["column"] (cY (by rfl) T.dO (bx (qv 1) bF)) (fj (i:=0)) (Pa (bY (sS hr.units) (bJ (qv 4) (qv 0)) (lW (by rfl) T.jz T.gO))) (qv 0) (lR (i:=4) oW.nd rfl (Or.inl rfl)))
  (bG (cG (bY Ek (bV dh (by rfl) T.dY W1 (bx (qv 4) bF)) bA)
  (bG (nG 2 (bJ (qv 4) bA)))
  bT))))
  (bG (jE 2)))),?_⟩
 rintro _ R ⟨m,y,rfl,h,q⟩;have sz:(1000:Nat)<=sizeLine:=by decide
 refine fW _ (List.range m) (λas o=>∃x z,o=[.fz (.lst (Jx m y)),.fz (.int m),.l1 (as.map λi:Nat=>.int i),x,z]) ⟨_,_,rfl⟩ ?_ ?_
 .rintro as i bs _ e ⟨x,z,rfl⟩;have hi:i<m:=List.mem_range.mp (e ▸ by simp);have la:as.length<m:=by have:=ZH List.length e;rw[WJ,aA,List.length_cons]at this;lia
  refine⟨⟨by lia,by lia⟩,by rw[rng,ak,WJ];exact aL (show _<=1000 by lia) sz,nC (λk:Nat=>.int (0+k)) (λj=>decide (j=i)) (λj=>.int (0+(j:Nat))) (List.range m) (λj hj N M h1 h2=>?_) ?_⟩
  .have hj:=List.mem_range.mp hj;show hName 0 (L2.T.int (0+((j:Nat):Int))) _ _;rw[show(0:Int)+((j:Nat):Int)=((j:Nat):Int)by lia]at h1 ⊢;refine⟨_,cZ (Up (WU _ hj)),?_⟩;by_cases c:j=i
   .refine swT ?_ (h1 (Zs c));show xr true (_&&_)=true;rw[ZY hj,ZY c.symm]
    rfl
   .refine swF ?_ (h2 (Zp c));show xr true (_&&_)=false;rw[ZY hj,ZZ (Ne.symm c)]
    rfl
  .rw[Ro,ZY hi];refine⟨_,rfl,by rw[ak];lia,.fz (.lst ((List.range (m+1)).map λj=>frR (if j<m then if i=j then 1 else 0 else y i))),.fz (.lst [.int (0+(i:Nat))]),?_⟩;rw[bf];show[_,_,OT.l1 (as.map _++[L2.T.int (0+(i:Nat))]),_,OT.fz (.lst [L2.T.int (0+(i:Nat))])]=[_,_,OT.l1 (as.map _++[L2.T.int (i:Nat)]),_,_];rw[show(0:Int)+((i:Nat):Int)=((i:Nat):Int)by exact Int.zero_add _]
 .rintro _ ⟨x,z,rfl⟩;exact q
def Ht:ST:=λts q=>∃(m:Nat)(y:Nat->Rat),ts=[.lst (Jx m y),.lst ((List.range m).map λi:Nat=>.int i),.int m]/\m<=100/\q (.fz .non)
theorem Tg(F:Fun K uE uE DQ f fd)(T:Txt K mg D):cj P w K mg base CX0 1 f fd tV (spT K Ht):=by
 refine F.okT G9 (λts R hP=>by obtain⟨_,_,e,_⟩:=hP;exact e ▸ rfl) λag A outer s H E hr=>?_;refine⟨_,(bC (dG VZ rfl (Ku (by rfl) T.dO (bx (bV dh (by rfl) T.dY W1 (bx (qv 1) bF)) (bx (bV dh (by rfl) T.dY W1 (bx (qv 0) bF)) bF))) (b_ (n:=99) 3 G9.nd (Or.inl rfl))
  (bG (cG (bY (sS hr.units) (bJ (bJ (qv 0) (qv 3)) (qv 2)) (lW (by rfl) T.jz T.gO))
  (bG (bQ (qv 3)))
  bT)))
  (bG (bQ jf))),?_⟩
 rintro _ R ⟨m,y,rfl,h,q⟩;have l1:((List.range m).map λi:Nat=>L2.T.int i).length=m:=by rw[ak,WJ]
 have l2:(Jx m y).length=m:=by unfold Jx;rw[ak,WJ]
 refine⟨⟨by lia,by lia,by lia,by lia⟩,Av (λ_ _=>True) _ 0 trivial (λi t o e z=>?_) λo _=>q⟩;have:=(Yq e).1;lia
def Bl:ST:=λts q=>∃(m:Nat)(y:Nat->Rat),ts=[.lst (Jx m y),.lst ((List.range m).map λi:Nat=>.int i),.int m]/\m<=100/\q (.l1 ((List.range m).map λi=>frR (y i)))
theorem O7(F:Fun K oY oY xJ f fd)(T:Txt K mg D):cj P w K mg base CX0 1 f fd oh (spT K Bl):=by
 refine F.okT oN (λts R hP=>by obtain⟨_,_,e,_⟩:=hP;exact e ▸ rfl) λag A outer s H E hr=>?_;refine⟨_,(bC (g_ 3 oN.nd (Or.inl rfl) (bK cB (d_ (bx (lW (by rfl) T.jz T.gO) bF)) (qv 2)))
  (bC (dG VZ rfl (Ae (by rfl) T.ni (bx (qv 1) bF)) (fu (n:=2) rfl (bR (b_ (n:=99) 4 oN.nd (Or.inl rfl)) (bR (b_ (n:=99) 5 oN.nd (Or.inl rfl)) dF)))
  (bG (Dv 3 (bJ (bJ (qv 0) (qv 4)) (qv 2)) (qv 5))))
  (bG (jE 3)))),?_⟩
 rintro _ R ⟨m,y,rfl,h,q⟩;refine⟨⟨by lia,by lia,by show 1*_<=_;exact aL (show _<=100 by lia) (by decide)⟩,λz ez=>?_⟩;have ez:z=(List.range m).map λi=>if i<0 then frR (y i)else frR 0:=by
  rw[ez,List.flatten_replicate_singleton];refine Zzx (by rw[aN,ak,WJ];rfl) λn h1 h2=>?_;rw[List.getElem_replicate,UU,ZZ (WV _)]
  rfl
 subst ez;refine xV (λi:Nat=>.int i) (List.range m) (λk o=>∃x z,o=[.fz (.lst (Jx m y)),.fz (.lst ((List.range m).map λi:Nat=>.int i)),.fz (.int m),.l1 ((List.range m).map λi=>if i<k then frR (y i)else frR 0),x,z]) ⟨_,_,rfl⟩ ?_ ?_
 .rintro k i _ e ⟨x,z,rfl⟩;have hk:k<m:=by have:=(ao.mp e).1;rwa[WJ]at this
  rw[Up hk]at e;cases e;refine⟨rfl,_,cZ (Up hk),_,cZ (Up (X1 m)),k,zU (by rw[ak,WJ];exact hk),.fz (.int k),.fz (.int k),?_⟩;have:((List.range m).map λi=>if i<k then frR (y i)else frR 0).set k (frR (if m<m then if k=m then 1 else 0 else y k))=(List.range m).map λi=>if i<k+1 then frR (y i)else frR 0:=by
   rw[ZZ (X9 _)];refine Zzx (by rw[VS,ak,ak]) λn h1 h2=>?_;rw[List.getElem_set,UU,UU,Zzw];by_cases c:k=n
   .rw[ZY c,ZY (by lia),c]
   .rw[ZZ c];by_cases d:n<k
    .rw[ZY d,ZY (WU _ d)]
    .rw[ZZ d,ZZ (by lia)]
  rw[<- this]
  rfl
 .rintro _ ⟨x,z,rfl⟩;have:((List.range m).map λi=>if i<(List.range m).length then frR (y i)else frR 0)=(List.range m).map λi=>frR (y i):=U1 λi hi=>by rw[WJ,ZY (List.mem_range.mp hi)]
  rw[<- this]at q;exact q
open Rw (vr iu gU m_ gcL gk gw rT lE Big pJ jo mU jD mZ fP sg fX fG bW gD gW)
noncomputable abbrev BJ(ac:List (List Rat))(ay:List Rat):List (List Rat):=List.zipWith (λr c=>r++[c]) ac ay
def uY:ST:=λts R=>∃(ac:List (List Rat))(ay:List Rat)(N:Nat),ts=[.lst (ac.map Jg),.lst (ay.map frR)]/\ay.length=ac.length/\(∀r∈ac,r.length=ac.length)/\Sys (BJ ac ay) N/\∀y:Nat->Rat,(∀r∈BJ ac ay,sg (λj=>r.getD j 0*y j) ac.length=r.getD ac.length 0)->(∀i,i<ac.length->FnB ((2*ac.length*N)^ac.length) (y i))->R (.l1 ((List.range ac.length).map λi=>frR (y i)))
theorem HW(F:Fun K lD lD rA f fd)(T:Txt K mg D)(zV:OkT P w K mg base 1 qR qQ El)(rF:OkT P w K mg base 1 j8 lO wO)(Di:OkT P w K mg base 7 uc ux IK)(u5:OkT P w K mg base 1 oZ oR Bv)(Ds:OkT P w K mg base 1 uE tV Ht)(vA:OkT P w K mg base 1 oY oh Bl):cj P w K mg base CX0 8 f fd kJ (spT K uY):=by
 refine F.okT kE (λts R hP=>by obtain⟨_,_,_,e,_⟩:=hP;exact e ▸ rfl) λag A outer s H E hr=>?_;refine⟨_,(bC (bM 2 kE.nd (Or.inl rfl) (bI zV hr.md (by rfl) (bx (qv 0) bF)))
  (bC (bM 3 kE.nd (Or.inl rfl) (bJ (bI Di hr.md (by rfl) (bx (bI rF hr.md (by rfl) (bx (qv 0) (bx (qv 1) bF))) (bx (qv 2) bF))) bA))
  (bC (bM 4 kE.nd (Or.inl rfl) (bI u5 hr.md (by rfl) (bx (qv 3) (bx (qv 2) bF))))
  (bC (cG (QW.qt (nR (bY vQ (bV dh (by rfl) T.dY W1 (bx (qv 4) bF)) (qv 2)) (kI (bY Gp (bI Ds hr.md (by rfl) (bx (qv 3) (bx (qv 4) (bx (qv 2) bF)))) jf))))
  (bG (bQ jf))
  bT)
  (bG (bQ (bI vA hr.md (by rfl) (bx (qv 3) (bx (qv 4) (bx (qv 2) bF)))))))))),?_⟩
 rintro _ R ⟨ac,ay,N,rfl,hl,hw,h,ok⟩;have la:(BJ ac ay).length=ac.length:=by rw[JS,hl,UV]
 have few:=h.few;rw[la]at few;refine⟨ac,ac.length,rfl,hw,λz=>by rw[z];rfl,ac,ay,rfl,few,λr hr=>by rw[hw r hr];exact few,BJ ac ay,N,?_,h,λss y h1 h2=>?_⟩
 .rw[la];rfl
 .rw[la]at h1 h2 ⊢;have lr:((List.range ac.length).map λi:Nat=>L2.T.int i).length=ac.length:=by rw[ak,WJ]
  exact⟨ac.length,y,rfl,few,swF (Zp (by show ¬((((List.range ac.length).map λi:Nat=>L2.T.int i).length:Nat):Int)<_;lia)) ⟨ac.length,y,rfl,few,ac.length,y,rfl,few,ok y h1 h2⟩⟩
def Y0(m:Nat):List (List T):=(List.range m).map λi=>(List.range m).map λj=>frR (if j=i then 1 else 0)
def wj:ST:=λts q=>∃m:Nat,ts=[.int m]/\m<=100/\q (.l2 (Y0 m))
theorem HS(F:Fun K k_ k_ jq f fd)(T:Txt K mg D):cj P w K mg base CX0 1 f fd jZ (spT K wj):=by
 refine F.okT HJ (λts R hP=>by obtain⟨_,e,_⟩:=hP;exact e ▸ rfl) λag A outer s H E hr=>?_;refine⟨_,(bG (bQ (Ze (bH jq) jx jx "row" (cY (by rfl) T.dO (bx (qv 0) bF)) adH cI (Vy (bH jq) ("row"::jx) ("row"::jx) ["column"] (cY (by rfl) T.dO (bx (qv 1) bF)) (fj (i:=0)) cI (Vk (bY (go_eq hr.units) (qv 0) (qv 1)) (lW (by rfl) T.Ep T.vZ) (lW (by rfl) T.jz T.gO)))))),?_⟩;rintro _ R ⟨m,rfl,h,q⟩;have sz:(100:Nat)<=sizeLine:=by decide
 have rl:(rng 0 m).length<=sizeLine:=by rw[rng,ak,WJ];exact aL h sz
 refine⟨⟨by lia,by lia⟩,rl,Rj (λi=>(List.range m).map λj=>frR (if j=i then 1 else 0)) m (λi hi N M hN=>⟨⟨by lia,by lia⟩,rl,K6 (λj=>frR (if j=i then 1 else 0)) m (λj hj N M hN=>?_) hN⟩) q⟩;by_cases e:j=i
 .rw[ZY e]at hN;exact swT (Zs (by lia)) hN
 .rw[ZZ e]at hN;exact swF (Zp (by lia)) hN
noncomputable def dT:Option Nat->T
 |none=>.non
 |some d=>.int d
noncomputable def CT:Option Nat->Nat->Bool
 |none,n=>decide (n=0)
 |some d,n=>decide (d<n)
structure PlT(off:List (List bN))(pl:List (Option Nat)):Prop where
 len:pl.length=off.length
 ok:∀(k:Nat)(d:Option Nat)(ds:List bN),pl[k]?=some d->off[k]?=some ds->CT d ds.length=true
def Wi:ST:=λts q=>∃(d:Option Nat)(n:Nat),ts=[dT d,.int n]/\q (.fz (.bl (CT d n)))
theorem acw(F:Fun K Gf Gf Uu f fd)(T:Txt K mg D)(dB:OkT P w K mg base 1 iC iG m6):cj P w K mg base CX0 2 f fd Gn (spT K Wi):=by
 refine F.okT acf (λts R hP=>by obtain⟨_,_,e,_⟩:=hP;exact e ▸ rfl) λag A outer s H E hr=>?_;refine⟨_,(bC (cG (bY (go_eq hr.units) (qv 1) bA)
  (bG (bQ (Dr GR (qv 0) jf)))
  bT)
  (bG (bQ (Tz (bI dB hr.md (by rfl) (bx (qv 0) bF)) (SN (Qq Qj vQ bA (qv 0) (qv 1))))))),?_⟩
 rintro _ R ⟨d,n,rfl,q⟩;by_cases e:n=0
 .subst e;cases d with
  |none=>exact q
  |some d=>exact q
 .refine swF (Zp (by lia)) ?_;cases d with
  |none =>
   rw[show CT none n=false from Zp e]at q;exact⟨_,_,rfl,rfl,q⟩
  |some d =>
   rw[show CT (some d) n=decide ((d:Int)<(n:Int))from decide_eq_decide.mpr (by omega)]at q;exact⟨_,_,rfl,rfl,q⟩
def mW(D:Adr):ST:=λts q=>∃(s:Rat)(ns:Φ)(off:List (List bN))(pl:List (Option Nat)),ts=[hlT D s ns off,.lst (pl.map dT)]/\PJ ns off/\PlT off pl/\q (.fz (.bl true))
theorem JG(F:Fun K gM gM uw f fd)(T:Txt K mg D)(U4:OkT P w K mg base 2 Gf Gn Wi)(fQ:OkI P w K mg base CX0 1 D.Hall_size i_ (spT K (nT D)))(cV:OkI P w K mg base CX0 3 D.Hall_offers eZ (spT K (sI D))):cj P w K mg base CX0 4 f fd gP (spT K (mW D)):=by
 refine F.okT rK (λts R hP=>by obtain⟨_,_,_,_,e,_⟩:=hP;exact e ▸ rfl) λag A outer s H E hr=>?_;refine⟨_,(bC (cG (QW.qt (nR (fV (dX (Ii .list (qv 1) (by rfl) T.lM (by rfl) T.Mp boot_list))) (kI (bY (sS hr.units) (bV dh (by rfl) T.dY W1 (bx (qv 1) bF)) (Cg (qv 0) T.lQ T.tW fQ hr.md (KS:=mH))))))
  (bG fM)
  bT)
  (bC (dG VZ rfl (Ae (by rfl) T.ni (bx (qv 1) bF)) (fu (n:=2) rfl (bR (b_ (n:=99) 2 rK.nd (Or.inl rfl)) (bR (b_ (n:=99) 3 rK.nd (Or.inl rfl)) dF)))
  (bG (cG (fV (dX (bI U4 hr.md (by rfl) (bx (qv 3) (bx (bV dh (by rfl) T.dY W1 (bx (Br (qv 0) T.lQ T.lJ cV hr.md (bx (qv 2) bF) (KS:=mH)) bF)) bF)))))
  (bG fM)
  bT)))
  (bG (bQ v8)))),?_⟩
 rintro _ R ⟨s,ns,off,pl,rfl,h,hp,q⟩;refine⟨⟨rfl,rfl⟩,_,_,_,rfl,swF ?_ ?_⟩
 .show xr true (decide ((((pl.map dT).length:Nat):Int)=(ns.length:Nat)))=false;rw[ak,hp.len,h.len,Zs rfl]
  rfl
 .refine xV dT pl (λk o=>∃x y,o=[.fz (hlT D s ns off),.fz (.lst (pl.map dT)),x,y]) ⟨_,_,rfl⟩ ?_ ?_
  .rintro k d _ e ⟨x,y,rfl⟩;have lk:k<off.length:=by rw[<- hp.len];exact(ao.mp e).1
   have ek:=aj lk;refine⟨rfl,⟨rfl,rfl⟩,_,_,_,k,_,rfl,h,ek,d,(off[k]).length,?_,?_⟩
   .show[dT d,L2.T.int ((((off[k]).map ofT).length:Nat):Int)]=_;rw[ak]
   .rw[hp.ok k d _ e ek];exact⟨_,_,rfl⟩
  .rintro _ ⟨x,y,rfl⟩;exact q
def chO(off:List (List bN))(pl:List (Option Nat)):List (Option bN):=pl.zipIdx.map λp=>p.1.bind λd=>(off.getD p.2 [])[d]?
def opT:Option bN->T
 |none=>.non
 |some o=>ofT o
def uN(D:Adr):ST:=λts q=>∃(s:Rat)(ns:Φ)(off:List (List bN))(pl:List (Option Nat)),ts=[hlT D s ns off,.lst (pl.map dT)]/\PJ ns off/\PlT off pl/\q (.l1 ((chO off pl).map opT))
theorem Fi(F:Fun K jM jM j5 f fd)(T:Txt K mg D)(cV:OkI P w K mg base CX0 3 D.Hall_offers eZ (spT K (sI D))):cj P w K mg base CX0 4 f fd jL (spT K (uN D)):=by
 refine F.okT Fd (λts R hP=>by obtain⟨_,_,_,_,e,_⟩:=hP;exact e ▸ rfl) λag A outer s H E hr=>?_;refine⟨_,(bG (bQ (dH (bH j5) qg qg ["room","door"] (Ae (by rfl) T.ni (bx (qv 1) bF)) (fu (n:=2) rfl (bR (fj (i:=0)) (bR (fj (i:=1)) dF))) cI (Vk (bY GR (qv 1) jf) jf (bJ (Br (qv 2) T.lQ T.lJ cV hr.md (bx (qv 0) bF) (KS:=mH)) (qv 1)))))),?_⟩;rintro _ R ⟨s,ns,off,pl,rfl,h,hp,q⟩;refine⟨by unfold yV;rw[ak,List.length_zipIdx,ak,hp.len,h.len];exact aL h.few (by decide),?_⟩;rw[aam];refine comp_map (λp=>.tup [.int (p.2:Nat),dT p.1]) (λp=>opT (p.1.bind λd=>(off.getD p.2 [])[d]?)) pl.zipIdx (λp hm N M hN=>⟨rfl,?a⟩) ?b
 case b =>
  unfold chO at q;rw[WP]at q;exact q
 case a =>
  obtain⟨d,k⟩:=p;have e:=List.mem_zipIdx_iff_getElem?.mp hm;have lk:k<off.length:=by rw[<- hp.len];exact(ao.mp e).1
  have ek:=aj lk;have eg:off.getD k []=off[k]:=by rw[au,ek];rfl
  have ft:=hp.ok k d _ e ek;cases d with
  |none=>exact hN
  |some d =>
   have ld:d<(off[k]).length:=of_decide_eq_true ft;have hN:N (opT ((off.getD k [])[d]?)):=hN;rw[eg,aj ld]at hN;exact⟨⟨rfl,rfl⟩,_,_,_,k,_,rfl,h,ek,_,cZ (aj ld),hN⟩
open Rw (sg)
def rowsOf(f:Nat->Nat->Rat)(m:Nat):List (List T):=(List.range m).map λi=>(List.range m).map λj=>frR (f i j)
noncomputable def rM:List (Nat×Rat)->Nat->Rat
 |[],_=>0
 |w::ws,j=>(if w.1=j then w.2 else 0)+rM ws j
noncomputable def gB:Option bN->List (Nat×Rat)
 |none=>[]
 |some o=>o.ways
structure WyB(s:Rat)(m:Nat)(ws:List (Nat×Rat)):Prop where
 nd:(ws.map (·.1)).Nodup
 few:ws.length<=1000
 lt:∀w∈ws,w.1<m
 bq:∀w∈ws,Bq w.2/\Bd ((s.den:Int)*w.2.den)/\Bq (s*w.2)
def eF(s:Rat)(cs:List (Option bN))(i j:Nat):Rat:=(if j=i then 1 else 0)-s*rM (gB (cs.getD i none)) j
def BZ:ST:=λts q=>∃(s:Rat)(cs:List (Option bN)),ts=[frR s,.lst (cs.map opT)]/\cs.length<=100/\Bq s/\(∀o∈cs,WyB s cs.length (gB o))/\q (.l2 (rowsOf (eF s cs) cs.length))
theorem Zu(f:Nat->Nat->Rat)(m:Nat):(rowsOf f m).length=m:=by unfold rowsOf;rw[ak,WJ]
theorem Vt{f:Nat->Nat->Rat}{m i:Nat}(h:i<m):(rowsOf f m)[i]?=some ((List.range m).map λj=>frR (f i j)):=by
 unfold rowsOf;rw[aq,Up h];rfl
theorem uD{f g:Nat->Nat->Rat}{m:Nat}(h:∀i j,i<m->j<m->f i j=g i j):rowsOf f m=rowsOf g m:=U1 λi hi=>U1 λj hj=>by rw[h i j (List.mem_range.mp hi) (List.mem_range.mp hj)]
theorem aai{f g:Nat->Nat->Rat}{m i k:Nat}{v:Rat}(h:∀a b,a<m->b<m->g a b=if a=i/\b=k then v else f a b):(rowsOf f m).set i (((List.range m).map λj=>frR (f i j)).set k (frR v))=rowsOf g m:=by
 unfold rowsOf;refine Zzx (by rw[VS,ak,ak]) λa h1 h2=>?_;have ha:a<m:=by rw[ak,WJ]at h2;exact h2
 rw[List.getElem_set];by_cases e:i=a
 .rw[ZY e,UU,Zzw];refine Zzx (by rw[VS,ak,ak]) λb h3 h4=>?_;have hb:b<m:=by rw[ak,WJ]at h4;exact h4
  rw[List.getElem_set,UU,UU,Zzw,h a b ha hb];by_cases c:k=b
  .rw[ZY c,ZY ⟨e.symm,c.symm⟩]
  .rw[ZZ c,ZZ λz=>c z.2.symm,e]
 .rw[ZZ e,UU,UU,Zzw];refine U1 λb hb=>?_;rw[h a b ha (List.mem_range.mp hb),ZZ λz=>e z.1.symm]
theorem acA{f:Nat->Nat->Rat}{m i:Nat}(h:i<m):ixT (rowsOf f m) ((i:Nat):Int)=some ((List.range m).map λj=>frR (f i j)):=by
 show nth (rowsOf f m) i=_;rw[rR,Vt h]
theorem Z0(as:List (Nat×Rat))(w:Nat×Rat)(j:Nat):rM (as++[w]) j=rM as j+if w.1=j then w.2 else 0:=by
 induction as with
 |nil=>show(_+(0:Rat))=0+_;grind
 |cons a as ih=>show _+rM (as++[w]) j=(_+rM as j)+_;rw[ih];grind
theorem XJ{ws:List (Nat×Rat)}{j:Nat}(h:j∉ws.map (·.1)):rM ws j=0:=by
 induction ws with
 |nil=>rfl
 |cons a as ih =>
  show(if a.1=j then a.2 else 0)+rM as j=0;rw[ih λz=>h (aJ _ z),ZZ λz=>h (by rw[<- z];exact aO ..)]
  grind
def ug(s:Rat)(cs:List (Option bN))(n:Nat)(as:List (Nat×Rat))(i j:Nat):Rat:=if i<n then eF s cs i j else if i=n then(if j=i then 1 else 0)-s*rM as j else if j=i then 1 else 0
theorem acC(s:Rat)(cs:List (Option bN))(n i j:Nat):ug s cs n [] i j=if i<n then eF s cs i j else if j=i then 1 else 0:=by
 unfold ug;split
 .rfl
 .split
  .show _-s*0=_;grind
  .rfl
theorem abe{s:Rat}{cs:List (Option bN)}{n:Nat}(i j:Nat):ug s cs n (gB (cs.getD n none)) i j=if i<n+1 then eF s cs i j else if j=i then 1 else 0:=by
 unfold ug;by_cases a:i<n
 .rw[ZY a,ZY (show i<n+1 by exact WU _ a)]
 .by_cases b:i=n
  .subst b;rw[ZZ a,ZY rfl,ZY (show i<i+1 by exact X1 _)]
   rfl
  .rw[ZZ a,ZZ b,ZZ (show ¬i<n+1 by lia)]
theorem Uv(s:Rat)(cs:List (Option bN))(n:Nat)(as:List (Nat×Rat))(j:Nat):ug s cs n as n j=(if j=n then 1 else 0)-s*rM as j:=by unfold ug;rw[ZZ (X9 _),ZY rfl]
theorem afo{s:Rat}{cs:List (Option bN)}{n i:Nat}(as bs:List (Nat×Rat))(j:Nat)(h:i≠n):ug s cs n as i j=ug s cs n bs i j:=by unfold ug;rw[ZZ h,ZZ h]
theorem M5(F:Fun K o9 o9 vU f fd)(T:Txt K mg D)(rH:OkT P w K mg base 1 k_ jZ wj)(oU:OkT P w K mg base 3 sW sJ Bb)(uH:OkT P w K mg base 3 xq vC Iw):cj P w K mg base CX0 4 f fd oE (spT K BZ):=by
 refine F.okT iY (λts R hP=>by obtain⟨_,_,e,_⟩:=hP;exact e ▸ rfl) λag A outer s H E hr=>?_;refine⟨_,(bC (g_ 2 iY.nd (Or.inl rfl) (bI rH hr.md (by rfl) (bx (bV dh (by rfl) T.dY W1 (bx (qv 1) bF)) bF)))
  (bC (dG VZ rfl (Ae (by rfl) T.ni (bx (qv 1) bF)) (fu (n:=2) rfl (bR (b_ (n:=99) 3 iY.nd (Or.inl rfl)) (bR (b_ (n:=99) 4 iY.nd (Or.inl rfl)) dF)))
  (bG (cG (bY Gp (qv 4) jf)
  (bG (dG VZ rfl (cH (bJ (qv 4) bA)) (fu (n:=2) rfl (bR (b_ (n:=99) 5 iY.nd (Or.inl rfl)) (bR (b_ (n:=99) 6 iY.nd (Or.inl rfl)) dF)))
  (bG (adC 2 (bI oU hr.md (by rfl) (bx (acY 2 (qv 3) (qv 5)) (bx (bI uH hr.md (by rfl) (bx (qv 0) (bx (qv 6) bF))) bF))) (qv 3) (qv 5)))))
  bT)))
  (bG (jE 2)))),?_⟩
 rintro _ R ⟨s,cs,rfl,hm,hs,hw,q⟩;refine⟨cs.length,?_,hm,?_⟩
 .show[L2.T.int (((cs.map opT).length:Nat):Int)]=_;rw[ak]
 .have lc:∀x:Nat,((cs.map opT).length:Nat)=cs.length:=λ_=>ak _;refine xV opT cs (λn o=>∃x y z u,o=[.fz (frR s),.fz (.lst (cs.map opT)),.l2 (rowsOf (λi j=>if i<n then eF s cs i j else if j=i then 1 else 0) cs.length),x,y,z,u]) ⟨.und,.und,.und,.und,?_⟩ ?_ ?_
  .show[_,_,OT.l2 (rowsOf (λi j=>if j=i then 1 else 0) cs.length),_,_,_,_]=_;rw[uD (f:=λi j=>if j=i then 1 else 0) (g:=λi j=>if i<0 then eF s cs i j else if j=i then 1 else 0) λi j _ _=>by rw[ZZ (WV _)]]
  .rintro n oo _ e ⟨x,y,z,u,rfl⟩;have hn:n<cs.length:=(ao.mp e).1;have eg:cs.getD n none=oo:=by rw[au,e];rfl
   have hb:=hw oo (aC e);rw[show rowsOf (λi j=>if i<n then eF s cs i j else if j=i then 1 else 0) cs.length=rowsOf (ug s cs n []) cs.length from uD λi j _ _=>(acC s cs n i j).symm];rw[show rowsOf (λi j=>if i<n+1 then eF s cs i j else if j=i then 1 else 0) cs.length=rowsOf (ug s cs n (gB oo)) cs.length from uD λi j _ _=>by rw[<- eg];exact(abe i j).symm];refine⟨rfl,?_⟩
   match oo,hb with
   |none,hb=>exact⟨_,_,_,_,rfl⟩
   |some o,hb =>
    refine fW nwT o.ways (λas ot=>∃z u,ot=[.fz (frR s),.fz (.lst (cs.map opT)),.l2 (rowsOf (ug s cs n as) cs.length),.fz (.int n),.fz (ofT o),z,u]) ⟨_,_,rfl⟩ ?_ ?_
    .rintro as ⟨k,c⟩ bs _ e2 ⟨z,u,rfl⟩;have j3:(k,c)∈o.ways:=e2 ▸ by simp
     have hk:=hb.lt _ j3;obtain⟨c1,c2,c3⟩:=hb.bq _ j3;have nk:k∉as.map (·.1):=λz=>by
      have nd:=hb.nd;rw[show gB (some o)=o.ways from rfl,e2,bf]at nd;exact(List.nodup_append.mp nd).2.2 k z k (by simp) rfl
     have cell:ug s cs n as n k=if k=n then 1 else 0:=by
      unfold ug;rw[ZZ (X9 _),ZY rfl,XJ nk]
      grind
     have q1:Bq (ug s cs n as n k)/\Bd (((ug s cs n as n k).den:Int)*(s*c).den):=by
      rw[cell];split
      .exact⟨bq1,by show Bd (1*_);rw[JP];exact c3.2⟩
      .exact⟨bq0,by show Bd (1*_);rw[JP];exact c3.2⟩
     refine⟨rfl,_,(acA hn),_,cZ (Up hk),s,c,rfl,hs,c1,c2,_,_,rfl,q1.1,c3,q1.2,n,_,zU (by rw[Zu];exact hn),Vt hn,k,zU (by rw[ak,WJ];exact hk),.fz (.int k),.fz (frR c),?_⟩;rw[<- aai (f:=ug s cs n as) (g:=ug s cs n (as++[(k,c)])) (i:=n) (k:=k) (v:=ug s cs n as n k-s*c) λa b _ _=>?_]
     .rfl
     .by_cases a1:a=n
      .subst a1;rw[Uv,Z0];by_cases b1:b=k
       .subst b1;rw[ZY (show a=a/\b=b from⟨rfl,rfl⟩),Uv,ZY (show(b,c).1=b from rfl)]
        grind
       .rw[ZZ (show ¬(a=a/\b=k)from λz=>b1 z.2),Uv,ZZ (show ¬(k,c).1=b from λz=>b1 z.symm)]
        grind
      .rw[ZZ (show ¬(a=n/\b=k)from λz=>a1 z.1)];exact afo _ _ _ a1
    .rintro _ ⟨z,u,rfl⟩;exact⟨_,_,_,_,rfl⟩
  .rintro _ ⟨x,y,z,u,rfl⟩;rw[show rowsOf (eF s cs) cs.length=rowsOf (λi j=>if i<cs.length then eF s cs i j else if j=i then 1 else 0) cs.length from uD λi j hi _=>by rw[ZY hi]]at q;exact q
open Rw (sg)
noncomputable def jX:Option bN->Rat
 |none=>0
 |some o=>o.pay
def yW(s:Rat)(cs:List (Option bN)):List (List Rat):=(List.range cs.length).map λi=>(List.range cs.length).map λj=>eF s cs i j
theorem amO(s:Rat)(cs:List (Option bN)):(rowsOf (eF s cs) cs.length).map T.lst=(yW s cs).map Jg:=by
 unfold rowsOf yW;rw[WP,WP];refine U1 λi _=>?_;show T.lst _=T.lst (List.map frR _);rw[WP]
 rfl
theorem Nt(s:Rat)(cs:List (Option bN)):(yW s cs).length=cs.length:=by unfold yW;rw[ak,WJ]
theorem ae6{s:Rat}{cs:List (Option bN)} : ∀r∈yW s cs,r.length=cs.length:=λr hr=>by
 obtain⟨i,_,rfl⟩:=YV.mp hr;rw[ak,WJ]
def Bh(s:Rat)(cs:List (Option bN))(y:Nat->Rat):Prop:=∀i,i<cs.length->sg (λj=>eF s cs i j*y j) cs.length=jX (cs.getD i none)
structure WoB(s:Rat)(cs:List (Option bN))(N:Nat):Prop where
 bs:Bq s
 ways:∀o∈cs,WyB s cs.length (gB o)
 sys:Sys (BJ (yW s cs) (cs.map jX)) N
theorem TY{s:Rat}{cs:List (Option bN)}{i:Nat}(h:i<cs.length):(BJ (yW s cs) (cs.map jX))[i]?=some (((List.range cs.length).map λj=>eF s cs i j)++[jX (cs.getD i none)]):=by
 unfold BJ yW;rw[Zyq,aq,Up h,aq,au,aj h]
 rfl
theorem Z4{s:Rat}{cs:List (Option bN)}{y:Nat->Rat}(h:∀r∈BJ (yW s cs) (cs.map jX),sg (λj=>r.getD j 0*y j) cs.length=r.getD cs.length 0):Bh s cs y:=λi hi=>by
 have:=h _ (aC (TY hi));have l:((List.range cs.length).map λj=>eF s cs i j).length=cs.length:=by rw[ak,WJ]
 rw[show(((List.range cs.length).map λj=>eF s cs i j)++[jX (cs.getD i none)]).getD cs.length 0=jX (cs.getD i none)by
  rw[au,aD (by rw[l];exact aG _),l,Zzy];rfl]at this
 rw[<- this];refine Rw.bW λj hj=>?_;rw[au,aF (by rw[l];exact hj),aq,Up hj]
 rfl
def Bg(D:Adr):ST:=λts R=>∃(s:Rat)(ns:Φ)(off:List (List bN))(pl:List (Option Nat))(N:Nat),ts=[hlT D s ns off,.lst (pl.map dT)]/\PJ ns off/\PlT off pl/\off.length<=100/\WoB s (chO off pl) N/\∀y:Nat->Rat,Bh s (chO off pl) y->(∀i,i<off.length->FnB ((2*off.length*N)^off.length) (y i))->R (.l1 ((List.range off.length).map λi=>frR (y i)))
theorem I8{off:List (List bN)}{pl:List (Option Nat)}(h:PlT off pl):(chO off pl).length=off.length:=by unfold chO;rw[ak,List.length_zipIdx,h.len]
theorem Pb(F:Fun K oO oO qw f fd)(T:Txt K mg D)(d7:OkT P w K mg base 4 gM gP (mW D))(pP:OkT P w K mg base 4 jM jL (uN D))(vo:OkT P w K mg base 4 o9 oE BZ)(rW:OkT P w K mg base 8 lD kJ uY):cj P w K mg base CX0 9 f fd n8 (spT K (Bg D)):=by
 refine F.okT ur (λts R hP=>by obtain⟨_,_,_,_,_,e,_⟩:=hP;exact e ▸ rfl) λag A outer s H E hr=>?_;refine⟨_,(bC (jJ (bI d7 hr.md (by rfl) (bx (qv 0) (bx (qv 1) bF))))
  (bC (bM 2 ur.nd (Or.inl rfl) (bI pP hr.md (by rfl) (bx (qv 0) (bx (qv 1) bF))))
  (bC (qK (bH qw) w5 w5 ["offer"] (cH (qv 2)) (fj (i:=0)) cI (Vk (bY GR (qv 0) jf) (lW (by rfl) T.jz T.gO) (bJ (qv 0) bA)) (lR (i:=3) ur.nd rfl (Or.inl rfl)))
  (bG (bQ (bI rW hr.md (by rfl) (bx (bI vo hr.md (by rfl) (bx (pI (Fm:=Fam D) (λC h=>⟨T.cl C h,T.xK C h⟩) (qv 0)) (bx (qv 2) bF))) (bx (qv 3) bF)))))))),?_⟩
 rintro _ R ⟨s,ns,off,pl,N,rfl,h,hp,few,hw,ok⟩;have cl:=I8 hp;refine⟨_,_,_,_,rfl,h,hp,_,_,_,_,rfl,h,hp,?_⟩;refine⟨by rw[ak,cl];exact aL few (by decide),comp_map opT (λo=>frR (jX o)) (chO off pl) (λo ho N M hN=>by cases o<;>exact hN) ?_⟩;refine⟨p8 D,_,rfl,s,chO off pl,rfl,by exact aL (WG cl) few,hw.bs,hw.ways,yW s (chO off pl),(chO off pl).map jX,N,?_,by rw[ak,Nt],by rw[Nt];exact ae6,hw.sys,?_⟩
 .show[L2.T.lst ((rowsOf (eF s (chO off pl)) (chO off pl).length).map L2.T.lst),L2.T.lst ((chO off pl).map λo=>frR (jX o))]=_;rw[amO,WP]
  rfl
 .rw[Nt,cl];exact λy h1 h2=>ok y (Z4 (by rw[cl];exact h1)) h2
noncomputable def Fq(ws:List (Nat×Rat))(tp:List Int):Rat:=(ws.map λw=>w.2*((tp.getD w.1 0:Int):Rat)).sum
structure BhB(ws:List (Nat×Rat))(tp:List Int):Prop where
 few:ws.length<=1000
 lt:∀w∈ws,w.1<tp.length
 num:∀w∈ws,Bd w.2.num
 lcm:Bd (cD 1 (ws.map (·.2)):Nat)
 part:∀t∈tops (cD 1 (ws.map (·.2))) (ws.map (·.2)),Bd t
 top:∀t∈tp,Bd t
def uV:ST:=λts q=>∃(o:bN)(tp:List Int),ts=[ofT o,.lst (tp.map T.int)]/\BhB o.ways tp/\q (.fz (frR (Fq o.ways tp)))
theorem K_{B:Nat}(hB:0<B)(tp:List Int):∀ws:List (Nat×Rat),(∀w∈ws,w.2.den ∣ B)->Rat.divInt ((ws.map λw=>w.2.num*((B/w.2.den:Nat):Int)*tp.getD w.1 0).sum) B=Fq ws tp
 |[],_=>by
  show Rat.divInt 0 B=0;exact TK _
 |w::ws,h=>by
  have ih:=K_ hB tp ws λx hx=>h x (aJ _ hx);show Rat.divInt (w.2.num*((B/w.2.den:Nat):Int)*tp.getD w.1 0+(ws.map λw=>w.2.num*((B/w.2.den:Nat):Int)*tp.getD w.1 0).sum) B=w.2*((tp.getD w.1 0:Int):Rat)+Fq ws tp;rw[<- ih,UK,UK,Rat.intCast_add,XV];have e:((w.2.num*((B/w.2.den:Nat):Int):Int):Rat)/((B:Int):Rat)=w.2:=by
   obtain⟨k,hk⟩:=h w (aO ..);have hd:=w.2.den_pos;rw[show B/w.2.den=k by rw[hk];exact Zww _ hd];have hV:k≠0:=λz=>by rw[z]at hk;lia
   rw[<- UK,hk,Th,Rat.divInt_mul_right (by lia)];exact rd _
  have hb:((B:Int):Rat)≠0:=λz=>by have:=Rat.intCast_eq_zero_iff.mp z;lia
  grind
theorem Z5{α:Type}(ws:List α)(g h:α->Int):((ws.map g).zip ws).map (λp=>p.1*h p.2)=ws.map λw=>g w*h w:=by
 induction ws with
 |nil=>rfl
 |cons w ws ih=>exact ZH (List.cons _) ih
theorem G4(F:Fun K lH lH ju f fd)(T:Txt K mg D)(jC:OkT P w K mg base 2 qj pH wM)(dI:OkT P w K mg base 2 nu m9 sH):cj P w K mg base CX0 3 f fd lK (spT K uV):=by
 refine F.okT wu (λts R hP=>by obtain⟨_,_,e,_⟩:=hP;exact e ▸ rfl) λag A outer s H E hr=>?_;refine⟨_,(bC (bM 2 wu.nd (Or.inl rfl) (bI jC hr.md (by rfl) (bx (dH (bH ju) jj jj ["room","chance"] (cH (bJ (qv 0) bA)) (fu (n:=2) rfl (bR (fj (i:=0)) (bR (fj (i:=1)) dF))) cI (qv 1)) bF)))
  (bG (bQ (bI dI hr.md (by rfl) (bx (bV (Oj rfl) (by rfl) T.U9 boot_sum (bx (dH (bH ju) jj jj ["part","way"] (Ia (by rfl) T.R6 (bx (bJ (qv 2) bA) (bx (bJ (qv 0) bA) bF))) (fu (n:=2) rfl (bR (fj (i:=0)) (bR (fj (i:=1)) dF))) cI (bK cB (qv 0) (bJ (qv 3) (bJ (qv 1) bA)))) bF)) (bx (bJ (qv 2) bA) bF)))))),?_⟩
 rintro _ R ⟨o,tp,rfl,h,q⟩;refine⟨by rw[ak];exact aL h.few (by decide),comp_map nwT (λw=>frR w.2) o.ways (λw hw N M hN=>⟨rfl,hN⟩) ?_⟩;have hB:=eY (o.ways.map (·.2)) UY;refine⟨o.ways.map (·.2),by rw[WP];rfl,by rw[ak];exact h.few,λr hr=>?_,h.lcm,?_⟩
 .obtain⟨w,hw,rfl⟩:=YV.mp hr;exact h.num w hw
 .refine⟨by unfold DP;rw[ak,VX,ak,ak];exact aL (aL (Nat.min_le_right ..) h.few) (by decide),?_⟩;rw[zip_map];refine comp_map (λp:Int×(Nat×Rat)=>.tup [.int p.1,nwT p.2]) (λp=>.int (p.1*tp.getD p.2.1 0)) _ (λp hp N M hN=>?a) ?b
  case a =>
   have m2:=(VQ hp).2;have lt:=h.lt _ m2;have hN:N (.int (p.1*tp.getD p.2.1 0)):=hN;rw[au,aj lt]at hN;exact⟨rfl,_,cZ (aj lt),⟨h.part _ (VQ hp).1,h.top _ (aU lt)⟩,hN⟩
  case b =>
   refine⟨((tops (cD 1 (o.ways.map (·.2))) (o.ways.map (·.2))).zip o.ways).map λp=>p.1*tp.getD p.2.1 0,by rw[WP];rfl,_,_,rfl,by lia,h.lcm,λx y l=>?_⟩;rw[iR l (by lia)];unfold tops;rw[WP,Z5 o.ways _ λw=>tp.getD w.1 0];have:=K_ hB tp o.ways λw hw=>(jy (o.ways.map (·.2))).2 w.2 (YV.mpr ⟨w,hw,rfl⟩);rw[<- this]at q;exact q
def Ed:ST:=λts q=>∃(r:Rat)(rs:List Rat),ts=[.lst ((r::rs).map frR)]/\(∀x∈r::rs,Bq x)/\∀m,m∈r::rs->(∀x∈r::rs,x<=m)->q (.fz (frR m))
theorem Pj(F:Fun K qJ qJ zT f fd)(T:Txt K mg D)(gY:OkT P w K mg base 1 pL qu xH):cj P w K mg base CX0 2 f fd qL (spT K Ed):=by
 refine F.okT qU (λts R hP=>by obtain⟨_,_,e,_⟩:=hP;exact e ▸ rfl) λag A outer s H E hr=>?_;refine⟨_,(bC (bM 1 qU.nd (Or.inl rfl) jf)
  (bC (dG VZ rfl (cH (qv 0)) (b_ (n:=99) 2 qU.nd (Or.inl rfl))
  (bG (cG (QW.qt (nR (bY GR (qv 1) jf) (kI (dX (bI gY hr.md (by rfl) (bx (qv 1) (bx (qv 2) bF)))))))
  (bG (bM 1 qU.nd (Or.inl rfl) (qv 2)))
  bT)))
  (bG (bQ (qv 1))))),?_⟩
 rintro _ R ⟨r,rs,rfl,h,q⟩;refine fW frR (r::rs) (λas o=>(as=[]/\∃x,o=[.fz (.lst ((r::rs).map frR)),.fz .non,x])\/∃m x,o=[.fz (.lst ((r::rs).map frR)),.fz (frR m),x]/\m∈as/\∀x∈as,x<=m) (.inl ⟨rfl,_,rfl⟩) ?_ ?_
 .rintro as a bs _ e (⟨rfl,x,rfl⟩|⟨m,x,rfl,hm,hG⟩)
  .exact .inr ⟨a,_,rfl,by simp,λx hx=>by rw[show x=a by simpa using hx];exact VW⟩
  .have ba:Bq a:=h a (e ▸ by simp);have bm:Bq m:=h m (e ▸ UH _ hm);exact⟨m,a,rfl,bm,ba,swD (λlt=>.inr ⟨a,_,rfl,by simp,λx hx=>(Y1.mp hx).elim (λz=>US (hG x z) (TZ lt)) λz=>by rw[YR.mp z];exact VW⟩) λii=>.inr ⟨m,_,rfl,UH _ hm,λx hx=>(Y1.mp hx).elim (hG x) λz=>by rw[YR.mp z];exact Rat.not_lt.mp ii⟩⟩
 .rintro _ (⟨z,_⟩|⟨m,x,rfl,hm,hx⟩)
  .cases z
  .exact q m hm hx
structure LkB(s:Rat)(o:bN)(tp:List Int)(B:Nat):Prop where
 bh:BhB o.ways tp
 pay:Bq o.pay
 bs:Bq s
 b:Bd (B:Int)
 dw:Bq (Fq o.ways tp)
 d1:Bd ((s.den:Int)*(Fq o.ways tp).den)
 p1:Bq (o.pay*(B:Rat))
 p2:Bq (s*Fq o.ways tp)
 d2:Bd (((o.pay*(B:Rat)).den:Int)*(s*Fq o.ways tp).den)
def je(s:Rat)(tp:List Int)(B:Nat)(o:bN):Rat:=o.pay*(B:Rat)+s*Fq o.ways tp
def vJ(D:Adr):ST:=λts q=>∃(s:Rat)(ns:Φ)(off:List (List bN))(o:bN)(tp:List Int)(B:Nat),ts=[hlT D s ns off,ofT o,.tup [.lst (tp.map T.int),.int (B:Nat)]]/\LkB s o tp B/\q (.fz (frR (je s tp B o)))
theorem Hg(F:Fun K kZ kZ rQ f fd)(T:Txt K mg D)(rG:OkT P w K mg base 3 lH lK uV)(Eb:OkT P w K mg base 3 zZ zY NT)(uH:OkT P w K mg base 3 xq vC Iw):cj P w K mg base CX0 4 f fd kh (spT K (vJ D)):=by
 refine F.okT vh (λts R hP=>by obtain⟨_,_,_,_,_,_,e,_⟩:=hP;exact e ▸ rfl) λag A outer s H E hr=>?_;refine⟨_,(bC (bM 3 vh.nd (Or.inl rfl) (bI rG hr.md (by rfl) (bx (qv 1) (bx (bJ (qv 2) bA) bF))))
  (bG (bQ (bI Eb hr.md (by rfl) (bx (bI uH hr.md (by rfl) (bx (bJ (qv 1) bA) (bx (cW (bx (bJ (qv 2) bA) (bx bA bF))) bF))) (bx (bI uH hr.md (by rfl) (bx (pI (Fm:=Fam D) (λC h=>⟨T.cl C h,T.xK C h⟩) (qv 0)) (bx (qv 3) bF))) bF)))))),?_⟩
 rintro _ R ⟨s,ns,off,o,tp,B,rfl,h,q⟩;refine⟨o,tp,rfl,h.bh,o.pay,(B:Rat),rfl,h.pay,⟨h.b,bq1.2⟩,?_,p8 D,_,rfl,s,Fq o.ways tp,rfl,h.bs,h.dw,h.d1,_,_,rfl,h.p1,h.p2,h.d2,q⟩;show Bd ((o.pay.den:Int)*1);rw[Q1];exact h.pay.2
def Vj(rs:List Rat)(d b:Nat):Prop:=(∀x∈rs,x<=rs.getD d 0)/\b=d\/((rs.getD d 0)<rs.getD b 0/\b<rs.length/\(∀x∈rs,x<=rs.getD b 0)/\∀i,i<b->rs.getD i 0≠rs.getD b 0)
theorem af9{a b:Rat}(h:(a.num,((a.den:Nat):Int))=(b.num,((b.den:Nat):Int))):a=b:=by
 injection h with h1 h2;exact Rat.ext h1 (by lia)
theorem aal{rs:List Rat}{m:Rat}(h:m∈rs):∃j:Nat,rs[j]?=some m/\∀(i:Nat)g,i<j->rs[i]?=some g->g≠m:=by
 induction rs with
 |nil=>cases h
 |cons r rs ih =>
  by_cases e:r=m
  .exact⟨0,by rw[e];rfl,λi _ z=>absurd z (WV _)⟩
  .obtain⟨j,e1,e2⟩:=ih ((YU.mp h).resolve_left λz=>e z.symm);refine⟨j+1,e1,λi g hi eg=>?_⟩;cases i with
   |zero=>cases eg;exact e
   |succ i=>exact e2 i g (Nat.lt_of_succ_lt_succ hi) eg
def wY:ST:=λts q=>∃(rs:List Rat)(d:Nat),ts=[.lst (rs.map frR),.int (d:Nat)]/\d<rs.length/\rs.length<=1000/\(∀x∈rs,Bq x)/\∀b:Nat,Vj rs d b->q (.fz (.int (b:Nat)))
theorem Hr(F:Fun K kY kY rY f fd)(T:Txt K mg D)(yX:OkT P w K mg base 2 qJ qL Ed)(gY:OkT P w K mg base 1 pL qu xH):cj P w K mg base CX0 3 f fd lG (spT K wY):=by
 refine F.okT wU (λts R hP=>by obtain⟨_,_,e,_⟩:=hP;exact e ▸ rfl) λag A outer s H E hr=>?_;refine⟨_,(bC (bM 2 wU.nd (Or.inl rfl) (bI yX hr.md (by rfl) (bx (qv 0) bF)))
  (bC (cG (dX (bI gY hr.md (by rfl) (bx (bJ (qv 0) (qv 1)) (bx (qv 2) bF))))
  (bG (bQ (aeD hr.units (qv 0) (bx (qv 2) bF))))
  bT)
  (bG (bQ (qv 1))))),?_⟩
 rintro _ R ⟨rs,d,rfl,hd,few,hb,q⟩;have ed:=aj hd;have gd:rs.getD d 0=rs[d]:=by rw[au,ed];rfl
 obtain⟨r,dq,e0⟩ : ∃r dq,rs=r::dq:=by
  cases rs with
  |nil=>exact absurd hd (WV _)
  |cons r rs=>exact⟨r,rs,rfl⟩
 refine⟨r,dq,by rw[e0];rfl,λx hx=>hb x (e0 ▸ hx),λm hm hx=>?_⟩;rw[<- e0]at hm hx;refine⟨_,cZ ed,_,m,rfl,hb _ (aU hd),hb m hm,swD (λlt=>?_) λii=>?_⟩
 .obtain⟨j,ej,nj⟩:=aal hm;have gj:rs.getD j 0=m:=by rw[au,ej];rfl
  refine⟨rs.map λr=>(r.num,((r.den:Nat):Int)),(m.num,((m.den:Nat):Int)),j,by rw[WP];rfl,rfl,by rw[ak];exact aL few (by decide),by rw[aq,ej];rfl,λi g hi eg=>?_,q j (.inr ⟨by rw[gd,gj];exact lt,(ao.mp ej).1,by rw[gj];exact hx,λi hi=>?_⟩)⟩
  .rw[aq]at eg;have li:i<rs.length:=Tk hi (ao.mp ej).1;rw[aj li]at eg;cases eg;exact λz=>nj i _ hi (aj li) (af9 z)
  .have li:i<rs.length:=Tk hi (ao.mp ej).1;rw[gj,au,aj li];exact nj i _ hi (aj li)
 .refine q d (.inl ⟨λx hG=>?_,rfl⟩);rw[gd];exact US (hx x hG) (Rat.not_lt.mp ii)
structure Nk(s:Rat)(off:List (List bN))(tp:List Int)(B:Nat)(pl a8:List (Option Nat)):Prop where
 len:a8.length=pl.length
 none:∀k:Nat,pl[k]?=some none->a8[k]?=some none
 some:∀(k d:Nat)(ds:List bN),pl[k]?=some (some d)->off[k]?=some ds->∃b,a8[k]?=some (some b)/\Vj (ds.map (je s tp B)) d b
structure MeB(s:Rat)(off:List (List bN))(ys:List Rat):Prop where
 few:ys.length<=1000
 num:∀r∈ys,Bd r.num
 lcm:Bd (cD 1 ys:Nat)
 look:∀ds∈off,∀o∈ds,LkB s o (tops (cD 1 ys) ys) (cD 1 ys)/\Bq (je s (tops (cD 1 ys) ys) (cD 1 ys) o)
def Kg(D:Adr):ST:=λts R=>∃(s:Rat)(ns:Φ)(off:List (List bN))(pl:List (Option Nat))(ys:List Rat),ts=[hlT D s ns off,.lst (pl.map dT),.lst (ys.map frR)]/\PJ ns off/\PlT off pl/\MeB s off ys/\∀a8:List (Option Nat),Nk s off (tops (cD 1 ys) ys) (cD 1 ys) pl a8->R (.l1 (a8.map dT))
theorem Xl(F:Fun K xT xT Ag f fd)(T:Txt K mg D)(d7:OkT P w K mg base 4 gM gP (mW D))(jC:OkT P w K mg base 2 qj pH wM)(sG:OkT P w K mg base 4 kZ kh (vJ D))(rO:OkT P w K mg base 3 kY lG wY)(cV:OkI P w K mg base CX0 3 D.Hall_offers eZ (spT K (sI D))):cj P w K mg base CX0 5 f fd yt (spT K (Kg D)):=by
 refine F.okT pB (λts R hP=>by obtain⟨_,_,_,_,_,e,_⟩:=hP;exact e ▸ rfl) λag A outer s H E hr=>?_;refine⟨_,(bC (jJ (bI d7 hr.md (by rfl) (bx (qv 0) (bx (qv 1) bF))))
  (bC (bM 3 pB.nd (Or.inr rfl) (bI jC hr.md (by rfl) (bx (qv 2) bF)))
  (bC (g_ 4 pB.nd (Or.inl rfl) (d_ bF))
  (bC (dG VZ rfl (Ae (by rfl) T.ni (bx (qv 1) bF)) (fu (n:=2) rfl (bR (b_ (n:=99) 5 pB.nd (Or.inl rfl)) (bR (b_ (n:=99) 6 pB.nd (Or.inl rfl)) dF)))
  (bC (qK (bH Ag) H_ H_ ["offer"] (cH (Br (qv 0) T.lQ T.lJ cV hr.md (bx (qv 5) bF) (KS:=mH))) (fj (i:=0)) cI (bI sG hr.md (by rfl) (bx (qv 1) (bx (qv 0) (bx (qv 4) bF)))) (lR (i:=7) pB.nd rfl (Or.inl rfl)))
  (bG (nG 4 (Vk (bY GR (qv 6) jf) jf (bI rO hr.md (by rfl) (bx (qv 7) (bx (qv 6) bF))))))))
  (bG (jE 4)))))),?_⟩
 rintro _ R ⟨s,ns,off,pl,ys,rfl,h,hp,hm,ok⟩;refine⟨_,_,_,_,rfl,h,hp,ys,rfl,hm.few,hm.num,hm.lcm,?_⟩;have lk:=hm.look;generalize cD 1 ys=B at *;generalize tops B ys=tp at *;refine xV dT pl (λk o=>∃a8 x y z,o=[.fz (hlT D s ns off),.fz (.lst (pl.map dT)),.fz (.lst (ys.map frR)),.fz (.tup [.lst (tp.map L2.T.int),.int (B:Nat)]),.l1 (a8.map dT),x,y,z]/\a8.length=k/\(∀i:Nat,i<k->pl[i]?=some none->a8[i]?=some none)/\∀(i d:Nat)(ds:List bN),i<k->pl[i]?=some (some d)->off[i]?=some ds->∃b,a8[i]?=some (some b)/\Vj (ds.map (je s tp B)) d b) ⟨[],.und,.und,.und,rfl,rfl,λi z=>absurd z (WV _),λi d ds z=>absurd z (WV _)⟩ ?_ ?_
 .rintro k d _ e ⟨a8,x,y,z,rfl,l1,h1,h2⟩;have lk':k<off.length:=by rw[<- hp.len];exact(ao.mp e).1
  have ek:=aj lk';have few:=h.few;have hl:=h.len;have lm:(a8.map dT).length<sizeLine:=by rw[ak];exact aR (show _<1001 by lia) (by decide)
  have mem:=aU lk';have fd:=h.fews _ mem;have jS:∀{i:Nat}(v:Option Nat),i<k->(a8++[v])[i]?=a8[i]?:=λv hi=>aF (by lia);have rgt:∀v:Option Nat,(a8++[v])[k]?=some v:=λv=>by rw[aD (WG l1),l1,Zzy];rfl
  have ma:∀v:Option Nat,a8.map dT++[dT v]=(a8++[v]).map dT:=λv=>by rw[bf];rfl
  refine⟨rfl,⟨rfl,rfl⟩,_,_,_,k,_,rfl,h,ek,by rw[ak];exact aL fd (by decide),comp_map ofT (λo=>frR (je s tp B o)) off[k] (λo ho N M hN=>⟨s,ns,off,o,tp,B,rfl,(lk _ mem o ho).1,hN⟩) ?_⟩;cases d with
  |none =>
   refine⟨lm,a8++[none],.fz (.int k),.fz .non,.fz (.lst (off[k].map λo=>frR (je s tp B o))),?_,by simp[l1],λi hi ei=>?_,λi d ds hi ei=>?_⟩
   .rw[<- ma]
    rfl
   .by_cases c:i=k
    .rw[c];exact rgt none
    .rw[jS none (XX (UZ hi) c)];exact h1 i (XX (UZ hi) c) ei
   .by_cases c:i=k
    .rw[c,e]at ei;cases ei
    .rw[jS none (XX (UZ hi) c)];exact h2 i d ds (XX (UZ hi) c) ei
  |some d =>
   have ld:d<(off[k]).length:=of_decide_eq_true (hp.ok k (some d) _ e ek);refine⟨off[k].map (je s tp B),d,by rw[WP];rfl,by rw[ak];exact ld,by rw[ak];exact fd,λx hx=>?_,λb hb=>⟨lm,a8++[some b],.fz (.int k),.fz (.int d),.fz (.lst (off[k].map λo=>frR (je s tp B o))),?_,by simp[l1],λi hi ei=>?_,λi d' ds hi ei es=>?_⟩⟩
   .obtain⟨o,ho,rfl⟩:=YV.mp hx;exact(lk _ mem o ho).2
   .rw[<- ma]
    rfl
   .by_cases c:i=k
    .rw[c,e]at ei;cases ei
    .rw[jS (some b) (XX (UZ hi) c)];exact h1 i (XX (UZ hi) c) ei
   .by_cases c:i=k
    .subst c;rw[e]at ei;rw[ek]at es;cases ei;cases es;exact⟨b,rgt (some b),hb⟩
    .rw[jS (some b) (XX (UZ hi) c)];exact h2 i d' ds (XX (UZ hi) c) ei es
 .rintro _ ⟨a8,x,y,z,rfl,l1,h1,h2⟩;exact ok a8 ⟨l1,λk e=>h1 k (ao.mp e).1 e,λk d ds e=>h2 k d ds (ao.mp e).1 e⟩
open Rw (sg fX fG bW gD gW)
noncomputable def dw(ws:List (Nat×Rat))(x:Nat->Rat):Rat:=(ws.map λw=>w.2*x w.1).sum
noncomputable def yD(ws:List (Nat×Rat)):Rat:=(ws.map (·.2)).sum
theorem cT(w:Nat×Rat)(ws:List (Nat×Rat))(x:Nat->Rat):dw (w::ws) x=w.2*x w.1+dw ws x:=rfl
theorem tH(w:Nat×Rat)(ws:List (Nat×Rat)):yD (w::ws)=w.2+yD ws:=rfl
theorem RQ{M:Rat}{x:Nat->Rat} : ∀{ws:List (Nat×Rat)},(∀w∈ws,0<=w.2/\x w.1<=M)->dw ws x<=yD ws*M
 |[],_=>by show(0:Rat)<=0*M;rw[Rat.zero_mul];exact VW
 |w::ws,h=>by
  rw[cT,tH];have:=RQ (ws:=ws) λv hv=>h v (aJ _ hv);obtain⟨a,b⟩:=h w (aO ..);have:=UR b a
  grind
theorem adM{m:Nat}{x:Nat->Rat} : ∀{ws:List (Nat×Rat)},(∀w∈ws,w.1<m)->sg (λj=>rM ws j*x j) m=dw ws x
 |[],_=>by
  show sg (λj=>0*x j) m=0;rw[bW (g:=λ_=>0) λj _=>Rat.zero_mul _,gD]
 |w::ws,h=>by
  rw[cT,<- adM (m:=m) (ws:=ws) λv hv=>h v (aJ _ hv)];rw[bW (g:=λj=>(if j=w.1 then 1 else 0)*(w.2*x j)+rM ws j*x j) λj _=>?_,fX,gW (v:=λj=>w.2*x j),ZY (h w (aO ..))];show((if w.1=j then w.2 else 0)+rM ws j)*x j=_;by_cases e:w.1=j
  .rw[ZY e,ZY e.symm];grind
  .rw[ZZ e,ZZ (Ne.symm e)];grind
theorem Ux(x:Nat->Rat):∀{m:Nat},0<m->∃i,i<m/\∀j,j<m->x j<=x i
 |0,h=>absurd h (WV _)
 |1,_=>⟨0,UY,λj hj=>by rw[show j=0 by exact Nat.eq_zero_of_le_zero (UZ hj)];exact VW⟩
 |m+2,_=>by
  obtain⟨i,hi,h⟩:=Ux x (m:=m+1) (T1 _);by_cases c:x i<=x (m+1)
  .refine⟨m+1,by exact X1 _,λj hj=>?_⟩;by_cases e:j=m+1
   .rw[e];exact VW
   .exact US (h j (XX (UZ hj) e)) c
  .refine⟨i,by exact Tk hi (X1 _),λj hj=>?_⟩;by_cases e:j=m+1
   .rw[e];exact TZ (Rat.not_le.mp c)
   .exact h j (XX (UZ hj) e)
structure ShB(s:Rat)(m:Nat)(ws:List (Nat×Rat)):Prop where
 lt:∀w∈ws,w.1<m
 nn:∀w∈ws,0<=w.2
 one:yD ws<=1
theorem sub_le{m:Nat}{s:Rat}{ws:Nat->List (Nat×Rat)}{x:Nat->Rat}(s0:0<=s)(s1:s<1)(hw:∀i,i<m->ShB s m (ws i))(h:∀i,i<m->x i<=s*dw (ws i) x):∀j,j<m->x j<=0:=λj hj=>by
 obtain⟨i,hi,mx⟩:=Ux x (m:=m) (by lia);refine US (mx j hj) (Rat.not_lt.mp λp=>?_);have b:=hw i hi;have d:dw (ws i) x<=yD (ws i)*x i:=RQ λw hw=>⟨b.nn w hw,mx _ (b.lt w hw)⟩;have e:yD (ws i)*x i<=1*x i:=Qr b.one (TZ p);have f:=UR (US d e) s0;have g:=h i hi;have k:s*x i<1*x i:=Rat.mul_lt_mul_of_pos_right s1 p
 grind
theorem U3{s:Rat}{cs:List (Option bN)}{x:Nat->Rat}{i:Nat}(hi:i<cs.length)(h:∀w∈gB (cs.getD i none),w.1<cs.length):sg (λj=>eF s cs i j*x j) cs.length=x i-s*dw (gB (cs.getD i none)) x:=by
 rw[<- adM h,bW (g:=λj=>(if j=i then 1 else 0)*x j+(-s)*(rM (gB (cs.getD i none)) j*x j)) λj _=>by unfold eF;grind,fX,fG,gW (v:=x),ZY hi]
 grind
theorem KQ{s:Rat}{cs:List (Option bN)}{y:Nat->Rat}(h:∀i,i<cs.length->ShB s cs.length (gB (cs.getD i none))):Bh s cs y↔∀i,i<cs.length->y i=jX (cs.getD i none)+s*dw (gB (cs.getD i none)) y:=by
 constructor
 .intro w i hi;have:=w i hi;rw[U3 hi (h i hi).lt]at this
  grind
 .intro w i hi;rw[U3 hi (h i hi).lt];have:=w i hi
  grind
theorem Mv(x:Nat->Rat):∀ws:List (Nat×Rat),dw ws (λj=>-(x j))=-(dw ws x)
 |[]=>by show(0:Rat)=-0;grind
 |w::ws=>by rw[cT,cT,Mv x ws];grind
theorem aeQ{s:Rat}{cs:List (Option bN)}(s0:0<=s)(s1:s<1)(h:∀i,i<cs.length->ShB s cs.length (gB (cs.getD i none)))(x:Nat->Rat)(hx:∀i,i<cs.length->sg (λj=>eF s cs i j*x j) cs.length=0):∀j,j<cs.length->x j=0:=λj hj=>by
 have e:∀i,i<cs.length->x i=s*dw (gB (cs.getD i none)) x:=λi hi=>by
  have:=hx i hi;rw[U3 hi (h i hi).lt]at this
  grind
 have a:=sub_le s0 s1 h (x:=x) (λi hi=>by rw[<- e i hi];exact VW) j hj;have b:=sub_le s0 s1 h (x:=λj=>-(x j)) (λi hi=>by
  show -(x i)<=_;rw[Mv,e i hi]
  grind) j hj
 grind
open Rw (sg fX fG bW gD gW Big)
theorem uJ(s:Rat)(cs:List (Option bN)):(BJ (yW s cs) (cs.map jX)).length=cs.length:=by rw[JS,Nt,ak,UV]
theorem acH{s:Rat}{cs:List (Option bN)}(s0:0<=s)(s1:s<1)(h:∀i,i<cs.length->ShB s cs.length (gB (cs.getD i none)))(x:Nat->Rat)(h0:∀j,cs.length<=j->x j=0)(hx:∀r∈BJ (yW s cs) (cs.map jX),sg (λj=>r.getD j 0*x j) (cs.length+1)=0):∀j,j<cs.length->x j=0:=by
 refine aeQ s0 s1 h x λi hi=>?_;have:=hx _ (aC (TY hi));have l:((List.range cs.length).map λj=>eF s cs i j).length=cs.length:=by rw[ak,WJ]
 rw[<- this];show _=sg (λj=>(((List.range cs.length).map λj=>eF s cs i j)++[jX (cs.getD i none)]).getD j 0*x j) cs.length+_*x cs.length;rw[h0 _ (aG _),Rat.mul_zero,Rat.add_zero];refine bW λj hj=>?_;rw[au,aF (by rw[l];exact hj),aq,Up hj]
 rfl
theorem ab5{A Q:Nat}{r:List Rat}(hA:1<=A)(hQ:0<Q)(h:∀c∈r,c.den ∣ Q/\c.num.natAbs<=A*c.den):Big (A*Q) (iV r):=by
 have hB:=eY r UY;have hd:cD 1 r ∣ Q:=pU r (QY _) λc hc=>(h c hc).1;have le:=UX hQ hd;refine⟨by show(0:Int)<(cD 1 r:Nat);lia,?_,λt ht=>?_⟩
 .show((cD 1 r:Nat):Int).natAbs<=A*Q;rw[XG];exact aL le (Zxw _ hA)
 .obtain⟨c,hc,rfl⟩:=YV.mp ht;rw[VY,XG];refine aL (QU _ (h c hc).2) ?_;rw[Nat.mul_assoc,Nat.mul_div_cancel' ((jy r).2 c hc)];exact U2 _ le
theorem GJ{s:Rat}{cs:List (Option bN)}{r:List Rat}(hr:r∈BJ (yW s cs) (cs.map jX)):∃i,i<cs.length/\r=((List.range cs.length).map λj=>eF s cs i j)++[jX (cs.getD i none)]:=by
 obtain⟨i,e⟩:=aV hr;have hi:i<cs.length:=by have:=(ao.mp e).1;rw[uJ]at this;exact this
 rw[TY hi]at e;injection e with e;exact⟨i,hi,e.symm⟩
theorem W8(ys:List Rat)(k:Nat):(((tops (cD 1 ys) ys).getD k 0:Int):Rat)=ys.getD k 0*((cD 1 ys:Nat):Rat):=by
 have h:=G7 ys k;unfold Rw.vr at h;have hB:=eY ys UY;have n:((((cD 1 ys:Nat):Int)):Rat)≠0:=λz=>by have:=Rat.intCast_eq_zero_iff.mp z;lia
 have e:((((cD 1 ys:Nat):Int)):Rat)=((cD 1 ys:Nat):Rat):=rfl;rw[<- e,<- h];show _=(((tops (cD 1 ys) ys).getD k 0:Int):Rat)/_*_
 grind
theorem Vx(ys:List Rat):∀ws:List (Nat×Rat),Fq ws (tops (cD 1 ys) ys)=dw ws (λk=>ys.getD k 0)*((cD 1 ys:Nat):Rat)
 |[]=>by show(0:Rat)=0*_;rw[Rat.zero_mul]
 |w::ws=>by
  show w.2*(((tops (cD 1 ys) ys).getD w.1 0:Int):Rat)+Fq ws _=_;rw[Vx ys ws,cT,W8]
  grind
def WX(s:Rat)(y:Nat->Rat)(o:bN):Rat:=o.pay+s*dw o.ways y
theorem yw(s:Rat)(ys:List Rat)(o:bN):je s (tops (cD 1 ys) ys) (cD 1 ys) o=WX s (λk=>ys.getD k 0) o*((cD 1 ys:Nat):Rat):=by
 unfold je WX;rw[Vx]
 grind
theorem Qc{x z:Nat->Rat} : ∀{ws:List (Nat×Rat)},(∀w∈ws,x w.1=z w.1)->dw ws x=dw ws z
 |[],_=>rfl
 |w::ws,h=>by rw[cT,cT,h w (aO ..),Qc λv hv=>h v (aJ _ hv)]
theorem Nb{x z:Nat->Rat} : ∀{ws:List (Nat×Rat)},(∀w∈ws,0<=w.2/\x w.1<=z w.1)->dw ws x<=dw ws z
 |[],_=>VW
 |w::ws,h=>by
  rw[cT,cT];have:=Nb (ws:=ws) λv hv=>h v (aJ _ hv);obtain⟨a,b⟩:=h w (aO ..);have:=UR b a
  grind
theorem DX(x z:Nat->Rat):∀ws:List (Nat×Rat),dw ws (λj=>x j-z j)=dw ws x-dw ws z
 |[]=>by show(0:Rat)=0-0;grind
 |w::ws=>by rw[cT,cT,cT,DX x z ws];grind
def lV(s:Rat)(y:Nat->Rat)(c:Option bN):Rat:=jX c+s*dw (gB c) y
theorem Bo{m:Nat}{s:Rat}{c:Nat->Option bN}{y z:Nat->Rat}(s0:0<=s)(s1:s<1)(hw:∀i,i<m->ShB s m (gB (c i)))(hy:∀i,i<m->y i<=lV s y (c i))(hz:∀i,i<m->z i=lV s z (c i)):∀i,i<m->y i<=z i:=λi hi=>by
 have:=sub_le s0 s1 hw (x:=λj=>y j-z j) (λi hi=>by
  rw[DX];show y i-z i<=_;have a:=hy i hi;have b:=hz i hi;unfold lV at a b
  grind) i hi
 grind
theorem YG{m:Nat}{s:Rat}{c:Nat->Option bN}{y z:Nat->Rat}(s0:0<=s)(s1:s<1)(hw:∀i,i<m->ShB s m (gB (c i)))(hy:∀i,i<m->y i<=lV s y (c i))(hz:∀i,i<m->z i=lV s z (c i)){i:Nat}(hi:i<m)(lt:y i<lV s y (c i)):y i<z i:=by
 have le:=Bo s0 s1 hw hy hz;have m1:=Nb (ws:=gB (c i)) (x:=y) (z:=z) λw hm=>⟨(hw i hi).nn w hm,le _ ((hw i hi).lt w hm)⟩;have m2:=UR m1 s0;have e:=hz i hi;unfold lV at lt e
 grind
theorem nq{off:List (List bN)}{pl:List (Option Nat)}{i:Nat}{d:Option Nat}(e:pl[i]?=some d):(chO off pl).getD i none=d.bind λd=>(off.getD i [])[d]?:=by
 unfold chO;rw[au,aq,List.getElem?_zipIdx,e];simp
theorem abF{s:Rat}{ys:List Rat}{ds:List bN}{d b:Nat}(hd:d<ds.length)(h:Vj (ds.map (je s (tops (cD 1 ys) ys) (cD 1 ys))) d b):b=d\/∃o p,ds[d]?=some o/\ds[b]?=some p/\WX s (λk=>ys.getD k 0) o<WX s (λk=>ys.getD k 0) p:=by
 rcases h with⟨_,e⟩|⟨lt,lb,_⟩
 .exact .inl e
 .rw[ak]at lb;refine .inr ⟨_,_,aj hd,aj lb,?_⟩;rw[au,au,aq,aq,aj hd,aj lb]at lt;have lt:je s (tops (cD 1 ys) ys) (cD 1 ys) ds[d]<je s (tops (cD 1 ys) ys) (cD 1 ys) ds[b]:=lt;rw[yw,yw]at lt;have hB:=eY ys UY;have p:(0:Rat)<((cD 1 ys:Nat):Rat):=by
   have:((0:Int):Rat)<(((cD 1 ys:Nat):Int):Rat):=Rat.intCast_lt_intCast.mpr (by lia);exact this
  exact(Zxs p).mp lt
theorem DG{s:Rat}{off:List (List bN)}{tp:List Int}{B:Nat}{pl a8:List (Option Nat)}(hp:PlT off pl)(h:Nk s off tp B pl a8):PlT off a8:=by
 refine⟨by rw[h.len,hp.len],λk d ds e1 e2=>?_⟩;have lk:k<pl.length:=by rw[<- h.len];exact(ao.mp e1).1
 have ek:=aj lk;have ft:=hp.ok k _ ds ek e2;cases ed:pl[k]with
 |none =>
  rw[ed]at ek ft;rw[h.none k ek]at e1;cases e1;exact ft
 |some c =>
  rw[ed]at ek ft;obtain⟨b,e3,hb⟩:=h.some k c ds ek e2;rw[e3]at e1;cases e1;have lc:c<ds.length:=of_decide_eq_true ft;rcases hb with⟨_,rfl⟩|⟨_,lb,_⟩
  .exact ft
  .rw[ak]at lb;exact Zs lb
theorem rise{s:Rat}{off:List (List bN)}{pl a8:List (Option Nat)}{ys:List Rat}{z:Nat->Rat}(s0:0<=s)(s1:s<1)(hw:∀ds∈off,∀o∈ds,ShB s off.length o.ways)(hp:PlT off pl)(h:Nk s off (tops (cD 1 ys) ys) (cD 1 ys) pl a8)
 (hy:∀i,i<off.length->ys.getD i 0=lV s (λk=>ys.getD k 0) ((chO off pl).getD i none))(hz:∀i,i<off.length->z i=lV s z ((chO off a8).getD i none)):(∀i,i<off.length->ys.getD i 0<=z i)/\∀i,i<off.length->a8[i]?≠pl[i]?->ys.getD i 0<z i:=by
 have c9:=DG hp h;have sh:∀{ql:List (Option Nat)},PlT off ql->∀i,i<off.length->ShB s off.length (gB ((chO off ql).getD i none)):=λ{ql}hq i hi=>by
  have ei:=aj (show i<ql.length by rw[hq.len];exact hi);rw[nq ei];cases ql[i]'(by rw[hq.len];exact hi)with
  |none=>exact⟨λ_ z=>(nomatch z),λ_ z=>(nomatch z),by show(0:Rat)<=1;decide⟩
  |some d =>
   show ShB s off.length (gB ((off.getD i [])[d]?));rw[au,aj hi];show ShB s off.length (gB (off[i][d]?));cases ed:off[i][d]? with
   |none=>exact⟨λ_ z=>(nomatch z),λ_ z=>(nomatch z),by show(0:Rat)<=1;decide⟩
   |some o=>exact hw _ (aU hi) o (aC ed)
 have df:∀i,i<off.length->(a8[i]?=pl[i]?/\ys.getD i 0=lV s (λk=>ys.getD k 0) ((chO off a8).getD i none))\/ys.getD i 0<lV s (λk=>ys.getD k 0) ((chO off a8).getD i none):=λi hi=>by
  have lp:i<pl.length:=by rw[hp.len];exact hi
  have ei:=aj lp;have eo:=aj hi;have go:off.getD i []=off[i]:=by rw[au,eo];rfl
  have g9:=hy i hi;rw[nq ei]at g9;cases ed:pl[i]with
  |none =>
   rw[ed]at ei g9;have e':=h.none i ei;exact .inl ⟨by rw[e',ei],by rw[nq e'];exact g9⟩
  |some d =>
   rw[ed]at ei g9;obtain⟨b,e',hb⟩:=h.some i d _ ei eo;have ld:d<(off[i]).length:=of_decide_eq_true (hp.ok i (some d) _ ei eo);rcases abF ld hb with rfl|⟨o,p,e1,e2,lt⟩
   .exact .inl ⟨by rw[e',ei],by rw[nq e'];exact g9⟩
   .refine .inr ?_;rw[nq e',g9];show lV s _ ((off.getD i [])[d]?)<lV s _ ((off.getD i [])[b]?);rw[go,e1,e2];exact lt
 have le1:∀i,i<off.length->ys.getD i 0<=lV s (λk=>ys.getD k 0) ((chO off a8).getD i none):=λi hi=>(df i hi).elim (λz=>by rw[<- z.2];exact VW) TZ;exact⟨Bo (y:=λk=>ys.getD k 0) s0 s1 (sh c9) le1 hz,λi hi ne=>YG (y:=λk=>ys.getD k 0) s0 s1 (sh c9) le1 hz hi ((df i hi).resolve_left λz=>ne z.1)⟩
theorem Eo{α:Type}{g:α->PyData}(h:∀x,PyData.canLay0 (g x)=true):∀xs:List α,PyData.canLayAll0 (xs.map g)=true
 |[]=>rfl
 |x::xs=>by rw[List.map_cons];unfold PyData.canLayAll0;rw[Eo h xs,h x];rfl
theorem Jd{α:Type}{g:α->PyData}{n:Nat}(h:∀x,PyData.depth (g x)<=n):∀xs:List α,PyData.depthAll (xs.map g)<=n
 |[]=>aZ _
 |x::xs=>by
  rw[List.map_cons];unfold PyData.depthAll;have:=Jd h xs;have:=h x;lia
theorem IW{α:Type}{g:α->PyData}{h:α->T}(e:∀x,h x=ofD (g x)):∀xs:List α,xs.map h=Yd (xs.map g)
 |[]=>rfl
 |x::xs=>by rw[List.map_cons,List.map_cons,IW e xs,e x];rfl
theorem Q_{α:Type}[DecidableEq α]{g:α->PyData}(h:∀x y,PyData.eqv (g x) (g y)=decide (x=y)):∀xs ys:List α,PyData.eqvAll (xs.map g) (ys.map g)=decide (xs=ys)
 |[],[]=>rfl
 |[],_::_=>rfl
 |_::_,[]=>rfl
 |x::xs,y::ys=>by
  rw[List.map_cons,List.map_cons];unfold PyData.eqvAll;rw[h,Q_ h xs ys,<- Bool.decide_and];exact decide_eq_decide.mpr ⟨λz=>by rw[z.1,z.2],λz=>List.cons.inj z⟩
structure EqD{α:Type}[DecidableEq α](h:α->T)(g:α->PyData):Prop where
 of:∀x,h x=ofD (g x)
 lay:∀x,PyData.canLay0 (g x)=true
 dep:∀x,PyData.depth (g x)<=60
 eqv:∀x y,PyData.eqv (g x) (g y)=decide (x=y)
theorem EqD.lst{α:Type}[DecidableEq α]{h:α->T}{g:α->PyData}(E:EqD h g)(xs:List α):SeqAt.shaped (.list (xs.map g))=true:=by
 have h1:PyData.canLay0 (.list (xs.map g))=true:=by unfold PyData.canLay0;exact Eo E.lay xs
 have h2:PyData.depth (.list (xs.map g))<=64:=by unfold PyData.depth;have:=Jd E.dep xs;lia
 unfold SeqAt.shaped;rw[h1,Zs h2];rfl
theorem EqD.gEq{α:Type}[DecidableEq α]{h:α->T}{g:α->PyData}(E:EqD h g){neg:Bool}{a c:List α}{q:OT->Prop}(hq:q (.fz (.bl (xr neg (decide (a=c)))))):gEq neg (.lst (a.map h)) (.lst (c.map h)) q:=by
 refine⟨.list (a.map g),.list (c.map g),ZH L2.T.lst (IW E.of a),ZH L2.T.lst (IW E.of c),E.lst a,E.lst c,?_⟩;unfold PyData.eqv;rw[Q_ E.eqv];exact hq
noncomputable def dD:Option Nat->PyData
 |none=>.none
 |some d=>.int (d:Nat)
theorem YT:EqD dT dD:=⟨λx=>by cases x<;>rfl,λx=>by cases x<;>rfl,λx=>by cases x<;>exact aZ _,λx y=>by
 cases x<;>cases y
 .rfl
 .rfl
 .rfl
 .rename_i a b
  show decide ((a:Int)=(b:Int))=_;exact decide_eq_decide.mpr ⟨λz=>by rw[Int.ofNat.inj z],λz=>by rw[Option.some.inj z]⟩⟩
noncomputable def sU:List (List bN)->List (List (Option Nat))
 |[]=>[[]]
 |ds::off=>((if ds=[]then[none]else(List.range ds.length).map some).map λd=>(sU off).map λpl=>d::pl).flatten
theorem Wn:∀{off:List (List bN)}{pl:List (Option Nat)},PlT off pl->pl∈sU off
 |[],pl,h=>by
  have:=h.len;rw[List.length_eq_zero_iff.mp this];exact YR.mpr rfl
 |ds::off,[],h=>by have:=h.len;cases this
 |ds::off,d::pl,h=>by
  have ih:=Wn (off:=off) (pl:=pl) ⟨Nat.succ.inj h.len,λk d ds e1 e2=>h.ok (k+1) d ds e1 e2⟩;have ft:=h.ok 0 d ds rfl rfl;refine List.mem_flatten.mpr ⟨_,YV.mpr ⟨d,?_,rfl⟩,YV.mpr ⟨pl,ih,rfl⟩⟩;cases d with
  |none =>
   have:ds.length=0:=of_decide_eq_true ft;rw[ZY (List.length_eq_zero_iff.mp this)];exact YR.mpr rfl
  |some d =>
   have:d<ds.length:=of_decide_eq_true ft;rw[ZZ λz=>by rw[z]at this;cases this];exact YV.mpr ⟨d,List.mem_range.mpr this,rfl⟩
theorem yc{α:Type} : ∀{l l':List α},l.Nodup->(∀a∈l,a∈l')->l.length<=l'.length
 |[],_,_,_=>aZ _
 |a::l,l',nd,h=>by
  obtain⟨s,t,rfl⟩:=List.append_of_mem (h a (aO ..));have jI:=List.nodup_cons.mp nd;have:=yc (l:=l) (l':=s++t) jI.2 λb hb=>by
   have m:=h b (aJ _ hb);rcases Y1.mp m with z|z
   .exact UH _ z
   .rcases YU.mp z with y|y
    .exact absurd (y ▸ hb) jI.1
    .exact aP _ y
  rw[List.length_cons,aA,List.length_cons];rw[aA]at this;lia
def j6(s:Rat)(off:List (List bN))(pl:List (Option Nat))(ys:List Rat):Prop:=ys.length=off.length/\∀i,i<off.length->ys.getD i 0=lV s (λk=>ys.getD k 0) ((chO off pl).getD i none)
abbrev Mnd(s:Rat)(off:List (List bN))(ys:List Rat)(pl a8:List (Option Nat)):Prop:=Nk s off (tops (cD 1 ys) ys) (cD 1 ys) pl a8
structure MnB(s:Rat)(off:List (List bN))(N:Nat):Prop where
 s0:0<=s
 s1:s<1
 few:off.length<=100
 sh:∀ds∈off,∀o∈ds,ShB s off.length o.ways
 wo:∀pl,PlT off pl->WoB s (chO off pl) N
 me:∀ys:List Rat,ys.length=off.length->(∀r∈ys,FnB ((2*off.length*N)^off.length) r)->MeB s off ys
 pls:(sU off).length<sizeLine
theorem qG{s:Rat}{off:List (List bN)}(hw:∀ds∈off,∀o∈ds,ShB s off.length o.ways){ql:List (Option Nat)}(hq:PlT off ql)(i:Nat)(hi:i<off.length):ShB s off.length (gB ((chO off ql).getD i none)):=by
 have ei:=aj (show i<ql.length by rw[hq.len];exact hi);rw[nq ei];cases ql[i]'(by rw[hq.len];exact hi)with
 |none=>exact⟨λ_ z=>(nomatch z),λ_ z=>(nomatch z),by show(0:Rat)<=1;decide⟩
 |some d =>
  show ShB s off.length (gB ((off.getD i [])[d]?));rw[au,aj hi];show ShB s off.length (gB (off[i][d]?));cases ed:off[i][d]? with
  |none=>exact⟨λ_ z=>(nomatch z),λ_ z=>(nomatch z),by show(0:Rat)<=1;decide⟩
  |some o=>exact hw _ (aU hi) o (aC ed)
theorem Py{s:Rat}{off:List (List bN)}{pl:List (Option Nat)}{ys zs:List Rat}(s0:0<=s)(s1:s<1)(hw:∀ds∈off,∀o∈ds,ShB s off.length o.ways)(hp:PlT off pl)(hy:j6 s off pl ys)(hz:j6 s off pl zs)(i:Nat)(hi:i<off.length):ys.getD i 0=zs.getD i 0 :=
 Rat.le_antisymm (Bo (y:=λk=>ys.getD k 0) (z:=λk=>zs.getD k 0) s0 s1 (qG hw hp) (λi hi=>by rw[<- hy.2 i hi];exact VW) hz.2 i hi) (Bo (y:=λk=>zs.getD k 0) (z:=λk=>ys.getD k 0) s0 s1 (qG hw hp) (λi hi=>by rw[<- hz.2 i hi];exact VW) hy.2 i hi)
noncomputable abbrev PWs:=List (Option Nat)×List Rat
abbrev pwT(p:PWs):T:=.tup [.lst (p.1.map dT),.lst (p.2.map frR)]
structure Told(s:Rat)(off:List (List bN))(M:Nat)(pl:List (Option Nat))(ps:List PWs):Prop where
 hd:∀p,ps[0]?=some p->p.1=pl
 ok:∀p∈ps,PlT off p.1/\j6 s off p.1 p.2/\∀r∈p.2,FnB M r
 up:∀(k:Nat)p q,ps[k]?=some p->ps[k+1]?=some q->Mnd s off p.2 p.1 q.1/\q.1≠p.1
def More(m:Nat)(ys zs:List Rat):Prop:=(∀i,i<m->ys.getD i 0<=zs.getD i 0)/\∃i,i<m/\ys.getD i 0<zs.getD i 0
theorem More.trans{m:Nat}{xs ys zs:List Rat}(h:More m xs ys)(k:More m ys zs):More m xs zs :=
 ⟨λi hi=>US (h.1 i hi) (k.1 i hi),let⟨i,hi,l⟩:=h.2;⟨i,hi,by have:=k.1 i hi;grind⟩⟩
theorem akO{off:List (List bN)}{pl a8:List (Option Nat)}(hp:PlT off pl)(c9:PlT off a8)(n:a8≠pl):∃i,i<off.length/\a8[i]?≠pl[i]?:=by
 refine Classical.byContradiction λc=>n (Zzs λi=>?_);by_cases hi:i<off.length
 .exact Decidable.byContradiction λz=>c ⟨i,hi,z⟩
 .rw[aM (by rw[c9.len];exact VU hi),aM (by rw[hp.len];exact VU hi)]
theorem Told.step{s:Rat}{off:List (List bN)}{M N:Nat}{pl:List (Option Nat)}{ps:List PWs}(h:Told s off M pl ps)(B:MnB s off N){k:Nat}{p q:PWs}(e1:ps[k]?=some p)(e2:ps[k+1]?=some q):More off.length p.2 q.2:=by
 obtain⟨u,n⟩:=h.up k p q e1 e2;obtain⟨a1,a2,_⟩:=h.ok p (aC e1);obtain⟨b1,b2,_⟩:=h.ok q (aC e2);obtain⟨c1,c2⟩:=rise (z:=λk=>q.2.getD k 0) B.s0 B.s1 B.sh a1 u a2.2 b2.2;obtain⟨i,hi,ne⟩:=akO a1 b1 n;exact⟨c1,i,hi,c2 i hi ne⟩
theorem Told.more{s:Rat}{off:List (List bN)}{M N:Nat}{pl:List (Option Nat)}{ps:List PWs}(h:Told s off M pl ps)(B:MnB s off N){j:Nat}{p:PWs}(e1:ps[j]?=some p):∀(k:Nat){q:PWs},j<k->ps[k]?=some q->More off.length p.2 q.2
 |0,_,l,_=>absurd l (WV _)
 |k+1,q,l,e2=>by
  have lk:k<ps.length:=by have:=(ao.mp e2).1;exact Tk (X1 _) this
  have ek:=aj lk;have st:=h.step B ek e2;by_cases c:j=k
  .subst c;rw[e1]at ek;cases ek;exact st
  .exact(h.more B e1 k (XX (UZ l) c) ek).trans st
theorem Told.ne{s:Rat}{off:List (List bN)}{M N:Nat}{pl:List (Option Nat)}{ps:List PWs}(h:Told s off M pl ps)(B:MnB s off N){j k:Nat}{p q:PWs}(l:j<k)(e1:ps[j]?=some p)(e2:ps[k]?=some q):p.1≠q.1:=λz=>by
 obtain⟨_,i,hi,lt⟩:=h.more B e1 k l e2;obtain⟨a1,a2,_⟩:=h.ok p (aC e1);obtain⟨b1,b2,_⟩:=h.ok q (aC e2);rw[<- z]at b2;rw[Py B.s0 B.s1 B.sh a1 a2 b2 i hi]at lt;exact absurd lt (by grind)
theorem Told.nodup{s:Rat}{off:List (List bN)}{M N:Nat}{pl:List (Option Nat)}{ps:List PWs}(h:Told s off M pl ps)(B:MnB s off N):(ps.map (·.1)).Nodup:=by
 refine List.pairwise_iff_getElem.mpr λi j hi hj l=>?_;rw[ak]at hi hj;rw[UU,UU];exact h.ne B l (aj hi) (aj hj)
theorem Told.len{s:Rat}{off:List (List bN)}{M N:Nat}{pl:List (Option Nat)}{ps:List PWs}(h:Told s off M pl ps)(B:MnB s off N):ps.length<=(sU off).length:=by
 have:=yc (h.nodup B) (l':=sU off) λa ha=>by
  obtain⟨p,hp,rfl⟩:=YV.mp ha;exact Wn (h.ok p hp).1
 rwa[ak]at this
theorem Told.snoc{s:Rat}{off:List (List bN)}{M:Nat}{pl:List (Option Nat)}{ps:List PWs}{x:PWs}(h:Told s off M pl ps)(h0:ps=[]->x.1=pl)(hx:PlT off x.1/\j6 s off x.1 x.2/\∀r∈x.2,FnB M r)(hl:∀p,ps.getLast?=some p->Mnd s off p.2 p.1 x.1/\x.1≠p.1):Told s off M pl (ps++[x]):=by
 refine⟨λp e=>?_,λp hp=>?_,λk p q e1 e2=>?_⟩
 .cases ps with
  |nil=>cases e;exact h0 rfl
  |cons y ps=>exact h.hd p e
 .rcases Y1.mp hp with z|z
  .exact h.ok p z
  .cases YR.mp z;exact hx
 .have lk:k+1<(ps++[x]).length:=(ao.mp e2).1;rw[aA,List.length_singleton]at lk;rw[aF (Nat.lt_of_succ_lt_succ lk)]at e1;by_cases c:k+1<ps.length
  .rw[aF c]at e2;exact h.up k p q e1 e2
  .rw[aD (VU c),show k+1-ps.length=0 by omega]at e2;cases e2;exact hl p (by rw[List.getLast?_eq_getElem?,show ps.length-1=k by omega];exact e1)
theorem alV{t:T}{ts:List T}{q:OT->Prop}(h:q (.fz t)):gIx (.tup (t::ts)) (.int 0) q:=h
theorem afS{c d:RT}{o:List OT}{q:Bool->Prop}(b:Bool)(h:∀q:Bool->Prop,q b->rOr c d o q)(hq:q b):rOr c d o q:=h q hq
theorem Gm{α:Type}{h:α->T}{ps:List α}{p:α}(e:ps.getLast?=some p):ixT (ps.map h) (-1)=some (h p):=by
 show nth (ps.map h).reverse 0=_;rw[rR,<- List.map_reverse,aq,<- List.head?_eq_getElem?,List.head?_reverse,e]
 rfl
structure En(s:Rat)(off:List (List bN))(M:Nat)(pl:List (Option Nat))(ps:List PWs):Prop where
 told:Told s off M pl ps
 ne:ps≠[]
 last:∀p,ps.getLast?=some p->Mnd s off p.2 p.1 p.1
def Ej(D:Adr):ST:=λts R=>∃(s:Rat)(ns:Φ)(off:List (List bN))(pl:List (Option Nat))(N:Nat),ts=[hlT D s ns off,.lst (pl.map dT)]/\PJ ns off/\PlT off pl/\MnB s off N/\∀ps:List PWs,En s off ((2*off.length*N)^off.length) pl ps->R (.l1 (ps.map pwT))
theorem Qx(F:Fun K qF qF zj f fd)(T:Txt K mg D)(d7:OkT P w K mg base 4 gM gP (mW D))(vd:OkT P w K mg base 9 oO n8 (Bg D))(HF:OkT P w K mg base 5 xT yt (Kg D)):cj P w K mg base CX0 10 f fd qY (spT K (Ej D)):=by
 refine F.okT qz (λts R hP=>by obtain⟨_,_,_,_,_,e,_⟩:=hP;exact e ▸ rfl) λag A outer s H E hr=>?_;refine⟨_,(bC (jJ (bI d7 hr.md (by rfl) (bx (qv 0) (bx (qv 1) bF))))
  (bC (g_ 2 qz.nd (Or.inl rfl) (d_ bF))
  (bC (bM 3 qz.nd (Or.inl rfl) (yr O6 (by rfl) T.Mp boot_list (bx (qv 1) bF)))
  (bC (Cj VZ (QW.qt (nR (bY (go_eq hr.units) (Lp 2 (bV dh (by rfl) T.dY W1 (bx (qv 2) bF))) bA) (kI (bY (sS hr.units) (qv 3) (bJ (uM 2 (zG bA)) bA)))))
  (bC (nG 2 (cW (bx (qv 3) (bx (bI vd hr.md (by rfl) (bx (qv 0) (bx (qv 3) bF))) bF))))
  (bG (bM 3 qz.nd (Or.inl rfl) (bI HF hr.md (by rfl) (bx (qv 0) (bx (qv 3) (bx (bJ (uM 2 (zG bA)) bA) bF))))))))
  (bG (jE 2)))))),?_⟩
 rintro _ R ⟨s,ns,off,pl,N,rfl,h,hp,B,ok⟩;generalize eM:(2*off.length*N)^off.length=M at ok;refine⟨_,_,_,_,rfl,h,hp,?_⟩;refine⟨λm o=>∃(ps:List PWs)(cl:List (Option Nat)),o=[.fz (hlT D s ns off),.fz (.lst (pl.map dT)),.l1 (ps.map pwT),.fz (.lst (cl.map dT))]/\Told s off M pl ps/\PlT off cl/\(ps=[]->cl=pl)/\(∀p,ps.getLast?=some p->Mnd s off p.2 p.1 cl)/\m+ps.length=(sU off).length,⟨(sU off).length,[],pl,rfl,⟨λ_ z=>(nomatch z),λ_ z=>(nomatch z),λ_ _ _ z=>(nomatch z)⟩,hp,λ_=>rfl,λ_ z=>(nomatch z),rfl⟩,?_⟩;rintro m _ ⟨ps,cl,rfl,t,hc,c0,cu,em⟩;refine afS (decide (ps.getLast?.map (·.1)≠some cl)) (λq hq=>?_) (swD (λhn=>?_) λhn=>?_)
 .cases e:ps.getLast? with
  |none =>
   have e0:=List.getLast?_eq_none_iff.mp e;subst e0;exact⟨trivial,hq⟩
  |some p =>
   have n0:ps.length≠0:=λz=>by rw[List.length_eq_zero_iff.mp z]at e;cases e
   rw[e]at hq;refine⟨trivial,swF (Zp (by rw[ak];lia)) ⟨_,Gm e,?_⟩⟩;dsimp only[rC,frz];refine alV (t:=.lst (p.1.map dT)) ?_;refine YT.gEq ?_;have e2:xr true (decide (cl=p.1))=decide ((some p).map (·.1)≠some cl):=by
    by_cases c:cl=p.1
    .rw[Zs c,c];simp
     rfl
    .rw[Zp c];have:¬(p.1=cl):=λz=>c z.symm;simp[this]
     rfl
   rw[e2];exact hq
 .refine⟨λo'=>∃(ys:List Rat)(fF:List (Option Nat)),o'=[.fz (hlT D s ns off),.fz (.lst (pl.map dT)),.l1 ((ps++[(cl,ys)]).map pwT),.fz (.lst (fF.map dT))]/\j6 s off cl ys/\(∀r∈ys,FnB M r)/\Mnd s off ys cl fF,?_,?_⟩
  .rintro _ ⟨ys,fF,rfl,h1,h2,h3⟩;have t':Told s off M pl (ps++[(cl,ys)]):=t.snoc c0 ⟨hc,h1,h2⟩ λp e=>⟨cu p e,λz=>hn (by rw[e];exact ZH some z.symm)⟩;have l:=t'.len B;rw[aA,List.length_singleton]at l;refine⟨(sU off).length-(ps.length+1),by omega,ps++[(cl,ys)],fF,rfl,t',DG hc h3,λz=>absurd z (by simp),λp e=>?_,by rw[aA,List.length_singleton];exact Nat.sub_add_cancel l⟩;rw[List.getLast?_concat]at e;cases e;exact h3
  .have sl:(ps.map pwT).length<sizeLine:=by
    rw[ak];have:=t.len B;have:=B.pls;lia
   refine⟨s,ns,off,cl,N,rfl,h,hc,B.few,B.wo cl hc,λy hw hb=>⟨sl,?_⟩⟩;have ym:((List.range off.length).map y).map frR=(List.range off.length).map λi=>frR (y i):=by rw[WP];rfl
   have yl:((List.range off.length).map y).length=off.length:=by rw[ak,WJ]
   have yg:∀k,k<off.length->((List.range off.length).map y).getD k 0=y k:=λk hk=>by rw[au,aq,Up hk];rfl
   have fb:∀r∈(List.range off.length).map y,FnB ((2*off.length*N)^off.length) r:=λr hr=>by
    obtain⟨i,hi,rfl⟩:=YV.mp hr;exact hb i (List.mem_range.mp hi)
   have wy:j6 s off cl ((List.range off.length).map y):=⟨yl,λi hi=>by
    have sp:=qG B.sh hc;have fF:=I8 hc;rw[yg i hi,(KQ (by rw[fF];exact sp)).mp hw i (by rw[fF];exact hi)];unfold lV;rw[Qc (x:=λk=>((List.range off.length).map y).getD k 0) (z:=y) λw hm=>yg w.1 ((sp i hi).lt w hm)]⟩
   rw[<- ym];have el:(ps++[(cl,(List.range off.length).map y)]).getLast?=some (cl,(List.range off.length).map y):=by simp
   have il:=Gm (h:=pwT) el;rw[bf]at il;refine⟨_,il,s,ns,off,cl,(List.range off.length).map y,rfl,h,hc,B.me _ yl fb,λfF hm=>⟨_,fF,?_,wy,eM ▸ fb,hm⟩⟩;rw[bf]
   rfl
 .have hn:ps.getLast?.map (·.1)=some cl:=Decidable.not_not.mp hn;refine ok ps ⟨t,(λz=>by rw[z]at hn;cases hn),λp e=>?_⟩;rw[e]at hn;cases hn;exact cu p e
theorem eV{i:Int}(h:i.natAbs<18446744073709551616):Bd i:=aR h (aL (by decide:18446744073709551616<=2^64) (XT (by decide) (by decide)))
noncomputable abbrev scT(ns:List Int):T:=.scr (ns.map T.int)
def CV:ST:=λts q=>∃(ns:List Int)(k:Nat),ts=[scT ns,.int (k:Nat)]/\ns.length<=100/\q (.fz (.int (ns.getD k 0)))
theorem Cm{α β:Type}(h:α->β)(l:List α)(lo hi:Option Int):gG (l.map h) lo hi=(gG l lo hi).map h:=by unfold gG;rw[ak,List.map_take,List.map_drop]
theorem ac9{α:Type}(l:List α)(k:Nat):gG l (some (k:Int)) (some ((k:Int)+1))=(l.drop k).take 1:=by
 unfold gG HT.sIx;show List.take ((if(k:Int)+1<0 then _ else min ((k:Int)+1).toNat l.length)-(if(k:Int)<0 then _ else min (k:Int).toNat l.length)) (List.drop (if(k:Int)<0 then _ else min (k:Int).toNat l.length) l)=_;rw[ZZ (by lia),ZZ (Int.not_lt_of_ge (Wp _))];by_cases h:k<l.length
 .rw[show min ((k:Int)+1).toNat l.length=k+1 by lia,show min (k:Int).toNat l.length=k by lia,show k+1-k=1 by exact JU _ _]
 .rw[show min (k:Int).toNat l.length=l.length by lia,List.drop_length,TR (VU h),List.take_nil,List.take_nil]
theorem ado(F:Fun K uy uy Tt f fd):cj P w K mg base CX0 1 f fd uI (spT K CV):=by
 refine F.okT ab6 (λts R hP=>by obtain⟨_,_,e,_⟩:=hP;exact e ▸ rfl) λag A outer s H E hr=>?_;refine⟨_,(bG (bQ (bJ (bK cN (j9 (qv 0) (g8 (qv 1)) (g8 (bK cN (qv 1) bA))) (d_ (bx bA bF))) bA))),?_⟩;rintro _ R ⟨ns,k,rfl,hl,q⟩;have e:gG (ns.map L2.T.int) (some (k:Int)) (some ((k:Int)+1))=((ns.drop k).take 1).map L2.T.int:=by rw[Cm,ac9]
 refine⟨?_,.int (ns.getD k 0),?_,q⟩
 .show(gG (ns.map L2.T.int) (some (k:Int)) (some ((k:Int)+1))).length+1<=sizeLine;rw[e,ak,aY];exact aL (show _<=2 by lia) (by decide)
 .show ixT (gG (ns.map L2.T.int) (some (k:Int)) (some ((k:Int)+1))++[L2.T.int 0]) 0=_;rw[e];by_cases h:k<ns.length
  .rw[Zzv h,List.take_succ_cons,au,aj h]
   rfl
  .rw[TR (VU h),au,aM (VU h)]
   rfl
noncomputable def strN(c:Int):Nat->Int×Int
 |0=>((c%1999999973+31)*765432101%1999999973,if c<0\/10^18<=c then(c.natAbs:Int)else 0)
 |k+1=>(((strN c k).1*((strN c k).1%65521+40487)+7*(k:Int)+5)%1999999973,(strN c k).2.fdiv 1000000)
def strm(c:Int)(k:Nat):Int:=if 0<(strN c k).2 then(strN c k).2%1000000 else(strN c (k+1)).1
theorem Vs(c:Int):∀k,0<=(strN c k).1/\(strN c k).1<1999999973
 |0=>⟨Z3 _ (by decide),YY _ (by decide)⟩
 |_+1=>⟨Z3 _ (by decide),YY _ (by decide)⟩
theorem iI(c:Int)(k:Nat):0<=strm c k/\strm c k<2000000000:=by
 unfold strm;have:=Vs c (k+1);split<;>lia
abbrev jO(c:Int)(n:Nat):List Int:=(List.range n).map (strm c)
def gQ:ST:=λts q=>∃(c:Int)(n:Nat),ts=[.int c,.int (n:Nat)]/\n<=1000/\q (.l1 ((jO c n).map T.int))
theorem Xf(F:Fun K fJ fJ Ij f fd)(T:Txt K mg D):cj P w K mg base CX0 1 f fd fH (spT K gQ):=by
 refine F.okT jW (λts R hP=>by obtain⟨_,_,e,_⟩:=hP;exact e ▸ rfl) λag A outer s H E hr=>?_;refine⟨_,(bC (g_ 2 jW.nd (Or.inl rfl) (d_ bF))
  (bC (bM 3 jW.nd (Or.inl rfl) (bK cC (bK cB (bK cN (bK cC (qv 0) bA) bA) bA) bA))
  (bC (bM 4 jW.nd (Or.inl rfl) bA)
  (bC (cG (QW.qt (nR (bY vQ (qv 0) bA) (kI (bY Z2 (qv 0) (bK Uh bA bA)))))
  (bG (bM 4 jW.nd (Or.inl rfl) (bV G8 (by rfl) T.Rh boot_abs (bx (qv 0) bF))))
  bT)
  (bC (dG VZ rfl (cY (by rfl) T.dO (bx (qv 1) bF)) (b_ (n:=99) 5 jW.nd (Or.inl rfl))
  (bC (bM 3 jW.nd (Or.inl rfl) (bK cC (bK cN (bK cN (bK cB (qv 3) (bK cN (bK cC (qv 3) bA) bA)) (bK cB bA (qv 5))) bA) bA))
  (bC (nG 2 (bJ (d_ (bx (qv 3) (bx (bK cC (qv 4) bA) bF))) (yr af4 (by rfl) T.adK boot_int (bx (Dr Ek (qv 4) bA) bF))))
  (bG (bM 4 jW.nd (Or.inl rfl) (bK mF (qv 4) bA))))))
  (bG (jE 2))))))),?_⟩
 rintro _ R ⟨c,n,rfl,hn,q⟩;refine sq4 (λo=>o=[.fz (.int c),.fz (.int (n:Nat)),.l1 [],.fz (.int (strN c 0).1),.fz (.int (strN c 0).2),.und]) ?_ λY go=>?_
 .rintro _ rfl;refine⟨⟨by lia,by lia⟩,?_⟩;refine jr (λk o=>∃x,o=[.fz (.int c),.fz (.int (n:Nat)),.l1 ((jO c k).map L2.T.int),.fz (.int (strN c k).1),.fz (.int (strN c k).2),x]) ⟨_,rfl⟩ ?_ ?_
  .rintro k _ hk ⟨x,rfl⟩;have b:=Vs c k;refine⟨by decide,⟨eV (by lia),eV (by lia)⟩,⟨eV (by decide),eV (by lia)⟩,by decide,by decide,.int (strm c k),?_,?_,⟨by decide,eV (by decide)⟩,.fz (.int k),?_⟩
   .by_cases h:0<(strN c k).2
    .rw[Zs h];unfold strm;rw[ZY h]
     rfl
    .rw[Zp h];unfold strm;rw[ZZ h]
     rfl
   .rw[ak,ak,WJ];exact aR (show k<1001 by lia) (by decide)
   .rw[show jO c (k+1)=jO c k++[strm c k]by simp[jO,List.range_succ],bf]
    rfl
  .rintro _ ⟨x,rfl⟩;exact q
 .refine⟨by decide,⟨eV (by lia),eV (by decide)⟩,by decide,?_⟩;refine swD (λh=>go _ ?_) λh=>⟨⟨by decide,by decide,by decide⟩,swD (λh'=>go _ ?_) λh'=>go _ ?_⟩
  .show _=[_,_,_,_,OT.fz (L2.T.int (if c<0\/10^18<=c then(c.natAbs:Int)else 0)),_];rw[ZY (.inl h)]
   rfl
  .show _=[_,_,_,_,OT.fz (L2.T.int (if c<0\/10^18<=c then(c.natAbs:Int)else 0)),_];rw[ZY (.inr h')]
   rfl
  .show _=[_,_,_,_,OT.fz (L2.T.int (if c<0\/10^18<=c then(c.natAbs:Int)else 0)),_];rw[ZZ (λz=>z.elim h h')]
   rfl
def aaO:ST:=λts q=>∃a b:Int,ts=[.int a,.int b]/\q (.fz (.int (Int.gcd a b)))
theorem aeG(F:Fun K Mh Mh YJ f fd)(T:Txt K mg D):cj P w K mg base CX0 1 f fd Om (spT K aaO):=by
 refine F.okT Nr (λts R hP=>by obtain⟨_,_,e,_⟩:=hP;exact e ▸ rfl) λag A outer s H E hr=>?_;refine⟨_,(bC (T6 (bV WK (by rfl) T.ZX boot_sorted (bx (d_ (bx (bV G8 (by rfl) T.Rh boot_abs (bx (qv 0) bF)) (bx (bV G8 (by rfl) T.Rh boot_abs (bx (qv 1) bF)) bF))) bF)) (aeF (n:=2) rfl (bR (b_ (n:=99) 2 Nr.nd (Or.inl rfl)) (bR (b_ (n:=99) 3 Nr.nd (Or.inl rfl)) dF))))
  (bC (Cj VZ (bY Ek (qv 2) bA)
  (bG (agp 2 3 rfl Nr.nd (by decide) (bx (bK cC (qv 3) (qv 2)) (bx (qv 2) bF)))))
  (bG (bQ (qv 3))))),?_⟩
 rintro _ R ⟨a,b,rfl,q⟩;refine⟨[(a.natAbs:Int),(b.natAbs:Int)],rfl,by simp,λms pm so=>?_⟩;obtain⟨l,h,rfl,hg⟩ : ∃l h:Nat,ms=[(l:Int),(h:Int)]/\Nat.gcd l h=Int.gcd a b:=by
  have ln:=pm.length_eq
  match ms,ln with
  |[x,y],_ =>
   have hx:x=(a.natAbs:Int)\/x=(b.natAbs:Int):=by simpa using pm.subset (aO ..)
   rcases hx with rfl|rfl
   .have:=(List.perm_cons _).mp pm;have:=List.perm_singleton.mp this;cases this;exact⟨_,_,rfl,rfl⟩
   .have:=(List.perm_cons _).mp (pm.trans (List.Perm.swap _ _ _));have:=List.perm_singleton.mp this;cases this;exact⟨_,_,rfl,Nat.gcd_comm _ _⟩
 refine⟨rfl,λm o=>∃(l h:Nat),o=[.fz (.int a),.fz (.int b),.fz (.int l),.fz (.int h)]/\Nat.gcd l h=Int.gcd a b/\m=l,⟨_,_,_,rfl,hg,rfl⟩,?_⟩;rintro m _ ⟨l,h,rfl,hg,rfl⟩;refine swD (λhl=>?_) λhl=>?_
 .refine⟨λo=>o=[.fz (.int a),.fz (.int b),.fz (.int ((h%m:Nat):Int)),.fz (.int m)],?_,?_⟩
  .rintro _ rfl;exact⟨h%m,Nat.mod_lt _ (by lia),h%m,m,rfl,(Nat.gcd_rec m h).symm.trans hg,rfl⟩
  .exact⟨hl,by rw[Int.natCast_emod];rfl⟩
 .have:m=0:=by lia
  subst this;rw[Nat.gcd_zero_left]at hg;rw[<- hg]at q;exact q
def xM:ST:=λts q=>∃a b:Int,ts=[.int a,.int b]/\0<b/\Bd b/\q (.fz (frR (Rat.divInt a b)))
theorem Xm(F:Fun K o_ o_ GZ f fd)(X8:OkT P w K mg base 1 Mh Om aaO):cj P w K mg base CX0 2 f fd pC (spT K xM):=by
 refine F.okT KN (λts R hP=>by obtain⟨_,_,e,_⟩:=hP;exact e ▸ rfl) λag A outer s H E hr=>?_;refine⟨_,(bC (bM 2 KN.nd (Or.inl rfl) (bI X8 hr.md (by rfl) (bx (qv 0) (bx (qv 1) bF))))
  (bG (bQ (cW (bx (bK mF (qv 0) (qv 2)) (bx (bK mF (qv 1) (qv 2)) bF)))))),?_⟩
 rintro _ R ⟨a,b,rfl,hb,hd,q⟩;have nb:b≠0:=by exact WS hb
 have g0:=mX (a:=a) nb;have g1:=SQ (a:=a) nb hd;refine⟨_,_,rfl,⟨by exact WS g0,g1⟩,⟨by exact WS g0,g1⟩,?_⟩;have l:=wN (t:=a) nb (c:=(Int.gcd a b:Nat)) (WS g0) (by lia) (XZ g0 hb);rw[<- iR l nb]at q;exact q
noncomputable def XR(c:Nat):Bool:=decide (97<=c)&&decide (c<=122)
noncomputable def ltL:List Nat:=(Str.ofString "abcdefghijklmnopqrstuvwxyz").cps.toList
theorem aee:∀i:Fin 26,nth ltL i.val=some (97+i.val):=by decide +kernel
theorem YX{i:Int}(h0:0<=i)(h1:i<26):ixT ltL i=some (97+i.toNat):=by
 obtain⟨k,rfl⟩:=Zwv h0;exact aee ⟨k,by lia⟩
theorem Us{n:Nat}(h:n<26):XR (97+n)=true:=by
 unfold XR;rw[Zs (show 97<=97+n by exact X2 _ _),Zs (show 97+n<=122 by lia)];rfl
theorem ou(x:Str):x.cps.toList.length=x.length:=Array.length_toList
theorem VP(x y:Str):(x++y).cps.toList=x.cps.toList++y.cps.toList:=by
 show(x.cps++y.cps).toList=_;rw[Array.toList_append]
theorem aci(x y:Str):(x++y).length=x.length+y.length:=by
 show(x.cps++y.cps).size=_;rw[Array.size_append];rfl
theorem aaq{x:Str}{n:Nat} : (Fj x none (some (n:Int))).cps.toList=x.cps.toList.take n:=by
 unfold Fj;have hl:x.cps.toList.length=x.length:=Array.length_toList;show((x.cps.toList.drop 0).take (HT.sIx x.length x.length (some (n:Int))-0))=_;rw[HT.xX,List.drop_zero,Nat.sub_zero,<- hl];rw[List.take_eq_take_iff];lia
theorem Q6{x:Str}{n:Nat} : (Fj x (some (n:Int)) none).cps.toList=x.cps.toList.drop n:=by
 unfold Fj;have hl:x.cps.toList.length=x.length:=Array.length_toList;show((x.cps.toList.drop (HT.sIx x.length 0 (some (n:Int)))).take (x.length-HT.sIx x.length 0 (some (n:Int))))=_;rw[HT.xX,<- hl];by_cases h:n<=x.cps.toList.length
 .rw[Nat.min_eq_left h];exact Zzu (by rw[TW];exact aG _)
 .rw[TR (by lia:x.cps.toList.length<=n),TR (by lia),List.take_nil]
theorem Ws{α:Type}{ys:List α}{a b:Nat}(ab:a<=b)(h:b<=ys.length):gG ys (some (a:Int)) (some (b:Int))=(ys.drop a).take (b-a):=by
 unfold gG;rw[HT.xX,HT.xX,Nat.min_eq_left h,Nat.min_eq_left (aL ab h)]
theorem adL{x:Str}(h:x.cps.toList.all XR=true)(lo:1<=x.length)(hi:x.length<=8):Wd x:=by
 unfold Wd VG;rw[ou,Zs lo,Zs hi];exact h
structure Nms(ns:Φ)(n:Nat):Prop where
 len:ns.length=n
 nd:ns.Nodup
 wd:∀x∈ns,Wd x
theorem Wj{R:Nat->Str->Prop}{n:Nat}{ns:Φ}(h:∀(i:Nat)x,ns[i]?=some x->R i x)(l:ns.length=n)(u:∀i j x,i<j->j<n->R i x->R j x->False):ns.Nodup:=by
 unfold List.Nodup;rw[List.pairwise_iff_getElem];intro i j hi hj ij e;exact u i j ns[i] ij (l ▸ hj) (h i _ (aj hi)) (by rw[e];exact h j _ (aj hj))
theorem J_{g:HG}{c:RT}{e:RE}{o:List OT}{q:List T->Prop}(R:Nat->Str->Prop)(n:Nat)(st:∀k,k<n->∀(N:T->Prop)(M:Prop),(∀x,R k x->N (.str x))->g (.int (k:Nat)) o λo'=>c o' λb=>sw b (e o' λy=>N (frz y)) M)(k:∀ns:Φ,ns.length=n->(∀(i:Nat)x,ns[i]?=some x->R i x)->q (ns.map T.str)):jd g c e o (rng 0 n) q:=by
 have go:∀(m j:Nat),j+m=n->∀(us:Φ),us.length=j->(∀(i:Nat)x,us[i]?=some x->R i x)->∀{q:List T->Prop},(∀ns:Φ,ns.length=n->(∀(i:Nat)x,ns[i]?=some x->R i x)->(∃vs,ns=us++vs/\q (vs.map T.str))\/¬∃vs,ns=us++vs)->jd g c e o ((List.range' j m).map λk:Nat=>.int ((0:Int)+k)) q:=by
  intro m
  induction m with
  |zero =>
   intro j ej us lu hu q hq;rcases hq us (by lia) hu with⟨vs,e,z⟩|z
   .have:vs=[]:=by simpa using e
    rw[this]at z;exact z
   .exact absurd ⟨[],(List.append_nil us).symm⟩ z
  |succ m ih =>
   intro j ej us lu hu q hq;rw[List.range'_succ,List.map_cons];refine Xc ?_;rw[Int.zero_add];refine st j (by lia) (λt=>jd g c e o ((List.range' (j+1) m).map λk:Nat=>.int ((0:Int)+k)) λus=>q (t::us)) (jd g c e o ((List.range' (j+1) m).map λk:Nat=>.int ((0:Int)+k)) q) λx hx=>?_;refine ih (j+1) (by lia) (us++[x]) (by simp[lu]) (λi y ey=>?_) λns ln hn=>?_
   .by_cases hi:i<us.length
    .rw[aF hi]at ey;exact hu i y ey
    .have hl:=(ao.mp ey).1;rw[aA,List.length_singleton]at hl;have:i=us.length:=by lia
     subst this;rw[aD (aG _),Zzy]at ey;cases ey;exact lu ▸ hx
   .by_cases z:∃vs,ns=us++[x]++vs
    .obtain⟨vs,e⟩:=z;refine .inl ⟨vs,e,?_⟩;rcases hq ns ln hn with⟨ws,e',q'⟩|z
     .rw[e,WZ]at e';have:=List.append_cancel_left e';rw[<- this]at q';exact q'
     .exact absurd ⟨x::vs,by rw[e,WZ];rfl⟩ z
    .exact .inr z
 have:=go n 0 (Nat.zero_add _) [] rfl (λi x z=>by cases z) (q:=q) λns ln hn=>.inl ⟨ns,rfl,k ns ln hn⟩;rw[<- List.range_eq_range']at this;exact this
def nm1(c:Nat)(i:Nat)(x:Str):Prop:=x.cps.toList=List.replicate (i+1) c
def nm2(b:List Nat)(at_:Nat)(x0 st:Int)(i:Nat)(x:Str):Prop:=x.cps.toList=b.take at_++(97+((x0+st*i)%26).toNat)::b.drop at_
theorem acd{b:List Nat}{at_:Nat}{x0 st:Int}{i j:Nat}{x:Str}(hs:st=1\/st=3\/st=5\/st=7\/st=9\/st=11)(ij:i<j)(hj:j<26)(h1:nm2 b at_ x0 st i x)(h2:nm2 b at_ x0 st j x):False:=by
 have e:=h1.symm.trans h2;have e:=List.append_cancel_left e;injection e with e _;rcases hs with rfl|rfl|rfl|rfl|rfl|rfl<;>omega
theorem ad8{c i:Nat}{x:Str}(hc:XR c=true)(hi:i<8)(h:nm1 c i x):Wd x:=by
 have l:=ou x;rw[h,aN]at l;refine adL ?_ (by lia) (by lia);rw[h,Zxr];intro d hd;rw[(List.mem_replicate.mp hd).2];exact hc
theorem aeU{b:List Nat}{at_:Nat}{x0 st:Int}{i:Nat}{x:Str}(hb:b.all XR=true)(hl:b.length<=7)(h:nm2 b at_ x0 st i x):Wd x:=by
 have l:=ou x;rw[h,aA,List.length_cons,aY,TW]at l;refine adL ?_ (by lia) (by omega);rw[h,Zxr];rw[Zxr]at hb;intro d hd;rcases Y1.mp hd with hd|hd
 .exact hb d (List.mem_of_mem_take hd)
 .rcases YU.mp hd with rfl|hd
  .exact Us (by lia)
  .exact hb d (List.mem_of_mem_drop hd)
theorem Ko:∀(ys:Φ)(acc:Array Nat),(ys.foldl (λacc p=>acc++(Str.ofString "").cps++p.cps) acc).toList=acc.toList++(ys.map λy=>y.cps.toList).flatten
 |[],acc=>by simp
 |y::ys,acc=>by
  have e0:(Str.ofString "").cps = #[]:=by decide +kernel
  rw[List.foldl_cons,Ko ys,e0,Array.append_empty,Array.toList_append,List.map_cons,List.flatten_cons,WZ]
theorem glue(ys:Φ):(Txt.join (Str.ofString "") ys).cps.toList=(ys.map λy=>y.cps.toList).flatten:=by
 show((ys.drop 1).foldl (λacc p=>acc++(Str.ofString "").cps++p.cps) (ys.headD Str.empty).cps).toList=_;rw[Ko];cases ys with
 |nil=>rfl
 |cons y ys=>rfl
theorem aeE{c d:RT}{x y z:RS}{E:DT}{o:List OT}(b:Bool)(h:∀q:Bool->Prop,q b->agj c d o q)(hq:sw b (x { E with nx:=z E } o) (y { E with nx:=z E } o)):jh (agI (agj c d) x y) z E o:=h (λk=>sw k (x { E with nx:=z E } o) (y { E with nx:=z E } o)) hq
def Qz:ST:=λts q=>∃(c:Int)(n:Nat),ts=[.int c,.int (n:Nat)]/\n<=26/\∀ns:Φ,Nms ns n->q (.l1 (ns.map T.str))
theorem dJ{c:Int}{n k:Nat}(h:k<n):ixT ((jO c n).map T.int) (k:Nat)=some (.int (strm c k)):=by
 show nth ((jO c n).map T.int) k=_;rw[rR,aq,aq,Up h];rfl
theorem Z1(F:Fun K Cz Cz xZ f fd)(T:Txt K mg D)(cJ:OkT P w K mg base 1 fJ fH gQ):cj P w K mg base CX0 2 f fd Ci (spT K Qz):=by
 refine F.okT sY (λts R hP=>by obtain⟨_,_,e,_⟩:=hP;exact e ▸ rfl) λag A outer s H E hr=>?_;refine⟨_,(bC (bM 2 sY.nd (Or.inr rfl) uG)
  (bC (bM 3 sY.nd (Or.inr rfl) (bI cJ hr.md (by rfl) (bx (qv 0) (bx bA bF))))
  (bC (cG (QW.qt (Jh (bY (go_eq hr.units) (bK cC (bJ (qv 3) bA) bA) bA) (Cu (bY Qj (qv 1) bA))))
  (bG (bQ (dH (bH xZ) tZ tZ ["_law_k"] (cY (by rfl) T.dO (bx (qv 1) bF)) (fj (i:=0)) cI (bK cB (bJ (qv 3) (bK cC (bJ (qv 4) bA) bA)) (bK cN (qv 0) bA)))))
  bT)
  (bC (bM 4 sY.nd (Or.inr rfl) (abZ uG (bx (dH (bH xZ) tZ tZ ["_law_x"] (cH (j9 (qv 3) (g8 bA) (g8 (bK cN bA (bK cC (bJ (qv 3) bA) bA))))) (fj (i:=0)) cI (bJ (qv 3) (bK cC (qv 0) bA))) bF)))
  (bC (bM 5 sY.nd (Or.inr rfl) (bK cC (bJ (qv 3) bA) bA))
  (bC (bM 6 sY.nd (Or.inr rfl) (bJ (d_ (bx bA (bx bA (bx bA (bx bA (bx bA (bx bA bF))))))) (bK cC (bJ (qv 3) bA) bA)))
  (bG (bQ (dH (bH xZ) tZ tZ ["_law_k"] (cY (by rfl) T.dO (bx (qv 1) bF)) (fj (i:=0)) cI (bK cN (bK cN (j9 (qv 5) Gg (g8 (qv 6))) (bJ (qv 3) (bK cC (bK cN (bJ (qv 4) bA) (bK cB (qv 7) (qv 0))) bA))) (j9 (qv 5) (g8 (qv 6)) Gg))))))))))),?_⟩
 rintro _ R ⟨c,n,rfl,hn,q⟩;refine⟨c,11,rfl,by decide,?_⟩;have s0:=iI c 0;have s1:=iI c 1;have lL:(Str.ofString "abcdefghijklmnopqrstuvwxyz").length<=sizeLine:=aL (show _<=1000 by decide +kernel) (by decide);have rl:(rng 0 n).length<=sizeLine:=by rw[rng,ak,WJ];exact aL hn (by decide)
 dsimp only;refine aeE (decide (strm c 0%3=1)&&decide ((n:Int)<=8)) (λq hq=>?_) ?_
 .refine⟨_,dJ (k:=0) (by decide),by decide,?_⟩;refine swD (λh=>?_) λh=>?_
  .rw[Zs h,Bool.true_and]at hq;exact hq
  .rw[Zp h,Bool.false_and]at hq;exact hq
 .refine sw2 (λhb=>?_) λhb=>?_
  .simp only[Zzt,decide_eq_true_eq]at hb;refine⟨⟨by lia,by lia⟩,rl,J_ (nm1 (97+(strm c 1%26).toNat)) n (λk hk N M hN=>?_) λns ln eh=>q ns ⟨ln,Wj eh ln λi j x ij hj h1 h2=>?_,λx hx=>?_⟩⟩
   .refine⟨_,dJ (k:=1) (by decide),by decide,lL,_,YX (Z3 _ (by decide)) (YY _ (by decide)),_,rfl,by lia,by lia,λz hz=>hN z ?_⟩;rw[show((k:Int)+1).toNat=k+1 by lia]at hz;exact hz
   .have:=ZH List.length (h1.symm.trans h2);rw[aN,aN]at this;lia
   .obtain⟨i,hi⟩:=aV hx;have li:=(ao.mp hi).1;exact ad8 (Us (by lia)) (by lia) (eh i x hi)
  .obtain⟨m,em,hm⟩ : ∃m:Nat,strm c 1%8=m/\m<=7:=⟨(strm c 1%8).toNat,by lia,by lia⟩;have ec:gG ((jO c 11).map L2.T.int) (some 2) (some (2+strm c 1%8))=(((jO c 11).drop 2).take m).map L2.T.int:=by
    rw[em,Cm];have:=Ws (ys:=jO c 11) (a:=2) (b:=2+m) (X2 _ _) (by rw[ak,WJ];lia);rw[show 2+m-2=m by exact JU _ _]at this;exact ZH (List.map L2.T.int) this
   have ml:(((jO c 11).drop 2).take m).length=m:=by rw[aY,TW,ak,WJ];lia
   refine⟨_,dJ (k:=1) (by decide),by decide,?_⟩;dsimp only[frz];show(gG ((jO c 11).map L2.T.int) (some 2) (some (2+strm c 1%8))).length<=sizeLine/\_;rw[ec];have c26:∀x∈((jO c 11).drop 2).take m,0<=x:=λx hx=>by
    obtain⟨k,_,rfl⟩:=YV.mp (List.mem_of_mem_drop (List.mem_of_mem_take hx));exact(iI c k).1
   generalize((jO c 11).drop 2).take m=us at ml c26 ⊢;have e0:(Str.ofString "").length=0:=by decide +kernel
   refine⟨by rw[ak,ml];exact aL hm (by decide),comp_map L2.T.int (λx=>.str ⟨#[97+(x%26).toNat]⟩) us (λx hx N M hN=>⟨by decide,lL,_,YX (Z3 _ (by decide)) (YY _ (by decide)),hN⟩) ⟨us.map λx=>⟨#[97+(x%26).toNat]⟩,by rw[WP];rfl,?_,?_⟩⟩
   .rw[e0,Nat.mul_zero,Nat.add_zero,WP,show((λx:Str=>x.length) ∘ λx:Int=>(⟨#[97+(x%26).toNat]⟩ : Str))=λ_=>1 from rfl,List.map_const',List.sum_replicate_nat];lia
   have bc:(Txt.join (Str.ofString "") (us.map λx=>(⟨#[97+(x%26).toNat]⟩ : Str))).cps.toList=us.map λx=>97+(x%26).toNat:=by
    rw[glue,WP]
    clear ml c26 ec
    induction us with
    |nil=>rfl
    |cons x us ih=>rw[List.map_cons,List.flatten_cons,ih];rfl
   have bl:(Txt.join (Str.ofString "") (us.map λx=>(⟨#[97+(x%26).toNat]⟩ : Str))).length<=7:=by rw[<- ou,bc,ak];exact aL (WG ml) hm
   have ba:(us.map λx=>97+(x%26).toNat).all XR=true:=by
    rw[Zxr];intro d hd;obtain⟨x,hx,rfl⟩:=YV.mp hd;exact Us (by lia)
   rw[<- bc]at ba;generalize Txt.join (Str.ofString "") (us.map λx=>(⟨#[97+(x%26).toNat]⟩ : Str))=st at bl ba ⊢
   clear bc
   have s9:=iI c 9;have s10:=iI c 10;obtain⟨ap,eap,l6⟩ : ∃ap:Nat,strm c 9%8=ap/\ap<=7:=⟨(strm c 9%8).toNat,by lia,by lia⟩;obtain⟨sv,es,hs⟩ : ∃sv:Int,ixT [L2.T.int 1,L2.T.int 3,L2.T.int 5,L2.T.int 7,L2.T.int 9,L2.T.int 11] (strm c 10%6)=some (.int sv)/\(sv=1\/sv=3\/sv=5\/sv=7\/sv=9\/sv=11):=by
    obtain e|e|e|e|e|e:strm c 10%6=0\/strm c 10%6=1\/strm c 10%6=2\/strm c 10%6=3\/strm c 10%6=4\/strm c 10%6=5:=by lia
    .exact⟨1,by rw[e];rfl,by decide⟩
    .exact⟨3,by rw[e];rfl,by decide⟩
    .exact⟨5,by rw[e];rfl,by decide⟩
    .exact⟨7,by rw[e];rfl,by decide⟩
    .exact⟨9,by rw[e];rfl,by decide⟩
    .exact⟨11,by rw[e];rfl,by decide⟩
   have z7:(16:Nat)<=sizeLine:=by decide
   refine⟨_,dJ (k:=9) (by decide),by decide,?_⟩;dsimp only[frz];rw[eap];refine⟨_,dJ (k:=10) (by decide),by decide,_,es,⟨by lia,by lia⟩,rl,J_ (nm2 st.cps.toList ap (strm c 0) sv) n (λk hk N M hN=>?_) λns ln eh=>q ns ⟨ln,Wj eh ln λi j x ij hj h1 h2=>acd hs ij (aR hj hn) h1 h2,λx hx=>?_⟩⟩
   .have t1:(Fj st none (some (ap:Int))).length<=7:=by rw[<- ou,aaq,aY,ou];lia
    have t2:(Fj st (some (ap:Int)) none).length<=7:=by rw[<- ou,Q6,TW,ou];exact aL (Nat.sub_le _ _) bl
    have t3:∀d:Nat,({ cps:=#[d] } : Str).length=1:=λ_=>rfl;refine⟨by exact aL bl (by decide),_,dJ (k:=0) (by decide),⟨eV (by lia),eV (by lia)⟩,by decide,lL,_,YX (Z3 _ (by decide)) (YY _ (by decide)),by rw[t3];lia,by exact aL bl (by decide),by rw[aci,t3];lia,hN _ ?_⟩;unfold nm2;rw[VP,VP,aaq,Q6,WZ];rfl
   .obtain⟨i,hi⟩:=aV hx;exact aeU ba (by rw[ou];exact bl) (eh i x hi)
theorem X7{α:Type}(l:List α)(h:α->T){i:Int}(h0:0<=i)(h1:i<l.length):∃a∈l,ixT (l.map h) i=some (h a):=by
 obtain⟨k,rfl⟩:=Zwv h0;have hk:k<l.length:=by lia
 refine⟨l[k],aU hk,?_⟩;show nth (l.map h) k=_;rw[rR,aq,aj hk];rfl
theorem div_pos{a b:Int}(hb:0<b):(Rat.divInt a b).den<=b.toNat/\(Rat.divInt a b).num.natAbs<=a.natAbs:=by
 have l:=wN (t:=a) (b:=b) (c:=(Int.gcd a b:Nat)) (WS hb) (by have:=mX (a:=a) (b:=b) (WS hb);exact WS this) (by lia) (XZ (mX (WS hb)) hb);have e:=iR l (WS hb);injection e with e;injection e with e1 e2;injection e2 with e2 _;injection e1 with e1;injection e2 with e2;have h1:=l.lx;have h2:=l.ly;have h3:=l.pos;have e1:a.fdiv ((Int.gcd a b:Nat):Int)=(Rat.divInt a b).num:=e1;have e2:b.fdiv ((Int.gcd a b:Nat):Int)=((Rat.divInt a b).den:Nat):=e2;rw[e1]at h1;rw[e2]at h2 h3;omega
theorem Tw{a b:Int}(ha:0<=a)(h:a<b):0<=Rat.divInt a b/\Rat.divInt a b<1:=by
 have hb:0<b:=by exact Int.lt_of_le_of_lt ha h
 refine⟨Zyx ha (XY hb),?_⟩;have e:Rat.divInt a b=(a:Rat)/(b:Rat):=UK a b;rw[e];have fh:(0:Rat)<(b:Rat):=by exact_mod_cast hb
 rw[Rat.div_lt_iff fh,Rat.one_mul]
 exact_mod_cast h
structure Shr(s:Rat):Prop where
 lo:0<=s
 hi:s<1
 den:s.den<=100
def RD:ST:=λts q=>∃c:Int,ts=[.int c]/\∀s:Rat,Shr s->q (.fz (frR s))
theorem aaK(F:Fun K Ck Ck L_ f fd)(T:Txt K mg D)(cJ:OkT P w K mg base 1 fJ fH gQ)(iz:OkT P w K mg base 2 o_ pC xM):cj P w K mg base CX0 3 f fd Ao (spT K RD):=by
 refine F.okT Hj (λts R hP=>by obtain⟨_,e,_⟩:=hP;exact e ▸ rfl) λag A outer s H E hr=>?_;refine⟨_,(bC (bM 1 Hj.nd (Or.inl rfl) (bI cJ hr.md (by rfl) (bx (qv 0) (bx bA bF))))
  (bC (bM 2 Hj.nd (Or.inl rfl) (bK cN bA (bK cC (bJ (qv 1) bA) (bJ (d_ (bx bA (bx bA (bx bA (bx bA bF))))) (bK cC (bJ (qv 1) bA) bA)))))
  (bG (bQ (bI iz hr.md (by rfl) (bx (bK cC (bJ (qv 1) bA) (qv 2)) (bx (qv 2) bF))))))),?_⟩
 rintro _ R ⟨c,rfl,q⟩;have s0:=iI c 0;have s1:=iI c 1;have s2:=iI c 2;refine⟨c,3,rfl,by decide,_,dJ (k:=0) (by decide),_,dJ (k:=1) (by decide),by decide,?_⟩;obtain⟨d,hd,ed⟩:=X7 [4,6,10,100] L2.T.int (i:=strm c 1%4) (Z3 _ (by decide)) (by show strm c 1%4<4;exact YY _ (by decide));have d0:0<d/\d<=100:=by simp at hd;lia
 refine⟨_,ed,d0.1,?_⟩;have b0:0<1+strm c 0%d/\1+strm c 0%d<=100:=by
  have:=Z3 (strm c 0) (show d≠0 by lia);have:=YY (strm c 0) d0.1;lia
 refine⟨_,dJ (k:=2) (by decide),b0.1,_,_,rfl,b0.1,eV (by omega),q _ ?_⟩;generalize 1+strm c 0%d=b at b0 ⊢;have a0:=Z3 (strm c 2) (show b≠0 by lia);have a1:=YY (strm c 2) b0.1;obtain⟨x,y⟩:=Tw a0 a1;exact⟨x,y,by have:=(div_pos (a:=strm c 2%b) b0.1).1;lia⟩
structure Pay(p:Rat):Prop where
 num:p.num.natAbs<=10^30
 den:p.den<=1000
def Yt:ST:=λts q=>∃c x y:Int,ts=[.int c,.int x,.int y]/\(0<=x/\x<2000000000)/\(0<=y/\y<2000000000)/\∀p:Rat,Pay p->q (.fz (frR p))
theorem afl(F:Fun K M6 M6 aan f fd)(T:Txt K mg D)(iz:OkT P w K mg base 2 o_ pC xM):cj P w K mg base CX0 3 f fd M9 (spT K Yt):=by
 refine F.okT agi (λts R hP=>by obtain⟨_,_,_,e,_⟩:=hP;exact e ▸ rfl) λag A outer s H E hr=>?_;refine⟨_,(bC (cG (bY vQ (bK cC (qv 1) bA) bA)
  (bG (bQ (cW (bx (bK mC (bK cC (qv 2) bA) bA) (bx bA bF)))))
  bT)
  (bC (cG (bY vQ (bK cC (qv 1) bA) bA)
  (bG (bQ (bI iz hr.md (by rfl) (bx (bK mC (bK cC (qv 2) bA) bA) (bx (bK cN bA (bK cC (bK mF (qv 1) bA) bA)) bF)))))
  bT)
  (bC (cG (bY (go_eq hr.units) (bK cC (qv 1) bA) bA)
  (bG (bQ (cW (bx (bK mC (bK cC (qv 0) bA) bA) (bx bA bF)))))
  bT)
  (bG (bQ (bI iz hr.md (by rfl) (bx (bK mC (bK cC (bK cN (bK Vw (qv 0) bA) (qv 2)) (bK cN (bK cB bA (bK Uh bA bA)) bA)) (bK Uh bA bA)) (bx (bK cN bA (bK cC (bK mF (qv 1) bA) bA)) bF)))))))),?_⟩
 rintro _ R ⟨c,x,y,rfl,hx,hy,q⟩;have b30:Bd (10^30):=Y3 (aG _) (by decide +kernel);have lo:∀a b:Int,0<b->a.natAbs<=10^30->b<=1000->R (.fz (frR (Rat.divInt a b))):=λa b h0 h1 h2=>by
  obtain⟨x,y⟩:=div_pos (a:=a) h0;exact q _ ⟨aL y h1,by lia⟩
 have one:∀a:Int,a.natAbs<=10^30->R (.fz (.tup [.int a,.int 1])):=λa h=>q (a:Rat) ⟨h,show(1:Nat)<=1000 by decide⟩;have d8:x.fdiv 8=x/8:=Zyu _ (by decide);refine⟨by decide,swD (λh=>⟨by decide,one _ (by lia)⟩) λh=>⟨by decide,swD (λh=>⟨by decide,⟨by decide,eV (by decide)⟩,by decide,?_⟩) λh=>⟨by decide,swD (λh=>⟨by decide,one _ (by lia)⟩) λh=>?_⟩⟩⟩
 .exact⟨_,_,rfl,by lia,eV (by lia),lo _ _ (by lia) (by lia) (by lia)⟩
 .refine⟨.inr (by constructor<;>decide),⟨by decide,by decide,by decide⟩,⟨eV (by decide),b30⟩,by decide,⟨by decide,by decide,by decide⟩,⟨by decide,eV (by decide)⟩,by decide,?_⟩;exact⟨_,_,rfl,by lia,eV (by lia),lo _ _ (by lia) (by
   have e:(10:Int)^Int.toNat 30=10^30:=rfl;rw[e];lia) (by lia)⟩
def st_size:ST:=λts q=>∃c:Int,ts=[.int c]/\∀n:Nat,n<=6->q (.fz (.int (n:Nat)))
theorem ac3(F:Fun K GD GD Ul f fd)(T:Txt K mg D)(cJ:OkT P w K mg base 1 fJ fH gQ):cj P w K mg base CX0 2 f fd GK (spT K st_size):=by
 refine F.okT V3 (λts R hP=>by obtain⟨_,e,_⟩:=hP;exact e ▸ rfl) λag A outer s H E hr=>?_;refine⟨_,(bC (bM 1 V3.nd (Or.inl rfl) (bI cJ hr.md (by rfl) (bx (qv 0) (bx bA bF))))
  (bC (cG (bY (go_eq hr.units) (bK cC (bJ (qv 1) bA) bA) bA)
  (bG (bQ bA))
  bT)
  (bC (cG (bY (go_eq hr.units) (bK cC (bJ (qv 1) bA) bA) bA)
  (bG (bQ (bK cN bA (bK cC (bJ (qv 1) bA) bA))))
  bT)
  (bG (bQ (bK cN bA (bK cC (bJ (qv 1) bA) bA))))))),?_⟩
 rintro _ R ⟨c,rfl,q⟩;have s1:=iI c 1;have s1':0<=strm c 1:=s1.1;refine⟨c,2,rfl,by decide,_,dJ (k:=0) (by decide),by decide,swD (λh=>q 0 (by decide)) λh=>⟨_,dJ (k:=0) (by decide),by decide,swD (λh=>⟨_,dJ (k:=1) (by decide),by decide,?_⟩) λh=>⟨_,dJ (k:=1) (by decide),by decide,?_⟩⟩⟩
 .have:=q (5+strm c 1%2).toNat (by lia);rw[show(((5+strm c 1%2).toNat:Nat):Int)=5+strm c 1%2 by lia]at this;exact this
 .have:=q (1+strm c 1%4).toNat (by lia);rw[show(((1+strm c 1%4).toNat:Nat):Int)=1+strm c 1%4 by lia]at this;exact this
structure LD where
 sort:Nat
 pay:Rat
 prs:List (Nat×Rat)
abbrev ldT(d:LD):T:=.tup [.int (d.sort:Nat),frR d.pay,.lst (d.prs.map nwT)]
structure LDk(m:Nat)(d:LD):Prop where
 sort:d.sort<4
 pay:Pay d.pay
 few:d.prs.length<=4
 lt:∀p∈d.prs,p.1<m
 nn:∀p∈d.prs,0<=p.2
 one:Ah (d.prs.map (·.2))=1
 dn:∃q:Nat,0<q/\q<=4000/\∀p∈d.prs,p.2.den ∣ q
 s0:d.sort=0->∃a,d.prs=[(a,1)]
 s1:d.sort=1->∃a b x,d.prs=[(a,x),(b,1-x)]
 s2:d.sort=2->∃rs:List Nat,d.prs=rs.map λr=>(r,mkRat 1 rs.length)
theorem ada{α:Type}(l:List α){n:Nat} : gG l none (some (n:Int))=l.take n:=by
 unfold gG;show(l.drop 0).take (HT.sIx l.length l.length (some (n:Int))-0)=_;rw[HT.xX,List.drop_zero,Nat.sub_zero];rw[List.take_eq_take_iff];lia
theorem Lw{a b:Int}(hb:0<b):(Rat.divInt a b).den ∣ b.toNat:=by
 have l:=wN (t:=a) (b:=b) (c:=(Int.gcd a b:Nat)) (WS hb) (by have:=mX (a:=a) (b:=b) (WS hb);exact WS this) (by lia) (XZ (mX (WS hb)) hb);have e:=iR l (WS hb);injection e with e;injection e with _ e2;injection e2 with e2 _;injection e2 with e2;have e2:b.fdiv ((Int.gcd a b:Nat):Int)=((Rat.divInt a b).den:Nat):=e2;have d:((Int.gcd a b:Nat):Int) ∣ b:=Q3 a b;rw[Zwy d]at e2;obtain⟨x,hx⟩:=d;have g0:=mX (a:=a) (b:=b) (WS hb);rw[Int.ediv_eq_of_eq_mul_right (WS g0) hx]at e2;exact Int.natCast_dvd_natCast.mp ⟨(Int.gcd a b:Nat),by rw[<- e2,Zxv (XY hb),Int.mul_comm];exact hx⟩
theorem U_{S:Int}(hS:S≠0):∀ws:List Int,Ah (ws.map λw=>Rat.divInt w S)=Rat.divInt ws.sum S
 |[]=>by show(0:Rat)=Rat.divInt 0 S;rw[TK]
 |w::ws=>by
  show Rat.divInt w S+Ah (ws.map λw=>Rat.divInt w S)=Rat.divInt (w+ws.sum) S;rw[U_ hS ws,JJ _ _ hS hS];refine(Zyz (mD hS hS) hS).mpr ?_
  grind
theorem R4{n:Nat}(h:0<n):∀k:Nat,Ah (List.replicate k (mkRat 1 n))=mkRat k n
 |0=>by show(0:Rat)=mkRat 0 n;rw[Rat.zero_mkRat]
 |k+1=>by
  rw[List.replicate_succ];show mkRat 1 n+Ah (List.replicate k (mkRat 1 n))=_;rw[R4 h k,Rat.mkRat_add_mkRat _ _ (UT h) (UT h),Rat.mkRat_eq_iff (Nat.mul_ne_zero (UT h) (UT h)) (UT h)]
  push_cast
  grind
theorem adi{n:Nat}(h:0<n):mkRat n n=1:=by
 rw[show(1:Rat)=mkRat 1 1 from rfl,Rat.mkRat_eq_iff (UT h) (Nat.succ_ne_zero _)];lia
theorem one_sub{a b:Int}(hb:b≠0):1-Rat.divInt a b=Rat.divInt (b-a) b:=by
 rw[show(1:Rat)=Rat.divInt 1 1 from rfl,Rat.divInt_sub_divInt _ _ (by decide) hb,JP,Q1]
theorem RK(x:Rat):1-x=⟨(x.den:Int)-x.num,x.den,x.den_nz,by
  have:=x.reduced;show Nat.Coprime ((x.den:Int)-x.num).natAbs x.den;have h:Int.gcd ((x.den:Int)-x.num) (x.den:Int)=1:=by
   rw[Int.gcd_self_sub_left];exact this
  exact h⟩:=by
 rw[Rat.mk_eq_divInt,<- one_sub (jm x),rd]
theorem aa9(x:Rat):frR (1-x)=.tup [.int ((x.den:Int)-x.num),.int x.den]:=by rw[RK]
theorem Wz(x:Rat):(1-x).den=x.den:=by rw[RK]
theorem LDk.sure{m a:Nat}{p:Rat}(ha:a<m)(hp:Pay p):LDk m ⟨0,p,[(a,1)]⟩ :=
 ⟨Nat.zero_lt_succ _,hp,Tx rfl,by simp[ha],by simp;decide,by simp[Ah];exact Rat.add_zero 1,⟨1,by decide,by decide,by simp⟩,λ_=>⟨_,rfl⟩,(λz=>by cases z),(λz=>by cases z)⟩
theorem LDk.toss{m a b q:Nat}{p x:Rat}(ha:a<m)(hb:b<m)(hp:Pay p)(x0:0<=x)(x1:0<=1-x)(q0:0<q)(q1:q<=4000)(hd:x.den ∣ q):LDk m ⟨1,p,[(a,x),(b,1-x)]⟩ :=
 ⟨Tx rfl,hp,Tx rfl,by simp[ha,hb],by simp[x0,x1],by simp[Ah];grind,⟨q,q0,q1,by simp[hd,Wz]⟩,(λz=>by cases z),λ_=>⟨_,_,_,rfl⟩,(λz=>by cases z)⟩
theorem afK{n:Nat}(h:0<n):(mkRat 1 n).den=n:=by
 have e:=U6 h;injection e with e;injection e with _ e;injection e with e _;injection e with e;lia
theorem LDk.even{m:Nat}{p:Rat}{rs:List Nat}(h0:0<rs.length)(h4:rs.length<=4)(hr:∀r∈rs,r<m)(hp:Pay p):LDk m ⟨2,p,rs.map λr=>(r,mkRat 1 rs.length)⟩:=by
 have nn:(0:Rat)<=mkRat 1 rs.length:=by rw[<- Rat.divInt_ofNat];exact Zyx (by decide) (Wp _)
 refine⟨Tx rfl,hp,by rw[ak];exact h4,λx hx=>?_,λx hx=>?_,?_,⟨rs.length,h0,by exact aL h4 (by decide),λx hx=>?_⟩,(λz=>by cases z),(λz=>by cases z),λ_=>⟨rs,rfl⟩⟩
 .obtain⟨r,h,rfl⟩:=YV.mp hx;exact hr r h
 .obtain⟨r,h,rfl⟩:=YV.mp hx;exact nn
 .rw[WP,show((λx:Nat×Rat=>x.2) ∘ λr=>(r,mkRat 1 rs.length))=λ_=>mkRat 1 rs.length from rfl,List.map_const',R4 h0,adi h0]
 .obtain⟨r,h,rfl⟩:=YV.mp hx;rw[afK h0];exact Nat.dvd_refl _
theorem LDk.mix{m:Nat}{p:Rat}{rs:List Nat}{ws:List Int}(hl:ws.length<=4)(hr:∀r∈rs,r<m)(hw:∀w∈ws,0<=w)(le:ws.length<=rs.length)(s0:0<ws.sum)(s1:ws.sum<=4000)(hp:Pay p):LDk m ⟨3,p,(rs.zip ws).map λx=>(x.1,Rat.divInt x.2 ws.sum)⟩:=by
 have m2:(rs.zip ws).map (λx=>x.2)=ws:=List.map_snd_zip le;refine⟨Tx rfl,hp,by rw[ak,VX];lia,λx hx=>?_,λx hx=>?_,?_,⟨ws.sum.toNat,by lia,by lia,λx hx=>?_⟩,(λz=>by cases z),(λz=>by cases z),(λz=>by cases z)⟩
 .obtain⟨r,h,rfl⟩:=YV.mp hx;exact hr _ (VQ h).1
 .obtain⟨r,h,rfl⟩:=YV.mp hx;exact Zyx (hw _ (VQ h).2) (XY s0)
 .rw[WP,show((λx:Nat×Rat=>x.2) ∘ λx:Nat×Int=>(x.1,Rat.divInt x.2 ws.sum))=(λw=>Rat.divInt w ws.sum) ∘ λx:Nat×Int=>x.2 from rfl,<- WP,m2,U_ (WS s0)];have e:=one_sub (a:=ws.sum) (b:=ws.sum) (WS s0);rw[Int.sub_self,TK]at e
  grind
 .obtain⟨r,h,rfl⟩:=YV.mp hx;exact Lw s0
theorem aaV:∀{ws:List Int},(∀w∈ws,0<=w)->0<=ws.sum
 |[],_=>by decide
 |w::ws,h=>by
  have:=h w (aO ..);have:=aaV (ws:=ws) λx hx=>h x (aJ _ hx);rw[QR];lia
theorem Zk{b:Int} : ∀{ws:List Int},(∀w∈ws,w<=b)->ws.sum<=b*ws.length
 |[],_=>by simp
 |w::ws,h=>by
  have:=h w (aO ..);have:=Zk (ws:=ws) λx hx=>h x (aJ _ hx);rw[QR,List.length_cons];have:b*((ws.length+1:Nat):Int)=b*ws.length+b:=by grind
  lia
def Ve:ST:=λts q=>∃(c:Int)(m:Nat),ts=[.int c,.int (m:Nat)]/\0<m/\m<=1000/\∀(r:Nat)(d:LD),r<m->LDk m d->q (.fz (.tup [.int (r:Nat),ldT d]))
theorem adu(F:Fun K FT FT yZ f fd)(T:Txt K mg D)(cJ:OkT P w K mg base 1 fJ fH gQ)(iz:OkT P w K mg base 2 o_ pC xM)(ZM:OkT P w K mg base 3 M6 M9 Yt):cj P w K mg base CX0 4 f fd Gr (spT K Ve):=by
 refine F.okT jB (λts R hP=>by obtain⟨_,_,e,_⟩:=hP;exact e ▸ rfl) λag A outer s H E hr=>?_;refine⟨_,(bC (bM 2 jB.nd (Or.inr rfl) (bI cJ hr.md (by rfl) (bx (qv 0) (bx bA bF))))
  (bC (bM 3 jB.nd (Or.inr rfl) (dH (bH yZ) t_ t_ ["_law_x"] (cH (j9 (qv 2) (g8 bA) (g8 bA))) (fj (i:=0)) cI (bK cC (qv 0) (qv 2))))
  (bC (bM 4 jB.nd (Or.inl rfl) (bK cC (bJ (qv 2) bA) bA))
  (bC (bM 5 jB.nd (Or.inl rfl) (QEB.out (nZ (bO (dN (bO (Dt (bJ (qv 3) bA)) (bO (dN (bO dg (bO dg cQ))) cQ))) cQ))))
  (bC (cG (bY (go_eq hr.units) (qv 4) bA)
  (bC (bM 6 jB.nd (Or.inl rfl) (bK cN bA (bK cC (bJ (qv 2) bA) bA)))
  (bC (bM 7 jB.nd (Or.inl rfl) (bI iz hr.md (by rfl) (bx (bK cC (bJ (qv 2) bA) (bK cN (qv 6) bA)) (bx (qv 6) bF))))
  (bG (bM 5 jB.nd (Or.inl rfl) (QEB.out (nZ (bO (dN (bO (Dt (bJ (qv 3) bA)) (bO (Ks 7) cQ))) (bO (dN (bO (Dt (bJ (qv 3) bA)) (bO (dN (bO (Mf mC (Dt (bJ (qv 7) bA)) (Dt (bJ (qv 7) bA))) (bO (Dt (bJ (qv 7) bA)) cQ))) cQ))) cQ))))))))
  bT)
  (bC (cG (bY (go_eq hr.units) (qv 4) bA)
  (bC (bM 3 jB.nd (Or.inr rfl) (j9 (qv 3) Gg (g8 (bK cN bA (bK cC (bJ (qv 2) bA) bA)))))
  (bG (qK (bH yZ) t_ t_ ["_law_room"] (cH (qv 3)) (fj (i:=0)) cI (cW (bx (qv 0) (bx (cW (bx bA (bx (bV dh (by rfl) T.dY W1 (bx (qv 4) bF)) bF))) bF))) (lR (i:=5) jB.nd rfl (Or.inl rfl)))))
  bT)
  (bC (cG (bY (go_eq hr.units) (qv 4) bA)
  (bC (g_ 8 jB.nd (Or.inr rfl) (dH (bH yZ) t_ t_ ["_law_x"] (cH (j9 (qv 2) (g8 bA) (g8 (bK cN bA (bK cC (bJ (qv 2) bA) bA))))) (fj (i:=0)) cI (bK cC (qv 0) (bJ (d_ (bx bA (bx bA (bx bA (bx bA bF))))) (bK cC (bJ (qv 3) bA) bA)))))
  (bC (Dv 8 (bK cN (uM 8 (zG bA)) bA) (zG bA))
  (bG (GX 8 (qK (bH yZ) t_ t_ ["_law_k"] (cY (by rfl) T.dO (bx (bV dh (by rfl) T.dY W1 (bx (qv 8) bF)) bF)) (fj (i:=0)) cI (cW (bx (bJ (qv 4) (qv 0)) (bx (bI iz hr.md (by rfl) (bx (bJ (qv 9) (qv 0)) (bx (bV (Oj rfl) (by rfl) T.U9 boot_sum (bx (qv 9) bF)) bF))) bF))) (lR (i:=5) jB.nd rfl (Or.inl rfl)))))))
  bT)
  (bG (bQ (cW (bx (bK cC (bJ (qv 2) bA) (qv 1)) (bx (cW (bx (qv 4) (bx (bI ZM hr.md (by rfl) (bx (qv 0) (bx (bJ (qv 2) bA) (bx (bJ (qv 2) bA) bF)))) (bx (qv 5) bF)))) bF)))))))))))),?_⟩
 rintro _ R ⟨c,m,rfl,m0,m1,q⟩;have mz:(0:Int)<(m:Nat):=by lia
 have sl:∀k,0<=strm c k/\strm c k<2000000000:=iI c;obtain⟨rm,g7,rme⟩ : ∃rm:Nat->Nat,(∀k,rm k<m)/\∀k,strm c k%(m:Nat)=(rm k:Nat):=⟨λk=>(strm c k%(m:Nat)).toNat,λk=>by
  have:=YY (strm c k) mz;have:=Z3 (strm c k) (show((m:Nat):Int)≠0 by exact WS mz);show(strm c k%(m:Nat)).toNat<m;lia,λk=>by
  have:=Z3 (strm c k) (show((m:Nat):Int)≠0 by exact WS mz);show _=((strm c k%(m:Nat)).toNat:Int);lia⟩
 obtain⟨so,eso,hso⟩ : ∃so:Nat,strm c 6%4=(so:Nat)/\so<4:=⟨(strm c 6%4).toNat,by have:=sl 6;lia,by have:=sl 6;lia⟩;refine sq7 (λo=>∃(x3 x6 x7 x8:OT)(prs:List (Nat×Rat)),o=[.fz (.int c),.fz (.int (m:Nat)),.fz (.lst ((jO c 14).map L2.T.int)),x3,.fz (.int (so:Nat)),.fz (.lst (prs.map nwT)),x6,x7,x8]/\∀p,Pay p->LDk m ⟨so,p,prs⟩) ?_ λY go=>?_
 .rintro _ ⟨x3,x6,x7,x8,prs,rfl,hk⟩;refine⟨_,dJ (k:=13) (by decide),mz,_,dJ (k:=0) (by decide),_,dJ (k:=1) (by decide),c,_,_,rfl,sl 0,sl 1,λp hp=>?_⟩;have:=q (rm 13) ⟨so,p,prs⟩ (g7 13) (hk p hp);rw[<- rme]at this;exact this
 .refine⟨c,14,rfl,by decide,?_⟩;have ec:gG ((jO c 14).map L2.T.int) (some 2) (some 6)=[2,3,4,5].map (λk=>L2.T.int (strm c k)):=rfl;show(gG ((jO c 14).map L2.T.int) (some 2) (some 6)).length<=sizeLine/\jd _ _ _ _ (gG ((jO c 14).map L2.T.int) (some 2) (some 6)) _;rw[ec];refine⟨show 4<=sizeLine by decide,comp_map (λk=>L2.T.int (strm c k)) (λk=>.int (rm k:Nat)) [2,3,4,5] (λk _ N M hN=>⟨mz,by rw[rme];exact hN⟩) ⟨_,dJ (k:=6) (by decide),by decide,?_⟩⟩;dsimp only[frz];rw[eso];refine⟨_,rfl,?_⟩;obtain rfl|rfl|rfl|rfl:so=0\/so=1\/so=2\/so=3:=by lia
  .exact go _ ⟨_,_,_,_,[(rm 2,1)],rfl,λp hp=>.sure (g7 2) hp⟩
  .have x8:=sl 8;have x9:=sl 9;refine⟨_,dJ (k:=8) (by decide),by decide,_,dJ (k:=9) (by decide),by lia,_,_,rfl,by lia,eV (by lia),_,rfl,_,rfl,?_⟩;obtain⟨b,eb,b0,b1⟩ : ∃b:Int,1+strm c 8%6=b/\0<b/\b<=6:=⟨_,rfl,by lia,by lia⟩;rw[eb];have a0:=Z3 (strm c 9) (show b+1≠0 by lia);have a1:=YY (strm c 9) (show 0<b+1 by exact Int.lt_trans b0 (Int.lt_succ _));generalize strm c 9%(b+1)=a at a0 a1 ⊢;have nn:0<=Rat.divInt a b:=Zyx a0 (XY b0);have l1:0<=1-Rat.divInt a b:=by rw[one_sub (WS b0)];exact Zyx (by omega) (XY b0)
   have dd:=Lw (a:=a) b0;generalize Rat.divInt a b=x at nn l1 dd ⊢;refine go _ ⟨.fz (.lst ([2,3,4,5].map λk=>L2.T.int (rm k:Nat))),.fz (.int b),.fz (frR x),.und,[(rm 2,x),(rm 3,1-x)],?_,λp hp=>.toss (g7 2) (g7 3) hp nn l1 (show 0<b.toNat by lia) (by lia) dd⟩;rw[show[(rm 2,x),(rm 3,1-x)].map nwT=[.tup [.int (rm 2:Nat),frR x],.tup [.int (rm 3:Nat),frR (1-x)]]from rfl,aa9]
   rfl
  .have x7:=sl 7;obtain⟨n,en,n0,n4⟩ : ∃n:Nat,1+strm c 7%4=(n:Nat)/\0<n/\n<=4:=⟨(1+strm c 7%4).toNat,by lia,by lia,by lia⟩;refine⟨_,dJ (k:=7) (by decide),by decide,?_⟩;show(gG ([2,3,4,5].map λk=>L2.T.int (rm k:Nat)) none (some (1+strm c 7%4))).length<=sizeLine/\jd _ _ _ _ (gG ([2,3,4,5].map λk=>L2.T.int (rm k:Nat)) none (some (1+strm c 7%4))) _;have ec2:gG ([2,3,4,5].map λk=>L2.T.int (rm k:Nat)) none (some (1+strm c 7%4))=(([2,3,4,5].map rm).take n).map λr:Nat=>L2.T.int (r:Nat):=by
    rw[en,ada,List.map_take,WP]
    rfl
   have rl:(([2,3,4,5].map rm).take n).length=n:=by rw[aY];show min n 4=n;lia
   have rlt:∀r∈([2,3,4,5].map rm).take n,r<m:=λr hr=>by
    obtain⟨k,_,rfl⟩:=YV.mp (List.mem_of_mem_take hr);exact g7 k
   rw[ec2];generalize([2,3,4,5].map rm).take n=rs at rl rlt ⊢;have r0:0<rs.length:=by lia
   have e2:(rs.map λr=>(r,mkRat 1 rs.length)).map nwT=rs.map λr=>nwT (r,mkRat 1 rs.length):=by rw[WP];rfl
   refine⟨by rw[ak];exact aL (show _<=4 by exact aL (WG rl) n4) (by decide),comp_map (λr:Nat=>L2.T.int (r:Nat)) (λr=>nwT (r,mkRat 1 rs.length)) rs (λr hr N M hN=>?_) (go _ ⟨.fz (.lst (rs.map λr:Nat=>L2.T.int (r:Nat))),.und,.und,.und,rs.map λr=>(r,mkRat 1 rs.length),by rw[e2];rfl,λp hp=>.even r0 (aL (WG rl) n4) rlt hp⟩)⟩;rw[show nwT (r,mkRat 1 rs.length)=.tup [.int (r:Nat),frR (mkRat 1 rs.length)]from rfl,U6 r0,<- ak (f:=λr:Nat=>L2.T.int (r:Nat))]at hN;exact hN
  .have x7:=sl 7;have x12:=sl 12;obtain⟨n,en,n0,n4⟩ : ∃n:Nat,9+strm c 7%4=((8+n:Nat):Int)/\0<n/\n<=4:=⟨(1+strm c 7%4).toNat,by lia,by lia,by lia⟩;refine⟨_,dJ (k:=7) (by decide),by decide,?_⟩;show(gG ((jO c 14).map L2.T.int) (some 8) (some (9+strm c 7%4))).length<=sizeLine/\jd _ _ _ _ (gG ((jO c 14).map L2.T.int) (some 8) (some (9+strm c 7%4))) _;have ec3:gG ((jO c 14).map L2.T.int) (some 8) (some (9+strm c 7%4))=(((jO c 14).drop 8).take n).map L2.T.int:=by
    rw[en,Cm];have:=Ws (ys:=jO c 14) (a:=8) (b:=8+n) (X2 _ _) (by rw[ak,WJ];lia);rw[show 8+n-8=n by exact JU _ _]at this;exact ZH (List.map L2.T.int) this
   have ul:(((jO c 14).drop 8).take n).length=n:=by rw[aY,TW,ak,WJ];lia
   rw[ec3];generalize((jO c 14).drop 8).take n=us at ul ⊢;obtain⟨d,hd,ed⟩:=X7 [3,3,3,1000] L2.T.int (i:=strm c 12%4) (Z3 _ (by decide)) (by show strm c 12%4<4;exact YY _ (by decide));have d0:0<d/\d<=1000:=by simp at hd;lia
   refine⟨by rw[ak];exact aL (show _<=4 by exact aL (WG ul) n4) (by decide),comp_map L2.T.int (λx=>L2.T.int (x%d)) us (λx hx N M hN=>⟨_,dJ (k:=12) (by decide),by decide,_,ed,d0.1,hN⟩) ?_⟩;have em:us.map (λx=>L2.T.int (x%d))=(us.map (· % d)).map L2.T.int:=by rw[WP];rfl
   rw[em];have wl:(us.map (· % d)).length=n:=by rw[ak];exact ul
   have ww:∀w∈us.map (· % d),0<=w/\w<1000:=λw hw=>by
    obtain⟨x,_,rfl⟩:=YV.mp hw;have:=Z3 x (show d≠0 by lia);have:=YY x d0.1;lia
   generalize us.map (· % d)=ws at wl ww ⊢;obtain⟨vs,v,rfl⟩ : ∃vs v,ws=vs++[v]:=by
    rcases List.eq_nil_or_concat ws with rfl|⟨vs,v,e⟩
    .cases wl;cases n0
    .exact⟨vs,v,by rw[e,List.concat_eq_append]⟩
   rw[aA,List.length_singleton]at wl;have ixl:ixT ((vs++[v]).map L2.T.int) (-1)=some (.int v):=by
    show nth ((vs++[v]).map L2.T.int).reverse 0=_;rw[bf,List.reverse_append]
    rfl
   have ixn:ixN ((vs++[v]).map L2.T.int).length (-1)=some vs.length:=by
    unfold ixN;rw[ak,aA,List.length_singleton];rw[ZZ (by decide),ZY (by lia)]
    congr 1
    lia
   refine⟨_,ixl,_,ixn,?_⟩;have es:((vs++[v]).map L2.T.int).set vs.length (.int (v+1))=(vs++[v+1]).map L2.T.int:=by
    rw[bf,bf,List.set_append_right _ _ (by rw[ak];exact aG _),ak,Zzy]
    rfl
   dsimp only[frz];rw[es];have km:(vs++[v+1]).length=n:=by rw[aA,List.length_singleton];exact wl
   have kl:∀w∈vs++[v+1],0<=w/\w<=1000:=λw hw=>by
    rcases Y1.mp hw with z|z
    .have:=ww w (UH _ z);lia
    .have:=ww v (aP _ (YR.mpr rfl));rw[YR.mp z];lia
   have s0:0<(vs++[v+1]).sum:=by
    have:0<=vs.sum:=aaV λw hw=>(ww w (UH _ hw)).1;have:=(ww v (aP _ (YR.mpr rfl))).1;rw[List.sum_append];show 0<vs.sum+(v+1+0);lia
   have s1:(vs++[v+1]).sum<=1000*(vs++[v+1]).length:=Zk λw hw=>(kl w hw).2;generalize vs++[v+1]=us at km kl s0 s1 ⊢;have ul':(us.map L2.T.int).length=us.length:=ak ..;have r4:∀k,k<4->([2,3,4,5].map rm)[k]?=some (rm (k+2)):=λk hk=>by
    obtain rfl|rfl|rfl|rfl:k=0\/k=1\/k=2\/k=3:=by lia
    all_goals rfl
   have z:∀k(hk:k<us.length),((([2,3,4,5].map rm).zip us).map λx=>(x.1,Rat.divInt x.2 us.sum))[k]?=some (rm (k+2),Rat.divInt (us.getD k 0) us.sum):=λk hk=>by
    rw[aq,List.getElem?_zip_eq_some (z:=(rm (k+2),us.getD k 0)) |>.mpr ⟨r4 k (by lia),by rw[au,aj hk];rfl⟩]
    rfl
   have ep:(List.range (us.map L2.T.int).length).map (λk=>nwT (rm (k+2),Rat.divInt (us.getD k 0) us.sum))=((([2,3,4,5].map rm).zip us).map λx=>(x.1,Rat.divInt x.2 us.sum)).map nwT:=by
    refine Zzs λk=>?_;rw[ul'];by_cases hk:k<us.length
    .rw[aq,Up hk,aq,z k hk]
     rfl
    .rw[aM (by rw[ak,WJ];exact VU hk),aM (by rw[ak,ak,VX];omega)]
   refine⟨⟨by lia,by lia⟩,by rw[rng,ak,WJ];exact aL (show _<=4 by lia) (by decide),K6 (λk=>nwT (rm (k+2),Rat.divInt (us.getD k 0) us.sum)) (us.map L2.T.int).length (λk hk N M hN=>?_) (go _ ⟨.fz (.lst ([2,3,4,5].map λk=>L2.T.int (rm k:Nat))),.und,.und,.fz (.lst (us.map L2.T.int)),(([2,3,4,5].map rm).zip us).map λx=>(x.1,Rat.divInt x.2 us.sum),by rw[ep];rfl,λp hp=>LDk.mix (rs:=[2,3,4,5].map rm) (aL (WG km) n4) (λr hr=>?_) (λw hw=>(kl w hw).1) (show us.length<=4 by exact aL (WG km) n4) s0 (by lia) hp⟩)⟩
   .rw[ul']at hk;have ek:us[k]?=some (us.getD k 0):=by rw[au,aj hk];rfl
    have e4:=r4 k (by lia);rw[aq]at e4;refine⟨.int (rm (k+2):Nat),?_,_,cZ ek,us,rfl,_,_,rfl,s0,eV (by lia),hN⟩;show nth _ k=_;rw[rR,aq];cases z2:([2,3,4,5] : List Nat)[k]? with
    |none=>rw[z2]at e4;cases e4
    |some j=>rw[z2]at e4;injection e4 with e4;show some (L2.T.int (rm j:Nat))=_;rw[show rm j=rm (k+2)from e4]
   .obtain⟨k,_,rfl⟩:=YV.mp hr;exact g7 k
structure DSk(m mo:Nat)(ae:List (List LD)):Prop where
 len:ae.length=m
 few:∀ds∈ae,ds.length<=mo
 ok:∀ds∈ae,∀d∈ds,LDk m d
abbrev dsT(ae:List (List LD)):List (List T):=ae.map λds=>ds.map ldT
abbrev yE(ae:List (List LD)):T:=.lst (ae.map λds=>.lst (ds.map ldT))
theorem abz(ae:List (List LD)):frz (.l2 (dsT ae))=yE ae:=by
 show L2.T.lst ((ae.map λds=>ds.map ldT).map L2.T.lst)=_;rw[WP]
 rfl
theorem DSk.add{m mo:Nat}{ae:List (List LD)}(h:DSk m mo ae){k:Nat}{ds:List LD}{d:LD}(e:ae[k]?=some ds)(lt:ds.length<mo)(hd:LDk m d):DSk m mo (ae.set k (ds++[d])):=by
 refine⟨by rw[VS,h.len],λx hx=>?_,λx hx y hy=>?_⟩
 .rcases List.mem_or_eq_of_mem_set hx with z|rfl
  .exact h.few x z
  .rw[aA,List.length_singleton];exact lt
 .rcases List.mem_or_eq_of_mem_set hx with z|rfl
  .exact h.ok x z y hy
  .rcases Y1.mp hy with z|z
   .exact h.ok ds (aC e) y z
   .rw[YR.mp z];exact hd
theorem afi{ae:List (List LD)}{r:Nat}{ds:List LD}(e:ae[r]?=some ds):ixT ((dsT ae).map L2.T.lst) (r:Nat)=some (.lst (ds.map ldT)):=by
 show nth ((dsT ae).map L2.T.lst) r=_;rw[rR,aq,aq,e];rfl
def Q5:ST:=λts q=>∃(ns:List Int)(a m mo:Nat),ts=[scT ns,.int (a:Nat),.int (m:Nat),.int (mo:Nat)]/\ns.length<=100/\m<=300/\mo<=1000/\∀ae:List (List LD),DSk m mo ae->q (.l2 (dsT ae))
theorem YF(F:Fun K C_ C_ Gh f fd)(T:Txt K mg D)(iw:OkT P w K mg base 1 uy uI CV)(cJ:OkT P w K mg base 1 fJ fH gQ)(Ss:OkT P w K mg base 4 FT Gr Ve):cj P w K mg base CX0 5 f fd A_ (spT K Q5):=by
 refine F.okT jw (λts R hP=>by obtain⟨_,_,_,_,e,_⟩:=hP;exact e ▸ rfl) λag A outer s H E hr=>?_;refine⟨_,(bC (acr (bH Gh) VJ ["_law_script","_law_at","_law_many","_law_most","_law_rooms_here","_law_first","_law_cells","?_law_k","_law_cell_here","_law_room","_law_door_here"] ["_law_k"] (cY (by rfl) T.dO (bx (qv 2) bF)) (fj (i:=0)) cI (d_ bF) (lR (i:=4) jw.nd rfl (Or.inl rfl)))
  (bC (cG (bY Ek (qv 2) bA)
  (bC (bM 5 jw.nd (Or.inl rfl) (bI iw hr.md (by rfl) (bx (qv 0) (bx (qv 1) bF))))
  (bC (bM 6 jw.nd (Or.inl rfl) (bI cJ hr.md (by rfl) (bx (qv 5) (bx (bK cC (bK cC (bK Vw (qv 5) bA) bA) (bK cN (bK cB bA (qv 2)) bA)) bF))))
  (bC (bM 6 jw.nd (Or.inl rfl) (bK cN (qv 6) (j9 (qv 0) (g8 (bK cN (qv 1) bA)) (g8 (bK cN (qv 1) bA)))))
  (bG (dG VZ rfl (cY (by rfl) T.dO (bx (bV dh (by rfl) T.dY W1 (bx (qv 6) bF)) bF)) (b_ (n:=99) 7 jw.nd (Or.inl rfl))
  (bC (bM 8 jw.nd (Or.inl rfl) (bJ (qv 6) (qv 7)))
  (bC (cG (QW.qt (Jh (bY (go_eq hr.units) (bK cC (qv 5) bA) bA) (Cu (bY (go_eq hr.units) (bK cC (qv 7) bA) bA))))
  (bG (bM 8 jw.nd (Or.inl rfl) (bK cC (qv 8) bA)))
  bT)
  (bC (T6 (bI Ss hr.md (by rfl) (bx (qv 8) (bx (qv 2) bF))) (fu (n:=2) rfl (bR (b_ (n:=99) 9 jw.nd (Or.inl rfl)) (bR (b_ (n:=99) 10 jw.nd (Or.inl rfl)) dF))))
  (bG (cG (Uy 4 (bY vQ (bV dh (by rfl) T.dY W1 (bx (bJ (qv 4) (qv 9)) bF)) (qv 3)))
  (bG (ac4 4 (qv 9) (qv 10)))
  bT))))))))))
  bT)
  (bG (jE 4)))),?_⟩
 rintro _ R ⟨ns,a,m,mo,rfl,nl,m1,mo1,q⟩;have e0:(List.range m).map (λ_=>([] : List L2.T))=dsT (List.replicate m []):=by
  unfold dsT;rw[List.map_replicate,List.map_const',WJ]
  rfl
 have h0:DSk m mo (List.replicate m []):=⟨aN,λx hx=>by rw[(List.mem_replicate.mp hx).2];exact aZ _,λx hx y hy=>by rw[(List.mem_replicate.mp hx).2]at hy;cases hy⟩;refine⟨⟨by lia,by lia⟩,by rw[rng,ak,WJ];exact aL m1 (by decide),Rj (λ_=>[]) m (λk hk N M hN=>hN) ?_⟩;rw[e0];refine swD (λhm=>?_) λhm=>q _ h0;refine⟨ns,a,rfl,nl,?_⟩;dsimp only[frz];generalize ns.getD a 0=fi;have mz:(0:Int)<3*(m:Nat)+1:=by lia
 obtain⟨n,en,n1⟩ : ∃n:Nat,fi*48271%104729%(3*(m:Nat)+1)=(n:Nat)/\n<=3*m:=⟨(fi*48271%104729%(3*(m:Nat)+1)).toNat,by
  have:=Z3 (fi*48271%104729) (show(3*(m:Nat)+1:Int)≠0 by exact WS mz);lia,by
  have:=YY (fi*48271%104729) mz;have:=Z3 (fi*48271%104729) (show(3*(m:Nat)+1:Int)≠0 by exact WS mz);lia⟩
 refine⟨.inr (by constructor<;>decide),by decide,⟨eV (by decide),eV (by lia)⟩,mz,fi,n,by rw[en];rfl,by lia,?_⟩;have ec:(jO fi n).map L2.T.int++gG (ns.map L2.T.int) (some ((a:Nat)+1)) (some ((a:Nat)+25))=(jO fi n++gG ns (some ((a:Nat)+1)) (some ((a:Nat)+25))).map L2.T.int:=by rw[Cm,bf]
 have cl:(gG ns (some ((a:Nat)+1)) (some ((a:Nat)+25))).length<=100:=by
  unfold gG;rw[aY,TW];lia
 show((jO fi n).map L2.T.int).length+(gG (ns.map L2.T.int) (some ((a:Nat)+1)) (some ((a:Nat)+25))).length<=sizeLine/\_;refine⟨?_,?_⟩
 .rw[Cm,ak,ak,ak,WJ];exact aL (show _<=1100 by lia) (by decide)
 dsimp only[frz];rw[ec];have sl:(jO fi n++gG ns (some ((a:Nat)+1)) (some ((a:Nat)+25))).length<=1100:=by rw[aA,ak,WJ];lia
 generalize jO fi n++gG ns (some ((a:Nat)+1)) (some ((a:Nat)+25))=cs at sl ⊢;refine⟨⟨by rw[ak];lia,by rw[ak];lia⟩,jr (λk o=>∃(ae:List (List LD))(x7 x8 x9 eQ:OT),o=[.fz (scT ns),.fz (.int (a:Nat)),.fz (.int (m:Nat)),.fz (.int (mo:Nat)),.l2 (dsT ae),.fz (.int fi),.fz (.lst (cs.map L2.T.int)),x7,x8,x9,eQ]/\DSk m mo ae) ⟨_,_,_,_,_,rfl,h0⟩ ?_ ?_⟩
 .rintro k _ hk ⟨ae,x7,x8,x9,eQ,rfl,h⟩;rw[ak]at hk;dsimp only[hName];refine sq2 (λo=>∃c:Int,o=[.fz (scT ns),.fz (.int (a:Nat)),.fz (.int (m:Nat)),.fz (.int (mo:Nat)),.l2 (dsT ae),.fz (.int fi),.fz (.lst (cs.map L2.T.int)),.fz (.int (k:Nat)),.fz (.int c),x9,eQ]) ?_ λY go=>?_
  .rintro _ ⟨c,rfl⟩;refine⟨c,m,rfl,by lia,by exact aL m1 (by decide),λr d hr hd=>⟨rfl,?_⟩⟩;have lr:r<ae.length:=by rw[h.len];exact hr
   have er:=aj lr;refine⟨_,afi er,swD (λlt=>?_) λ_=>⟨ae,.fz (.int (k:Nat)),.fz (.int c),.fz (.int (r:Nat)),.fz (ldT d),rfl,h⟩⟩;have lt:((ae[r].map ldT).length:Int)<(mo:Nat):=lt;rw[ak]at lt;refine⟨r,ae[r].map ldT,?_,by rw[aq,er];rfl,by rw[ak];exact aR (show _<1001 by lia) (by decide),ae.set r (ae[r]++[d]),.fz (.int (k:Nat)),.fz (.int c),.fz (.int (r:Nat)),.fz (ldT d),?_,h.add er (by lia) hd⟩
   .unfold ixN;rw[ak,ZY (Wp _),ZY (by lia)]
    rfl
   .rw[show dsT (ae.set r (ae[r]++[d]))=(dsT ae).set r (ae[r].map ldT++[ldT d])by
     unfold dsT;rw[List.map_set,bf]
     rfl]
    rfl
  .refine⟨_,cZ (aj hk),by decide,swD (λh1=>⟨by decide,swD (λh2=>⟨by decide,go _ ⟨_,rfl⟩⟩) λh2=>go _ ⟨_,rfl⟩⟩) λh1=>go _ ⟨_,rfl⟩⟩
 .rintro _ ⟨ae,x7,x8,x9,eQ,rfl,h⟩;exact q ae h
def zO(ws:List (Nat×Rat))(p:Nat×Rat):List (Nat×Rat):=if(ws.any λx=>decide (x.1=p.1))=true then ws.map (λx=>if x.1=p.1 then(x.1,x.2+p.2)else x)else ws++[p]
def Aa(ps:List (Nat×Rat)):List (Nat×Rat):=ps.foldl zO []
def uX(ps:List (Nat×Rat)):List (Nat×Rat):=(Aa ps).filter λp=>!decide (p.2=0)
noncomputable abbrev nmP(ns:Φ)(p:Nat×Rat):Str×Rat:=(ns.getD p.1 ⟨#[]⟩,p.2)
theorem MP{ns:Φ}(nd:ns.Nodup){i j:Nat}(hi:i<ns.length)(hj:j<ns.length):(ns.getD i ⟨#[]⟩=ns.getD j ⟨#[]⟩)↔i=j:=by
 constructor
 .intro h;rw[au,au,aj hi,aj hj]at h;rcases Nat.lt_trichotomy i j with l|l|l
  .exact absurd h ((List.pairwise_iff_getElem.mp nd) i j hi hj l)
  .exact l
  .exact absurd h.symm ((List.pairwise_iff_getElem.mp nd) j i hj hi l)
 .intro h;rw[h]
theorem agk{ns:Φ}(nd:ns.Nodup){ws:List (Nat×Rat)}{p:Nat×Rat}(hw:∀w∈ws,w.1<ns.length)(hp:p.1<ns.length):addW (ws.map (nmP ns)) (nmP ns p)=(zO ws p).map (nmP ns):=by
 have an:((ws.map (nmP ns)).any λx=>decide (x.1=(nmP ns p).1))=ws.any λx=>decide (x.1=p.1):=by
  rw[List.any_map];refine Bool.eq_iff_iff.mpr ⟨λh=>?_,λh=>?_⟩
  .obtain⟨x,hx,e⟩:=List.any_eq_true.mp h;exact List.any_eq_true.mpr ⟨x,hx,Zs ((MP nd (hw x hx) hp).mp (of_decide_eq_true e))⟩
  .obtain⟨x,hx,e⟩:=List.any_eq_true.mp h;exact List.any_eq_true.mpr ⟨x,hx,Zs ((MP nd (hw x hx) hp).mpr (of_decide_eq_true e))⟩
 unfold addW zO;rw[an];split
 .rw[WP,WP];refine U1 λx hx=>?_;show(if(nmP ns x).1=(nmP ns p).1 then _ else _)=nmP ns (if x.1=p.1 then _ else _);by_cases e:x.1=p.1
  .rw[ZY e,ZY ((MP nd (hw x hx) hp).mpr e)]
  .rw[ZZ e,ZZ λz=>e ((MP nd (hw x hx) hp).mp z)]
 .rw[bf];rfl
theorem FZ{ws:List (Nat×Rat)}{p w:Nat×Rat}(h:w∈zO ws p):(w∈ws/\w.1≠p.1)\/w=p\/∃x∈ws,x.1=p.1/\w=(x.1,x.2+p.2):=by
 unfold zO at h;split at h
 .obtain⟨x,hx,rfl⟩:=YV.mp h;by_cases e:x.1=p.1
  .rw[ZY e];exact .inr (.inr ⟨x,hx,e,rfl⟩)
  .rw[ZZ e];exact .inl ⟨hx,e⟩
 .rename_i n
  rcases Y1.mp h with z|z
  .exact .inl ⟨z,λe=>n (List.any_eq_true.mpr ⟨w,z,Zs e⟩)⟩
  .exact .inr (.inl (YR.mp z))
theorem VN{ns:Φ}(nd:ns.Nodup){ps:List (Nat×Rat)}(h:∀p∈ps,p.1<ns.length):jA (ps.map (nmP ns))=(Aa ps).map (nmP ns):=by
 suffices H:∀(ps ws:List (Nat×Rat)),(∀p∈ps,p.1<ns.length)->(∀w∈ws,w.1<ns.length)->(ps.map (nmP ns)).foldl addW (ws.map (nmP ns))=(ps.foldl zO ws).map (nmP ns)from H ps [] h λ_ z=>(nomatch z)
 intro ps
 induction ps with
 |nil=>exact λ_ _ _=>rfl
 |cons p ps ih =>
  intro ws hp hw;rw[List.map_cons,List.foldl_cons,List.foldl_cons,agk nd hw (hp p (aO ..))];refine ih _ (λq hq=>hp q (aJ _ hq)) λw hm=>?_;rcases FZ hm with⟨z,_⟩|rfl|⟨x,hx,_,rfl⟩
  .exact hw w z
  .exact hp w (aO ..)
  .exact hw x hx
theorem acX{ns:Φ}(nd:ns.Nodup){ps:List (Nat×Rat)}(h:∀p∈ps,p.1<ns.length):Bp (ps.map (nmP ns))=(uX ps).map (nmP ns):=by
 unfold Bp uX;rw[VN nd h,List.filter_map]
 rfl
theorem uq{r:Rat}{q:Nat}(hq:0<q):r.den ∣ q↔∃x:Int,r=Rat.divInt x q:=by
 constructor
 .rintro⟨k,rfl⟩;refine⟨r.num*k,?_⟩;have hk:((k:Nat):Int)≠0:=λz=>by rw[show k=0 by lia]at hq;lia
  conv=>lhs;rw[<- rd r]
  refine(Zyz (jm r) (by push_cast;exact mD (jm r) hk)).mpr ?_
  push_cast
  grind
 .rintro⟨x,rfl⟩;have:=Lw (a:=x) (b:=(q:Nat)) (by lia);exact this
theorem Hi{a b:Rat}{q:Nat}(hq:0<q)(ha:a.den ∣ q)(hb:b.den ∣ q):(a+b).den ∣ q:=by
 obtain⟨x,rfl⟩:=(uq hq).mp ha;obtain⟨y,rfl⟩:=(uq hq).mp hb;have h0:((q:Nat):Int)≠0:=by lia
 refine(uq hq).mpr ⟨x+y,?_⟩;rw[JJ _ _ h0 h0];refine(Zyz (mD h0 h0) h0).mpr ?_
 grind
theorem den_mul{a b:Rat}{q r:Nat}(hq:0<q)(hr:0<r)(ha:a.den ∣ q)(hb:b.den ∣ r):(a*b).den ∣ q*r:=by
 obtain⟨x,rfl⟩:=(uq hq).mp ha;obtain⟨y,rfl⟩:=(uq hr).mp hb;refine(uq (QQ hq hr)).mpr ⟨x*y,?_⟩;rw[T2]
 push_cast
 rfl
theorem abj{a:Rat} : (-a).den=a.den:=rfl
structure JnI(m q:Nat)(as ws:List (Nat×Rat)):Prop where
 nd:(ws.map (·.1)).Nodup
 lt:∀w∈ws,w.1<m
 nn:∀w∈ws,0<=w.2
 dn:∀w∈ws,w.2.den ∣ q
 sum:∀y:Nat->Rat,dw ws y=dw as y
 few:ws.length<=as.length
theorem Ja(as bs:List (Nat×Rat))(y:Nat->Rat):dw (as++bs) y=dw as y+dw bs y:=by
 induction as with
 |nil=>show dw bs y=0+_;rw[Rat.zero_add]
 |cons a as ih=>rw[List.cons_append,cT,cT,ih,Rat.add_assoc]
theorem Uw(p:Nat×Rat)(y:Nat->Rat):dw [p] y=p.2*y p.1:=by rw[cT];show _+0=_;rw[Rat.add_zero]
theorem afr{ws:List (Nat×Rat)}{p:Nat×Rat}(nd:(ws.map (·.1)).Nodup)(y:Nat->Rat):dw (zO ws p) y=dw ws y+p.2*y p.1:=by
 unfold zO;split
 .rename_i h
  induction ws with
  |nil=>cases h
  |cons x ws ih =>
   obtain⟨n1,n2⟩:=List.nodup_cons.mp nd;rw[List.map_cons,cT,cT];by_cases e:x.1=p.1
   .rw[ZY e];have rest:ws.map (λx=>if x.1=p.1 then(x.1,x.2+p.2)else x)=ws:=by
     conv=>rhs;rw[<- List.map_id ws]
     refine U1 λz hz=>?_;rw[ZZ λw=>n1 (YV.mpr ⟨z,hz,w.trans e.symm⟩)]
     rfl
    rw[rest,<- e];show(x.2+p.2)*y x.1+dw ws y=_
    grind
   .rw[ZZ e,ih n2 (by
     rw[List.any_cons,Zp e,Bool.false_or]at h;exact h)]
    grind
 .rw[Ja,Uw]
theorem afn{ws:List (Nat×Rat)}{p:Nat×Rat}(nd:(ws.map (·.1)).Nodup):((zO ws p).map (·.1)).Nodup:=by
 unfold zO;by_cases h:(ws.any λx=>decide (x.1=p.1))=true
 .rw[ZY h,WP];rw[show ws.map ((λx=>x.1) ∘ λx=>if x.1=p.1 then(x.1,x.2+p.2)else x)=ws.map (·.1)from U1 λx _=>by show(if x.1=p.1 then(x.1,x.2+p.2)else x).1=x.1;split<;>rfl];exact nd
 .rw[ZZ h,bf];refine List.nodup_append.mpr ⟨nd,by simp,λa ha b hb z=>h ?_⟩;obtain⟨x,hx,rfl⟩:=YV.mp ha;rw[List.map_singleton,YR]at hb;exact List.any_eq_true.mpr ⟨x,hx,Zs (z.trans hb)⟩
theorem aco{m q:Nat}(hq:0<q){as ws:List (Nat×Rat)}{p:Nat×Rat}(hp:p.1<m/\0<=p.2/\p.2.den ∣ q)(h:JnI m q as ws):JnI m q (as++[p]) (zO ws p):=by
 refine⟨afn h.nd,λw hw=>?_,λw hw=>?_,λw hw=>?_,λy=>by rw[afr h.nd,h.sum,Ja,Uw],?_⟩
 .rcases FZ hw with⟨z,_⟩|rfl|⟨x,hx,_,rfl⟩
  .exact h.lt w z
  .exact hp.1
  .exact h.lt x hx
 .rcases FZ hw with⟨z,_⟩|rfl|⟨x,hx,_,rfl⟩
  .exact h.nn w z
  .exact hp.2.1
  .have:=h.nn x hx;have:=hp.2.1;show 0<=x.2+p.2
   grind
 .rcases FZ hw with⟨z,_⟩|rfl|⟨x,hx,_,rfl⟩
  .exact h.dn w z
  .exact hp.2.2
  .exact Hi hq (h.dn x hx) hp.2.2
 .have:=h.few;unfold zO;split
  .rw[ak,aA];exact aL this (X2 _ _)
  .rw[aA,aA];simp;omega
theorem Kc{m q:Nat}(hq:0<q):∀{ps:List (Nat×Rat)},(∀p∈ps,p.1<m/\0<=p.2/\p.2.den ∣ q)->JnI m q ps (Aa ps):=by
 intro ps h
 suffices H:∀(ps as ws:List (Nat×Rat)),(∀p∈ps,p.1<m/\0<=p.2/\p.2.den ∣ q)->JnI m q as ws->JnI m q (as++ps) (ps.foldl zO ws)from H ps [] [] h ⟨.nil,λ_ z=>(nomatch z),λ_ z=>(nomatch z),λ_ z=>(nomatch z),λ_=>rfl,aG _⟩
 intro ps
 induction ps with
 |nil=>intro as ws _ h;rw[List.append_nil];exact h
 |cons p ps ih =>
  intro as ws hp h;have:=ih (as++[p]) (zO ws p) (λx hx=>hp x (aJ _ hx)) (aco hq (hp p (aO ..)) h);rw[WZ]at this;exact this
theorem Dc(y:Nat->Rat):∀ws:List (Nat×Rat),dw (ws.filter λp=>!decide (p.2=0)) y=dw ws y
 |[]=>rfl
 |w::ws=>by
  by_cases e:w.2=0
  .rw[Zyr (by rw[Zs e];decide),Dc y ws,cT,e,Rat.zero_mul,Rat.zero_add]
  .rw[Zxq (by rw[Zp e];rfl),cT,cT,Dc y ws]
theorem Gb{m q:Nat}(hq:0<q){ps:List (Nat×Rat)}(h:∀p∈ps,p.1<m/\0<=p.2/\p.2.den ∣ q):JnI m q ps (uX ps):=by
 have j:=Kc hq h;have sub:∀w∈uX ps,w∈Aa ps:=λw hw=>(List.mem_filter.mp hw).1;refine⟨(List.filter_sublist.map _).nodup j.nd,λw hw=>j.lt w (sub w hw),λw hw=>j.nn w (sub w hw),λw hw=>j.dn w (sub w hw),λy=>?_,aL (List.length_filter_le ..) j.few⟩;unfold uX;rw[Dc,j.sum]
theorem tO{w:Nat×Rat} : ∀{ws:List (Nat×Rat)},(∀w∈ws,0<=w.2)->w∈ws->w.2<=dw ws λ_=>1
 |[],_,h=>by cases h
 |x::ws,nn,h=>by
  rw[cT];have n0:∀ws:List (Nat×Rat),(∀w∈ws,0<=w.2)->0<=dw ws λ_=>1:=λws=>by
   induction ws with
   |nil=>intro _;exact VW
   |cons y ws ih =>
    intro h;rw[cT];have:=h y (aO ..);have:=ih λw hw=>h w (aJ _ hw)
    grind
  rcases YU.mp h with rfl|z
  .have:=n0 ws λw hw=>nn w (aJ _ hw)
   grind
  .have:=tO (ws:=ws) (λw hw=>nn w (aJ _ hw)) z;have:=nn x (aO ..)
   grind
theorem Cv:∀ps:List (Nat×Rat),(dw ps λ_=>1)=Ah (ps.map (·.2))
 |[]=>rfl
 |p::ps=>by
  rw[cT,Cv ps,Rat.mul_one]
  rfl
theorem LDk.all{m:Nat}{d:LD}(h:LDk m d):∃q:Nat,0<q/\q<=4000/\∀p∈d.prs,p.1<m/\0<=p.2/\p.2.den ∣ q:=by
 obtain⟨q,q0,q1,hq⟩:=h.dn;exact⟨q,q0,q1,λp hp=>⟨h.lt p hp,h.nn p hp,hq p hp⟩⟩
theorem aaP{q:Nat}{r:Rat}(q0:0<q)(q1:q<=4000)(h0:0<=r)(h1:r<=1)(hd:r.den ∣ q):Ch r:=⟨h0,h1,eV (by have:=UX q0 hd;lia)⟩
theorem LDk.prsOk{m:Nat}{d:LD}{ns:Φ}(h:LDk m d)(hn:Nms ns m):Prs (d.prs.map (nmP ns)):=by
 obtain⟨q,q0,q1,hq⟩:=h.all;have le1:∀p∈d.prs,p.2<=1:=λp hp=>by
  rw[<- h.one,<- Cv];exact tO h.nn hp
 have few:=h.few;have m2:(d.prs.map (nmP ns)).map (·.2)=d.prs.map (·.2):=by rw[WP];rfl
 refine⟨by rw[ak];exact aL few (by decide),λp hp=>?_,?_,by rw[m2];exact h.one,λas a bs e=>?_⟩
 .obtain⟨x,hx,rfl⟩:=YV.mp hp;obtain⟨x1,x2,x3⟩:=hq x hx;have lx:x.1<ns.length:=by rw[hn.len];exact x1
  refine⟨hn.wd _ ?_,aaP q0 q1 x2 (le1 x hx) x3⟩;show ns.getD x.1 ⟨#[]⟩∈ns;rw[au,aj lx];exact aU lx
 .rw[m2];have:=pU (d.prs.map (·.2)) (n:=1) (m:=q) (QY _) λr hr=>by
   obtain⟨x,hx,rfl⟩:=YV.mp hr;exact(hq x hx).2.2
  have:=UX q0 this;exact eV (by lia)
 .obtain⟨h9,bs',e0,rfl,e2⟩:=List.map_eq_append_iff.mp e;obtain⟨a',cs',rfl,rfl,rfl⟩:=List.map_eq_cons_iff.mp e2;have sub:∀p∈h9,p∈d.prs:=λp hp=>e0 ▸ UH _ hp;have ha:=hq a' (e0 ▸ aP _ (aO ..));have ca:Ch a'.2:=aaP q0 q1 ha.2.1 (le1 a' (e0 ▸ aP _ (aO ..))) ha.2.2;have j:=Kc q0 (ps:=h9) (m:=m) λp hp=>hq p (sub p hp);rw[VN hn.nd λp hp=>by rw[hn.len];exact(hq p (sub p hp)).1];have cn:Ch (zE ((Aa h9).map (nmP ns)) (nmP ns a').1):=by
   unfold zE;cases ef:((Aa h9).map (nmP ns)).find? λx=>decide (x.1=(nmP ns a').1)with
   |none=>exact⟨VW,by show(0:Rat)<=1;decide,eV (by decide)⟩
   |some x =>
    obtain⟨y,hy,rfl⟩:=YV.mp (List.mem_of_find?_eq_some ef);refine aaP q0 q1 (j.nn y hy) ?_ (j.dn y hy);have l1:=tO j.nn hy;rw[j.sum]at l1;have l2:=h.one;rw[<- Cv,e0,Ja]at l2;have l3:0<=dw (a'::cs') λ_=>1:=by
     have:∀ws:List (Nat×Rat),(∀w∈ws,0<=w.2)->0<=dw ws λ_=>1:=λws=>by
      induction ws with
      |nil=>intro _;exact VW
      |cons y ws ih =>
       intro h;rw[cT];have:=h y (aO ..);have:=ih λw hw=>h w (aJ _ hw)
       grind
     exact this _ λw hw=>h.nn w (e0 ▸ aP _ hw)
    show y.2<=1
    grind
  refine⟨cn.bq,ca.bq,?_⟩;have:=cn.2.2;have:=UX q0 ha.2.2;have mI:(zE ((Aa h9).map (nmP ns)) (nmP ns a').1).den<=4000:=by
   unfold zE;cases ef:((Aa h9).map (nmP ns)).find? λx=>decide (x.1=(nmP ns a').1)with
   |none=>exact Tx rfl
   |some x =>
    obtain⟨y,hy,rfl⟩:=YV.mp (List.mem_of_find?_eq_some ef);have:=UX q0 (j.dn y hy);exact aL this q1
  refine eV ?_;rw[VY,XG,XG];exact Y3 (WH mI (show a'.2.den<=4000 by exact aL this q1)) (by decide)
noncomputable def clsOf(D:Adr):Nat->Addr
 |0=>D.Sure
 |1=>D.Toss
 |2=>D.Even
 |_=>D.Mixed
abbrev UW(t:Str)(d:LD):bN:=⟨t,d.pay,uX d.prs⟩
abbrev xg(D:Adr)(t:Str)(d:LD):Made:=⟨clsOf D d.sort,UW t d⟩
theorem aaC(D:Adr):∀k,c7 D (clsOf D k)
 |0=>by unfold c7 clsOf;simp
 |1=>by unfold c7 clsOf;simp
 |2=>by unfold c7 clsOf;simp
 |_+3=>by unfold c7 clsOf;simp
def QV(D:Adr):ST:=λts q=>∃(t:Str)(d:LD)(ns:Φ)(m:Nat),ts=[.str t,ldT d,.lst (ns.map T.str)]/\Wd t/\Nms ns m/\LDk m d/\q (.fz (mdT ns (xg D t d)))
theorem aa7(F:Fun K z6 z6 Ad f fd)(T:Txt K mg D)(vB:OkI P w K mg base CX0 5 D.Sure_init nU (spI K (V5 D)))(dZ:OkI P w K mg base CX0 5 D.Mixed_init gR (spI K (CW D)))(wI:OkI P w K mg base CX0 6 D.Toss_init oM (spI K (Vn D)))(vR:OkI P w K mg base CX0 6 D.Even_init oF (spI K (U7 D))):cj P w K mg base CX0 8 f fd BW (spT K (QV D)):=by
 refine F.okT v7 (λts R hP=>by obtain⟨_,_,_,_,e,_⟩:=hP;exact e ▸ rfl) λag A outer s H E hr=>?_;refine⟨_,(bC (T6 (qv 1) (fu (n:=3) rfl (bR (b_ (n:=99) 4 v7.nd (Or.inl rfl)) (bR (b_ (n:=99) 5 v7.nd (Or.inl rfl)) (bR (b_ (n:=99) 6 v7.nd (Or.inl rfl)) dF)))))
  (bC (qK (bH Ad) Bf Bf ["_law_room","_law_chance"] (cH (qv 6)) (fu (n:=2) rfl (bR (fj (i:=0)) (bR (fj (i:=1)) dF))) cI (cW (bx (bJ (qv 4) (qv 0)) (bx (qv 1) bF))) (lR (i:=3) v7.nd rfl (Or.inl rfl)))
  (bC (cG (bY (go_eq hr.units) (qv 4) bA)
  (bG (bQ (Ax T.acB vB hr.md (by rfl) T.aeV (bx (qv 0) (bx (qv 5) (bx (bJ (bJ (qv 3) bA) bA) bF))))))
  bT)
  (bC (cG (bY (go_eq hr.units) (qv 4) bA)
  (bG (bQ (Ax T.acy wI hr.md (by rfl) T.afU (bx (qv 0) (bx (qv 5) (bx (bJ (bJ (qv 3) bA) bA) (bx (bJ (bJ (qv 3) bA) bA) (bx (bJ (bJ (qv 3) bA) bA) bF))))))))
  bT)
  (bC (cG (bY (go_eq hr.units) (qv 4) bA)
  (bG (bQ (Ax T.acU vR hr.md (by rfl) T.afV (bx (qv 0) (bx (qv 5) (bx (dH (bH Ad) Bf Bf ["_law_room","_law_chance"] (cH (qv 3)) (fu (n:=2) rfl (bR (fj (i:=0)) (bR (fj (i:=1)) dF))) cI (qv 0)) bF))))))
  bT)
  (bG (bQ (Ax T.ZJ dZ hr.md (by rfl) T.Lb (bx (qv 0) (bx (qv 5) (bx (qv 3) bF))))))))))),?_⟩
 rintro _ R ⟨t,d,ns,m,rfl,wt,hn,hd,q⟩;have few:=hd.few;have en:∀p∈d.prs,ixT (ns.map L2.T.str) (p.1:Nat)=some (.str (nmP ns p).1):=λp hp=>by
  have lp:p.1<ns.length:=by rw[hn.len];exact hd.lt p hp
  exact cZ (by rw[aj lp];show _=some (ns.getD p.1 ⟨#[]⟩);rw[au,aj lp];rfl)
 have em:(d.prs.map (nmP ns)).map wyT=d.prs.map λp=>wyT (nmP ns p):=by rw[WP];rfl
 have pk:=hd.prsOk hn;have wk:=acX hn.nd (ps:=d.prs) λp hp=>by rw[hn.len];exact hd.lt p hp
 refine⟨rfl,by rw[ak];exact aL few (by decide),comp_map nwT (λp=>wyT (nmP ns p)) d.prs (λp hp N M hN=>⟨rfl,_,en p hp,hN⟩) ?_⟩;rw[<- em];obtain⟨so,pay,prs⟩:=d;have s4:so<4:=hd.sort;have s0:=hd.s0;have s1:=hd.s1;have s2:=hd.s2;dsimp only at *;obtain rfl|rfl|rfl|rfl:so=0\/so=1\/so=2\/so=3:=by lia
 .obtain⟨a,rfl⟩:=s0 rfl;have e1:uX [(a,1)]=[(a,1)]:=by simp[uX,Aa,zO]
  have q':R (.fz (drT D.Sure t pay ([(a,1)].map (nmP ns)))):=by rw[<- e1];exact q
  exact⟨_,rfl,t,_,pay,rfl,rfl,aaf D,rfl,wt,(pk.ok (nmP ns (a,1)) (YR.mpr rfl)).1,q'⟩
 .obtain⟨a,b,x,rfl⟩:=s1 rfl;have q':R (.fz (drT D.Toss t pay (Bp ([(a,x),(b,1-x)].map (nmP ns))))):=by rw[wk];exact q
  exact⟨_,rfl,_,rfl,_,rfl,t,_,_,pay,x,rfl,rfl,aak D,rfl,wt,(pk.ok (nmP ns (a,x)) (aO ..)).2,pk,q'⟩
 .obtain⟨rs,rfl⟩:=s2 rfl;have q':R (.fz (drT D.Even t pay (Bp ((rs.map λr=>(r,mkRat 1 rs.length)).map (nmP ns))))):=by rw[wk];exact q
  have ev:even (((rs.map λr=>(r,mkRat 1 rs.length)).map (nmP ns)).map (·.1))=(rs.map λr=>(r,mkRat 1 rs.length)).map (nmP ns):=by
   have el:(((rs.map λr=>(r,mkRat 1 rs.length)).map (nmP ns)).map (·.1)).length=rs.length:=by simp
   unfold even;rw[el];simp[Function.comp_def]
  refine⟨by rw[ak,ak];exact aL few (by decide),comp_map wyT (λp=>.str p.1) ((rs.map λr=>(r,mkRat 1 rs.length)).map (nmP ns)) (λp hp N M hN=>⟨rfl,hN⟩) ⟨t,pay,((rs.map λr=>(r,mkRat 1 rs.length)).map (nmP ns)).map (·.1),rfl,rfl,YQ D,?_,wt,by rw[ev];exact pk,?_⟩⟩
  .rw[show(((rs.map λr=>(r,mkRat 1 rs.length)).map (nmP ns)).map (·.1)).map L2.T.str=((rs.map λr=>(r,mkRat 1 rs.length)).map (nmP ns)).map λp=>L2.T.str p.1 from WP]
   rfl
  .rw[ev];exact q'
 .have q':R (.fz (drT D.Mixed t pay (Bp (prs.map (nmP ns))))):=by rw[wk];exact q
  exact⟨t,pay,prs.map (nmP ns),rfl,rfl,Xu D,rfl,wt,pk,q'⟩
structure yH(ae:List (List LD))(off:List (List bN)):Prop where
 len:off.length=ae.length
 at_:∀(k:Nat)ds os,ae[k]?=some ds->off[k]?=some os->∃tl:Φ,tl.length=ds.length/\os=(tl.zip ds).map λp=>UW p.1 p.2
theorem Qs{α β:Type} : ∀{xs:List α}{ys:List β}{x:α}(y:β),xs[ys.length]?=some x->xs.zip (ys++[y])=xs.zip ys++[(x,y)]
 |[],ys,_,_,e=>by cases e
 |a::xs,[],x,y,e=>by cases e;simp
 |a::xs,b::ys,x,y,e=>by
  rw[List.cons_append,List.zip_cons_cons,List.zip_cons_cons,Qs (xs:=xs) (ys:=ys) y (by simpa using e)]
  rfl
theorem Ih{α β:Type}(f:α->T)(g:β->T):∀(xs:List α)(ys:List β),DP (xs.map f) (ys.map g)=(xs.zip ys).map λp=>.tup [f p.1,g p.2]
 |[],ys=>by cases ys<;>rfl
 |_::_,[]=>rfl
 |x::xs,y::ys=>by
  rw[List.zip_cons_cons,List.map_cons,List.map_cons,List.map_cons,<- Ih f g xs ys]
  rfl
def Vq(D:Adr):ST:=λts q=>∃(c:Int)(s:Rat)(m mo:Nat)(ae:List (List LD)),ts=[.int c,frR s,yE ae]/\Shr s/\DSk m mo ae/\m<=26/\mo<=26/\∀ns off,Nms ns m->PJ ns off->yH ae off->q (.fz (hlT D s ns off))
theorem adf(F:Fun K Gx Gx Og f fd)(T:Txt K mg D)(Gj:OkT P w K mg base 2 Cz Ci Qz)(Ol:OkT P w K mg base 8 z6 BW (QV D))(xG:OkI P w K mg base CX0 4 D.Hall_init nW (spI K (V_ D))):cj P w K mg base CX0 9 f fd FQ (spT K (Vq D)):=by
 refine F.okT CZ (λts R hP=>by obtain⟨_,_,_,_,_,e,_⟩:=hP;exact e ▸ rfl) λag A outer s H E hr=>?_;refine⟨_,(bC (bM 3 CZ.nd (Or.inr rfl) (bI Gj hr.md (by rfl) (bx (qv 0) (bx (bV dh (by rfl) T.dY W1 (bx (qv 2) bF)) bF))))
  (bC (g_ 4 CZ.nd (Or.inl rfl) (d_ bF))
  (bC (dG VZ rfl (cY (by rfl) T.dO (bx (bV dh (by rfl) T.dY W1 (bx (qv 2) bF)) bF)) (b_ (n:=99) 5 CZ.nd (Or.inl rfl))
  (bC (bM 6 CZ.nd (Or.inl rfl) (bI Gj hr.md (by rfl) (bx (bK cN (qv 0) (qv 5)) (bx (bV dh (by rfl) T.dY W1 (bx (bJ (qv 2) (qv 5)) bF)) bF))))
  (bG (nG 4 (cW (bx (bJ (qv 3) (qv 5)) (bx (dH (bH Og) Td Td ["_law_title","_law_door_here"] (Ia (by rfl) T.R6 (bx (qv 6) (bx (bJ (qv 2) (qv 5)) bF))) (fu (n:=2) rfl (bR (fj (i:=0)) (bR (fj (i:=1)) dF))) cI (bI Ol hr.md (by rfl) (bx (qv 0) (bx (qv 1) (bx (qv 5) bF))))) bF)))))))
  (bG (GX 4 (bQ (Ax T.acW xG hr.md (by rfl) T.aeW (bx (qv 1) (bx (qv 4) bF))))))))),?_⟩
 rintro _ R ⟨c,s,m,mo,ae,rfl,hs,hd,m1,mo1,q⟩;have dl:(ae.map λds=>L2.T.lst (ds.map ldT)).length=m:=by rw[ak,hd.len]
 refine⟨c,m,by rw[<- dl];rfl,m1,λns hn=>?_⟩;have nl:=hn.len;have e0:zJ ns []=[]:=by simp[zJ]
 refine⟨⟨by rw[dl];lia,by rw[dl];lia⟩,jr (λk o=>∃(ms:List (List Made))(x5 x6:OT),o=[.fz (.int c),.fz (frR s),.fz (yE ae),.fz (.lst (ns.map L2.T.str)),.l1 (zJ ns ms),x5,x6]/\ms.length=k/\∀(i:Nat)ds x,ae[i]?=some ds->ms[i]?=some x->∃tl,Nms tl ds.length/\x=(tl.zip ds).map λp=>xg D p.1 p.2) ⟨[],.und,.und,by rw[e0];rfl,rfl,λi ds x _ z=>by cases z⟩ ?_ ?_⟩
 .rintro k _ hk ⟨ms,x5,x6,rfl,lm,hm⟩;have hk:k<m:=by rw[dl]at hk;lia
  have lk:k<ae.length:=by rw[hd.len];exact hk
  have ek:=aj lk;have mem:=aU lk;have fk:=hd.few _ mem;have i9:ixT (ae.map λds=>L2.T.lst (ds.map ldT)) (k:Nat)=some (.lst (ae[k].map ldT)):=cZ ek;have nk:ns[k]?=some (ns.getD k ⟨#[]⟩):=by rw[au,aj (by lia)];rfl
  refine⟨_,i9,c+k,ae[k].length,by rw[<- ak (as:=ae[k]) (f:=ldT)];rfl,by exact aL fk mo1,λtl ht=>?_⟩;refine⟨_,cZ nk,_,i9,?_⟩;have zl:(tl.zip ae[k]).length<=26:=by rw[VX];lia
  show(DP (tl.map L2.T.str) (ae[k].map ldT)).length<=sizeLine/\jd _ _ _ _ (DP (tl.map L2.T.str) (ae[k].map ldT)) _;rw[Ih];refine⟨by rw[ak];exact aL zl (by decide),comp_map (λp=>.tup [.str p.1,ldT p.2]) (λp=>mdT ns (xg D p.1 p.2)) (tl.zip ae[k]) (λp hp N M hN=>⟨rfl,p.1,p.2,ns,m,rfl,ht.wd _ (VQ hp).1,hn,hd.ok _ mem _ (VQ hp).2,hN⟩) ⟨?_,ms++[(tl.zip ae[k]).map λp=>xg D p.1 p.2],.fz (.int (k:Nat)),.fz (.lst (tl.map L2.T.str)),?_,by rw[aA,lm];rfl,λi ds x e1 e2=>?_⟩⟩
  .rw[ak,VX];exact aR (show _<1000 by lia) (by decide)
  .rw[show zJ ns (ms++[(tl.zip ae[k]).map λp=>xg D p.1 p.2])=zJ ns ms++[.tup [.str (ns.getD k ⟨#[]⟩),.lst ((tl.zip ae[k]).map λp=>mdT ns (xg D p.1 p.2))]]by
    unfold zJ;rw[Qs (x:=ns.getD k ⟨#[]⟩) _ (by rw[lm];exact nk),bf,List.map_singleton]
    congr 2
    show rmT (_,((tl.zip ae[k]).map λp=>xg D p.1 p.2).map (mdT ns))=_;rw[WP]
    rfl]
   rfl
  .by_cases hi:i<ms.length
   .rw[aF hi]at e2;exact hm i ds x e1 e2
   .have li:=(ao.mp e2).1;rw[aA,List.length_singleton]at li;have:i=k:=by lia
    subst this;rw[aD (WG lm),show i-ms.length=0 by lia]at e2;cases e2;rw[ek]at e1;cases e1;exact⟨tl,ht,rfl⟩
 .rintro _ ⟨ms,x5,x6,rfl,lm,hm⟩;have lm:ms.length=m:=by rw[lm];exact dl
  have all:∀x∈ms,∃ds∈ae,∃tl,Nms tl ds.length/\x=(tl.zip ds).map λp=>xg D p.1 p.2:=λx hx=>by
   obtain⟨i,hi⟩:=aV hx;have li:=(ao.mp hi).1;have ld:i<ae.length:=by rw[hd.len];exact aR li (WG lm)
   exact⟨_,aU ld,hm i _ x (aj ld) hi⟩
  have rk:ad0 D ns ms:=by
   refine⟨by rw[lm,nl],by lia,hn.wd,hn.nd,λx hx=>?_⟩;obtain⟨ds,dk,tl,ht,rfl⟩:=all x hx;have fd:=hd.few ds dk;have g5:=ht.len;refine⟨by rw[ak,VX];lia,λy hy=>?_,λy hy=>?_,?_⟩
   .obtain⟨p,_,rfl⟩:=YV.mp hy;exact aaC D _
   .obtain⟨p,hp,rfl⟩:=YV.mp hy;have lk:=hd.ok ds dk p.2 (VQ hp).2;obtain⟨qq,q0,q1,hq⟩:=lk.all;have j:=Gb q0 hq;have:=j.few;have:=lk.few;exact⟨by show(uX p.2.prs).length<=1000;lia,λw hw=>by rw[nl];exact j.lt w hw⟩
   .rw[WP];show((tl.zip ds).map λp=>p.1).Nodup;rw[List.map_fst_zip (WG g5)];exact ht.nd
  have bs:Bq s:=⟨eV (by
   have h0:=Rat.num_nonneg.mpr hs.lo;have h1:=(Rat.lt_iff s 1).mp hs.hi;have h1:s.num*((1:Rat).den:Int)<(1:Rat).num*(s.den:Int):=h1;have:=hs.den;simp at h1;lia),eV (by have:=hs.den;lia)⟩
  refine⟨s,ns,ms,rfl,rfl,rfl,rfl,hs.lo,hs.hi,bs,rk,q ns (offs ms) hn ⟨?_,by lia,λos f'=>?_⟩ ⟨?_,λk ds os e1 e2=>?_⟩⟩
  .rw[ak,lm,nl]
  .obtain⟨x,hx,rfl⟩:=YV.mp f';rw[ak];exact(rk.mds x hx).few
  .rw[ak,lm,hd.len]
  .rw[aq]at e2;cases e3:ms[k]? with
   |none=>rw[e3]at e2;cases e2
   |some x =>
    rw[e3]at e2;cases e2;obtain⟨tl,ht,rfl⟩:=hm k ds x e1 e3;exact⟨tl,ht.len,WP⟩
abbrev Er(k:Nat)(p:Rat):LD:=⟨0,p,[(k,1)]⟩
def amf(ae:List (List LD)):Prop:=∀ds∈ae,∀d∈ds,d.pay.den=1/\d.pay.num.natAbs<=9/\∀p∈d.prs,p.2=1
theorem Od{p:Rat}(h1:p.den=1)(h2:p.num.natAbs<=9):Pay p:=⟨aL h2 (by decide),by exact aL (WG h1) (by decide)⟩
def Ef:ST:=λts q=>∃(c:Int)(m:Nat),ts=[.int c,.int ((m+1:Nat):Int)]/\m<26/\∀ae:List (List LD),DSk (m+1) 4 ae->(∀ds∈ae,ds.length=2)->amf ae->q (.l1 (ae.map λds=>.lst (ds.map ldT)))
theorem Ph(F:Fun K qM qM zR f fd)(T:Txt K mg D)(cJ:OkT P w K mg base 1 fJ fH gQ):cj P w K mg base CX0 2 f fd qN (spT K Ef):=by
 refine F.okT qy (λts R hP=>by obtain⟨_,_,e,_⟩:=hP;exact e ▸ rfl) λag A outer s H E hr=>?_;refine⟨_,(bC (bM 2 qy.nd (Or.inl rfl) (bK cN bA (bK cC (bJ (bI cJ hr.md (by rfl) (bx (qv 0) (bx bA bF))) bA) bA)))
  (bC (g_ 3 qy.nd (Or.inl rfl) (d_ bF))
  (bC (dG VZ rfl (cY (by rfl) T.dO (bx (bK mC (qv 1) bA) bF)) (b_ (n:=99) 4 qy.nd (Or.inl rfl))
  (bG (nG 3 (QEB.out (nZ (bO (dN (bO dg (bO (dN (bO dg (bO dg cQ))) (bO (nZ (bO (dN (bO (Ks 4) (bO (dN (bO dg (bO dg cQ))) cQ))) cQ)) cQ)))) (bO (dN (bO dg (bO (dN (bO dg (bO dg cQ))) (bO (nZ (bO (dN (bO (Mf cN (Ks 4) dg) (bO (dN (bO dg (bO dg cQ))) cQ))) cQ)) cQ)))) cQ)))))))
  (bG (GX 3 (bQ (bK cN (qv 3) (QEB.out (nZ (bO (nZ (bO (dN (bO dg (bO (dN (bO dg (bO dg cQ))) (bO (nZ (bO (dN (bO (Mf mC (Ks 1) dg) (bO (dN (bO dg (bO dg cQ))) cQ))) cQ)) cQ)))) (bO (dN (bO dg (bO (dN (bO (Ks 2) (bO dg cQ))) (bO (nZ (bO (dN (bO (Mf mC (Ks 1) dg) (bO (dN (bO dg (bO dg cQ))) cQ))) cQ)) cQ)))) cQ))) cQ)))))))))),?_⟩
 rintro _ R ⟨c,m,rfl,m1,q⟩;have s0:=iI c 0;have e1:((m+1:Nat):Int)-1=(m:Nat):=by lia
 obtain⟨p,ep,p9⟩ : ∃p:Nat,1+strm c 0%9=(p:Nat)/\p<=9:=⟨(1+strm c 0%9).toNat,by lia,by lia⟩;refine⟨c,1,rfl,by decide,_,dJ (k:=0) (by decide),by decide,?_⟩;refine⟨⟨by lia,by lia⟩,?_⟩;show uQ _ _ _ (rng 0 ((((m+1:Nat):Int)-1).toNat)) _;rw[show((((m+1:Nat):Int)-1).toNat)=m by lia];refine jr (λk o=>∃x,o=[.fz (.int c),.fz (.int ((m+1:Nat):Int)),.fz (.int (p:Nat)),.l1 (((List.range k).map λk=>[Er k 0,Er (k+1) 0]).map λds=>.lst (ds.map ldT)),x]) ⟨.und,?_⟩ ?_ ?_
 .rw[<- ep];rfl
 .rintro k _ hk ⟨x,rfl⟩;refine⟨?_,.fz (.int (k:Nat)),?_⟩
  .rw[ak,ak,WJ];exact aR (show k<100 by lia) (by decide)
  .rw[List.range_succ,bf,bf]
   rfl
 .rintro _ ⟨x,rfl⟩;have cor:=q ((List.range m).map (λk=>[Er k 0,Er (k+1) 0])++[[Er m 0,Er m ((p:Int):Rat)]]) ⟨by simp,λds dk=>?_,λds dk d hd=>?_⟩ (λds dk=>?_) (λds dk d hd=>?_)
  .rw[bf]at cor;refine⟨?_,?_⟩
   .show(((List.range m).map λk=>[Er k 0,Er (k+1) 0]).map λds=>L2.T.lst (ds.map ldT)).length+1<=sizeLine;rw[ak,ak,WJ];exact aL (show m+1<=100 by lia) (by decide)
   .show R (OT.l1 (_++[L2.T.lst [L2.T.tup [.int 0,.tup [.int 0,.int 1],.lst [.tup [.int (((m+1:Nat):Int)-1),.tup [.int 1,.int 1]]]],L2.T.tup [.int 0,.tup [.int (p:Nat),.int 1],.lst [.tup [.int (((m+1:Nat):Int)-1),.tup [.int 1,.int 1]]]]]]));rw[e1];exact cor
  .rcases Y1.mp dk with z|z
   .obtain⟨k,_,rfl⟩:=YV.mp z;exact Tx rfl
   .rw[YR.mp z];exact Tx rfl
  .rcases Y1.mp dk with z|z
   .obtain⟨k,hk,rfl⟩:=YV.mp z;have:=List.mem_range.mp hk;rcases YU.mp hd with rfl|z
    .exact .sure (WU _ this) (Od rfl (by decide))
    .rw[YR.mp z];exact .sure (Nat.succ_lt_succ this) (Od rfl (by decide))
   .rw[YR.mp z]at hd;rcases YU.mp hd with rfl|z
    .exact .sure (X1 _) (Od rfl (by decide))
    .rw[YR.mp z];exact .sure (X1 _) (Od rfl (by show(p:Int).natAbs<=9;omega))
  .rcases Y1.mp dk with z|z
   .obtain⟨k,_,rfl⟩:=YV.mp z
    rfl
   .rw[YR.mp z]
    rfl
  .rcases Y1.mp dk with z|z
   .obtain⟨k,hk,rfl⟩:=YV.mp z;rcases YU.mp hd with rfl|z
    .exact⟨rfl,aZ 9,by simp⟩
    .rw[YR.mp z];exact⟨rfl,aZ 9,by simp⟩
   .rw[YR.mp z]at hd;rcases YU.mp hd with rfl|z
    .exact⟨rfl,aZ 9,by simp⟩
    .rw[YR.mp z];exact⟨rfl,by show(p:Int).natAbs<=9;omega,by simp⟩
structure PlD(ae:List (List LD))(pl:List (Option Nat)):Prop where
 len:pl.length=ae.length
 ok:∀(k:Nat)(d:Option Nat)(ds:List LD),pl[k]?=some d->ae[k]?=some ds->CT d ds.length=true
theorem PlD.snoc{ae:List (List LD)}{k:Nat}{pl:List (Option Nat)}(h:∀(i:Nat)(d:Option Nat)(ds:List LD),i<k->pl[i]?=some d->ae[i]?=some ds->CT d ds.length=true)(l:pl.length=k){ds:List LD}(ek:ae[k]?=some ds){d:Option Nat}(hd:CT d ds.length=true):∀(i:Nat)(c:Option Nat)(es:List LD),i<k+1->(pl++[d])[i]?=some c->ae[i]?=some es->CT c es.length=true:=λi c es hi e1 e2=>by
 by_cases z:i<k
 .rw[aF (by lia)]at e1;exact h i c es z e1 e2
 .have:i=k:=by lia
  subst this;rw[aD (WG l),show i-pl.length=0 by lia]at e1;cases e1;rw[ek]at e2;cases e2;exact hd
def KR:ST:=λts q=>∃(c:Int)(ae:List (List LD)),ts=[.int c,yE ae]/\ae.length<=100/\∀pl:List (Option Nat),PlD ae pl->q (.l1 (pl.map dT))
theorem W0(F:Fun K xQ xQ G5 f fd)(T:Txt K mg D)(cJ:OkT P w K mg base 1 fJ fH gQ):cj P w K mg base CX0 2 f fd yx (spT K KR):=by
 refine F.okT xW (λts R hP=>by obtain⟨_,_,e,_⟩:=hP;exact e ▸ rfl) λag A outer s H E hr=>?_;refine⟨_,(bC (bM 2 xW.nd (Or.inl rfl) (bI cJ hr.md (by rfl) (bx (qv 0) (bx (bV dh (by rfl) T.dY W1 (bx (qv 1) bF)) bF))))
  (bC (g_ 3 xW.nd (Or.inl rfl) (d_ bF))
  (bC (dG VZ rfl (cY (by rfl) T.dO (bx (bV dh (by rfl) T.dY W1 (bx (qv 1) bF)) bF)) (b_ (n:=99) 4 xW.nd (Or.inl rfl))
  (bG (cG (bY (go_eq hr.units) (bV dh (by rfl) T.dY W1 (bx (bJ (qv 1) (qv 4)) bF)) bA)
  (bG (nG 3 jf))
  (bG (nG 3 (bK cC (bJ (qv 2) (qv 4)) (bV dh (by rfl) T.dY W1 (bx (bJ (qv 1) (qv 4)) bF))))))))
  (bG (jE 3))))),?_⟩
 rintro _ R ⟨c,ae,rfl,few,q⟩;have dl:(ae.map λds=>L2.T.lst (ds.map ldT)).length=ae.length:=ak ..;refine⟨c,ae.length,by rw[<- dl];rfl,by exact aL few (by decide),⟨by rw[dl];lia,by rw[dl];lia⟩,?_⟩;refine jr (λk o=>∃(pl:List (Option Nat))(x:OT),o=[.fz (.int c),.fz (yE ae),.fz (.lst ((jO c ae.length).map L2.T.int)),.l1 (pl.map dT),x]/\pl.length=k/\∀(i:Nat)(d:Option Nat)(ds:List LD),i<k->pl[i]?=some d->ae[i]?=some ds->CT d ds.length=true) ⟨[],.und,rfl,rfl,λi d ds z=>absurd z (WV _)⟩ ?_ ?_
 .rintro k _ hk ⟨pl,x,rfl,l,h⟩;have hk:k<ae.length:=by rw[dl]at hk;lia
  have ek:=aj hk;have i9:ixT (ae.map λds=>L2.T.lst (ds.map ldT)) (k:Nat)=some (.lst (ae[k].map ldT)):=cZ ek;have lm:(pl.map dT).length<sizeLine:=by rw[ak];exact aR (show _<1000 by lia) (by decide)
  have s0:=iI c k;refine⟨_,i9,?_⟩;by_cases e:ae[k].length=0
  .refine swT (Zs (by rw[ak];lia)) ⟨lm,pl++[none],.fz (.int (k:Nat)),by rw[bf];rfl,by simp[l],PlD.snoc h l ek (Zs e)⟩
  .have p0:(0:Int)<(ae[k].map ldT).length:=by rw[ak];lia
   refine swF (Zp (by rw[ak];lia)) ⟨_,dJ (k:=k) hk,_,i9,p0,lm,?_⟩;have a0:=Z3 (strm c k) (show((ae[k].map ldT).length:Int)≠0 by exact WS p0);have a1:=YY (strm c k) p0;obtain⟨n,en⟩:=Zwv a0;refine⟨pl++[some n],.fz (.int (k:Nat)),?_,by simp[l],PlD.snoc h l ek (Zs ?_)⟩
   .rw[bf];show _=[_,_,_,OT.l1 (pl.map dT++[L2.T.int (n:Nat)]),_];rw[<- en]
    rfl
   .rw[ak]at a1 en;lia
 .rintro _ ⟨pl,x,rfl,l,h⟩;have l:pl.length=ae.length:=by rw[l];exact dl
  exact q pl ⟨l,λk d ds e1 e2=>h k d ds (by rw[dl];have:=(ao.mp e1).1;lia) e1 e2⟩
open Rw (sg fX fG bW gD gW Big)
def Rz(n d:Nat)(r:Rat):Prop:=r.num.natAbs<=10^n/\r.den<=10^d
theorem Ui{n d:Nat}{a b:Int}(hb:0<b)(h1:a.natAbs<=10^n)(h2:b.toNat<=10^d):Rz n d (Rat.divInt a b):=by
 obtain⟨x,y⟩:=div_pos (a:=a) hb;exact⟨aL y h1,aL x h2⟩
theorem Rz.mul{n d n' d':Nat}{a b:Rat}(ha:Rz n d a)(hb:Rz n' d' b):Rz (n+n') (d+d') (a*b):=by
 have e:a*b=Rat.divInt (a.num*b.num) (a.den*b.den):=by rw[<- T2,rd,rd]
 have p:(0:Int)<(a.den:Int)*b.den:=XZ (by have:=a.den_pos;lia) (by have:=b.den_pos;lia);rw[e];refine Ui p ?_ ?_
 .rw[VY,VT];exact WH ha.1 hb.1
 .rw[<- Th,Zyv,VT];exact WH ha.2 hb.2
theorem Rz.add{n d n' d' k:Nat}{a b:Rat}(ha:Rz n d a)(hb:Rz n' d' b)(h1:n+d'<=k)(h2:n'+d<=k):Rz (k+1) (d+d') (a+b):=by
 have e:a+b=Rat.divInt (a.num*b.den+b.num*a.den) (a.den*b.den):=by rw[<- JJ _ _ (jm a) (jm b),rd,rd]
 have p:(0:Int)<(a.den:Int)*b.den:=XZ (by have:=a.den_pos;lia) (by have:=b.den_pos;lia);rw[e];refine Ui p ?_ ?_
 .have x:(a.num*b.den).natAbs<=10^k:=by
   rw[VY,XG];exact aL (WH ha.1 hb.2) (by rw[<- VT];exact XT (by decide) h1)
  have y:(b.num*a.den).natAbs<=10^k:=by
   rw[VY,XG];exact aL (WH hb.1 ha.2) (by rw[<- VT];exact XT (by decide) h2)
  have z:=Int.natAbs_add_le (a.num*b.den) (b.num*a.den);rw[Nat.pow_succ];lia
 .rw[<- Th,Zyv,VT];exact WH ha.2 hb.2
theorem iD{n:Nat}{i:Int}(h:i.natAbs<=10^n)(hn:n<=2400):Bd i:=Y3 (aL h (XT (by decide) hn)) (by decide +kernel)
theorem Rz.bq{n d:Nat}{r:Rat}(h:Rz n d r)(hn:n<=2400)(hd:d<=2400):Bq r:=⟨iD h.1 hn,iD (by rw[XG];exact h.2) hd⟩
theorem Rz.dd{n d n' d':Nat}{a b:Rat}(ha:Rz n d a)(hb:Rz n' d' b)(h:d+d'<=2400):Bd ((a.den:Int)*b.den):=iD (n:=d+d') (by
 rw[VY,XG,XG,VT];exact WH ha.2 hb.2) h
theorem Dg{r:Rat}{A:Nat}(h1:r<=(A:Rat))(h2 : -(A:Rat)<=r):r.num.natAbs<=A*r.den:=by
 have a:=(Rat.le_iff r (A:Rat)).mp h1;have b:=(Rat.le_iff (-(A:Rat)) r).mp h2;have a:r.num*((1:Nat):Int)<=(A:Int)*(r.den:Int):=a;have b : -(A:Int)*(r.den:Int)<=r.num*((1:Nat):Int):=b;have c:((A*r.den:Nat):Int)=(A:Int)*r.den:=Th ..;rw[Int.neg_mul]at b;omega
structure OfB(m PN PD CQ:Nat)(o:bN):Prop where
 pn:o.pay.num.natAbs<=PN
 pd:o.pay.den<=PD
 cq:∃q:Nat,0<q/\q<=CQ/\∀w∈o.ways,w.2.den ∣ q
 nd:(o.ways.map (·.1)).Nodup
 few:o.ways.length<=1000
 lt:∀w∈o.ways,w.1<m
 nn:∀w∈o.ways,0<=w.2
 one:yD o.ways<=1
theorem Gz:∀ws:List (Nat×Rat),yD ws=dw ws λ_=>1
 |[]=>rfl
 |w::ws=>by rw[tH,cT,Gz ws,Rat.mul_one]
theorem OfB.le1{m PN PD CQ:Nat}{o:bN}(h:OfB m PN PD CQ o){w:Nat×Rat}(hw:w∈o.ways):w.2<=1:=by
 have:=tO h.nn hw;rw[<- Gz]at this;exact US this h.one
theorem aat{m mo:Nat}{ae:List (List LD)}{off:List (List bN)}(hd:DSk m mo ae)(ho:yH ae off):∀ds∈off,∀o∈ds,OfB m (10^30) 1000 4000 o:=λos f' o j2=>by
 obtain⟨k,ek⟩:=aV f';have lk:k<ae.length:=by rw[<- ho.len];exact(ao.mp ek).1
 obtain⟨tl,_,rfl⟩:=ho.at_ k _ os (aj lk) ek;obtain⟨p,hp,rfl⟩:=YV.mp j2;have lk:=hd.ok _ (aU lk) p.2 (VQ hp).2;obtain⟨q,q0,q1,hq⟩:=lk.all;have j:=Gb q0 hq;have f1:=j.few;have f2:=lk.few;exact⟨lk.pay.num,lk.pay.den,⟨q,q0,q1,j.dn⟩,j.nd,by show(uX p.2.prs).length<=1000;lia,j.lt,j.nn,by
  show yD (uX p.2.prs)<=1;rw[Gz,j.sum,Cv,lk.one];exact VW⟩
theorem Rr{m mo:Nat}{ae:List (List LD)}{off:List (List bN)}(hd:DSk m mo ae)(ht:∀ds∈ae,∀d∈ds,d.pay.den=1/\d.pay.num.natAbs<=9/\∀p∈d.prs,p.2=1)(ho:yH ae off):∀ds∈off,∀o∈ds,OfB m 9 1 1 o:=λos f' o j2=>by
 have B:=aat hd ho os f' o j2;obtain⟨k,ek⟩:=aV f';have lk:k<ae.length:=by rw[<- ho.len];exact(ao.mp ek).1
 obtain⟨tl,_,rfl⟩:=ho.at_ k _ os (aj lk) ek;obtain⟨p,hp,rfl⟩:=YV.mp j2;obtain⟨t1,t2,t3⟩:=ht _ (aU lk) p.2 (VQ hp).2;have lk:=hd.ok _ (aU lk) p.2 (VQ hp).2;have j:=Gb (q:=1) UY (m:=m) (ps:=p.2.prs) λx hx=>⟨lk.lt x hx,lk.nn x hx,by rw[t3 x hx];exact Nat.dvd_refl 1⟩;exact⟨t2,by show p.2.pay.den<=1;exact WG t1,⟨1,UY,aG _,j.dn⟩,B.nd,B.few,B.lt,B.nn,B.one⟩
open Rw (sg fX fG bW gD gW Big)
theorem aea{ws:List (Nat×Rat)}(nn:∀w∈ws,0<=w.2)(j:Nat):0<=rM ws j/\rM ws j<=yD ws:=by
 induction ws with
 |nil=>exact⟨VW,VW⟩
 |cons w ws ih =>
  have:=nn w (aO ..);obtain⟨a,b⟩:=ih λx hx=>nn x (aJ _ hx);rw[tH];show 0<=(if w.1=j then w.2 else 0)+rM ws j/\(if w.1=j then w.2 else 0)+rM ws j<=_;split<;>grind
theorem ZS{q:Nat}(hq:0<q){ws:List (Nat×Rat)}(h:∀w∈ws,w.2.den ∣ q)(j:Nat):(rM ws j).den ∣ q:=by
 induction ws with
 |nil=>exact QY _
 |cons w ws ih =>
  refine Hi hq ?_ (ih λx hx=>h x (aJ _ hx));split
  .exact h w (aO ..)
  .exact QY _
abbrev qO(c:Option bN):Nat:=cD 1 ((gB c).map (·.2))
def CoB(m PN PD CQ:Nat)(c:Option bN):Prop:=∀o,c=some o->OfB m PN PD CQ o
theorem CoB.sh{s:Rat}{m PN PD CQ:Nat}{c:Option bN}(h:CoB m PN PD CQ c):ShB s m (gB c):=by
 cases c with
 |none=>exact⟨λ_ z=>(nomatch z),λ_ z=>(nomatch z),by show(0:Rat)<=1;decide⟩
 |some o=>have b:=h o rfl;exact⟨b.lt,b.nn,b.one⟩
theorem Yi(c:Option bN):0<qO c:=eY _ UY
theorem aeR{c:Option bN}{w:Nat×Rat}(hw:w∈gB c):w.2.den ∣ qO c:=(jy _).2 _ (YV.mpr ⟨w,hw,rfl⟩)
theorem CoB.q{m PN PD CQ:Nat}{c:Option bN}(h:CoB m PN PD CQ c)(h1:1<=CQ):qO c<=CQ:=by
 cases c with
 |none=>exact h1
 |some o =>
  obtain⟨q,q0,q1,hq⟩:=(h o rfl).cq;refine aL (UX q0 (pU _ (QY _) λr hr=>?_)) q1;obtain⟨w,hw,rfl⟩:=YV.mp hr;exact hq w hw
theorem CoB.pd{m PN PD CQ:Nat}{c:Option bN}(h:CoB m PN PD CQ c)(h1:1<=PD):(jX c).den<=PD:=by
 cases c with
 |none=>exact h1
 |some o=>exact(h o rfl).pd
theorem CoB.pn{m PN PD CQ:Nat}{c:Option bN}(h:CoB m PN PD CQ c):(jX c).num.natAbs<=PN:=by
 cases c with
 |none=>exact aZ _
 |some o=>exact(h o rfl).pn
theorem vq:((1:Nat):Rat)=1:=rfl
theorem agm{s:Rat}{m PN PD CQ:Nat}{cs:List (Option bN)}{i j:Nat}(s0:0<=s)(s1:s<1)(h:CoB m PN PD CQ (cs.getD i none)):(eF s cs i j).den ∣ s.den*qO (cs.getD i none)/\(eF s cs i j).num.natAbs<=1*(eF s cs i j).den:=by
 have sh:=CoB.sh (s:=s) h;obtain⟨a,b⟩:=aea sh.nn j;have b1:=US b sh.one;have c1:s*rM (gB (cs.getD i none)) j<=1:=by
  have:=UR b1 s0
  grind
 have c0:0<=s*rM (gB (cs.getD i none)) j:=Zyw s0 a;have sd:=s.den_pos;have qp:=Yi (cs.getD i none);refine⟨?_,Dg ?_ ?_⟩
 .unfold eF;rw[Rat.sub_eq_add_neg];refine Hi (QQ sd qp) ?_ ?_
  .split<;>exact QY _
  .rw[abj];exact den_mul sd qp (Nat.dvd_refl _) (ZS qp (λw hw=>aeR hw) j)
 .unfold eF;rw[vq];split<;>grind
 .unfold eF;rw[vq];split<;>grind
theorem V2{s:Rat}{cs:List (Option bN)}{PN PD CQ:Nat}(hs:Shr s)(few:cs.length<=100)(h:∀c∈cs,CoB cs.length PN PD CQ c)(h1:1<=PD)(h2:1<=CQ){N:Nat}(hN:N=(PN+1)*(100*CQ*PD))(mb:(2*cs.length*N)^cs.length<=NN)(nn:N<=NN):Sys (BJ (yW s cs) (cs.map jX)) N:=by
 have gc:∀i,i<cs.length->CoB cs.length PN PD CQ (cs.getD i none):=λi hi=>h _ (by rw[au,aj hi];exact aU hi);have sd:=s.den_pos;have all:∀i,i<cs.length->∀c∈((List.range cs.length).map λj=>eF s cs i j)++[jX (cs.getD i none)],c.den ∣ s.den*qO (cs.getD i none)*(jX (cs.getD i none)).den/\c.num.natAbs<=(PN+1)*c.den:=λi hi c hc=>by
  rcases Y1.mp hc with z|z
  .obtain⟨j,_,rfl⟩:=YV.mp z;obtain⟨a,b⟩:=agm (j:=j) hs.lo hs.hi (gc i hi);exact⟨Nat.dvd_trans a (Nat.dvd_mul_right _ _),aL b (QU _ (Nat.le_add_left _ _))⟩
  .rw[YR.mp z];refine⟨Nat.dvd_mul_left _ _,?_⟩;have:=(gc i hi).pn;have:=(jX (cs.getD i none)).den_pos;exact aL (show _<=(PN+1)*1 by lia) (U2 _ this)
 have qp:∀i,i<cs.length->0<s.den*qO (cs.getD i none)*(jX (cs.getD i none)).den/\s.den*qO (cs.getD i none)*(jX (cs.getD i none)).den<=100*CQ*PD:=λi hi =>
  ⟨QQ (QQ sd (Yi _)) (Rat.den_pos _),WH (WH hs.den ((gc i hi).q h2)) ((gc i hi).pd h1)⟩
 refine⟨λr hr=>?_,by rw[uJ];exact few,λr hr=>?_,λr hr c hm=>?_,?_,by rw[uJ];exact mb,nn,?_⟩
 .obtain⟨i,hi,rfl⟩:=GJ hr;rw[uJ,aA,ak,WJ];rfl
 .obtain⟨i,hi,rfl⟩:=GJ hr;obtain⟨a,b⟩:=qp i hi;exact(ab5 (Nat.le_add_left _ _) a (all i hi)).le (by rw[hN];exact U2 _ b)
 .obtain⟨i,hi,rfl⟩:=GJ hr;obtain⟨a,b⟩:=all i hi c hm;obtain⟨p,q⟩:=qp i hi;exact bdN (aL b (aL (U2 _ (aL (UX p a) q)) (by rw[<- hN];exact nn)))
 .rw[hN];exact QQ (T1 _) (QQ (QQ (by decide) (aR (X1 _) h2)) (aR (X1 _) h1))
 .rw[uJ];exact λx h0 hx=>acH hs.lo hs.hi (λi hi=>(gc i hi).sh) x h0 hx
theorem Am{s:Rat}(hs:Shr s):Rz 2 2 s:=by
 have a:=Dg (r:=s) (A:=1) (TZ hs.hi) (by have:=hs.lo;rw[vq];grind);have:=hs.den;exact⟨aL a (by lia),this⟩
theorem aa3{m PN PD CQ:Nat}{o:bN}(h:OfB m PN PD CQ o)(hc:CQ<=10^4){w:Nat×Rat}(hw:w∈o.ways):Rz 4 4 w.2:=by
 obtain⟨q,q0,q1,hq⟩:=h.cq;have d:=UX q0 (hq w hw);have a:=Dg (r:=w.2) (A:=1) (h.le1 hw) (by have:=h.nn w hw;rw[vq];grind);exact⟨aL a (by lia),by lia⟩
theorem ad3{m PN PD CQ:Nat}{off:List (List bN)}{pl:List (Option Nat)}(ob:∀ds∈off,∀o∈ds,OfB m PN PD CQ o):∀c∈chO off pl,CoB m PN PD CQ c:=λc hc o eo=>by
 obtain⟨p,hp,rfl⟩:=YV.mp hc;cases e:p.1 with
 |none=>rw[e]at eo;cases eo
 |some d =>
  rw[e]at eo;have eo:(off.getD p.2 [])[d]?=some o:=eo;by_cases l:p.2<off.length
  .rw[au,aj l]at eo;exact ob _ (aU l) o (aC eo)
  .have:off[p.2]?=none:=aM (VU l);rw[au,this]at eo;cases eo
theorem aeC{s:Rat}{off:List (List bN)}{PN PD CQ N:Nat}(hs:Shr s)(few:off.length<=100)(ob:∀ds∈off,∀o∈ds,OfB off.length PN PD CQ o)(h1:1<=PD)(h2:1<=CQ)(hc:CQ<=10^4)(hN:N=(PN+1)*(100*CQ*PD))(mb:(2*off.length*N)^off.length<=NN)(nn:N<=NN){pl:List (Option Nat)}(hp:PlT off pl):WoB s (chO off pl) N:=by
 have cl:=I8 hp;have co:=ad3 (pl:=pl) ob;have sz:=Am hs;refine⟨sz.bq (by decide) (by decide),λc hm=>?_,V2 hs (aL (WG cl) few) (by rw[cl];exact co) h1 h2 hN (by rw[cl];exact mb) nn⟩;rw[cl];cases c with
 |none=>exact⟨.nil,aZ _,λ_ z=>(nomatch z),λ_ z=>(nomatch z)⟩
 |some o =>
  have b:=co _ hm o rfl;refine⟨b.nd,b.few,b.lt,λw hw=>?_⟩;have wz:=aa3 b hc hw;exact⟨wz.bq (by decide) (by decide),sz.dd wz (by decide),(sz.mul wz).bq (by decide) (by decide)⟩
theorem T8(rs:List Rat)(n M:Nat)(hM:0<M):(∀r∈rs,r.den<=M)->cD n rs<=n*M^rs.length:=by
 induction rs generalizing n with
 |nil=>intro _;show n<=n*1;lia
 |cons r rs ih =>
  intro h;have l1:Nat.lcm n r.den<=n*M:=aL (by unfold Nat.lcm;exact Zyy _ _) (U2 _ (h r (aO ..)));refine aL (ih (Nat.lcm n r.den) λx hx=>h x (aJ _ hx)) ?_;rw[List.length_cons,Nat.pow_succ,TU (M^rs.length),<- Nat.mul_assoc];exact QU _ l1
theorem Wr{α:Type}(g:α->Int)(b:Nat):∀ws:List α,(∀w∈ws,(g w).natAbs<=b)->(ws.map g).sum.natAbs<=ws.length*b
 |[],_=>by simp
 |w::ws,h=>by
  have a:=h w (aO ..);have c:=Wr g b ws λx hx=>h x (aJ _ hx);rw[List.map_cons,QR,List.length_cons,Nat.add_mul,Q4];have:=Int.natAbs_add_le (g w) (ws.map g).sum;lia
theorem afu{s:Rat}{m PN PD CQ t b:Nat}{o:bN}{tp:List Int}{B:Nat}(hs:Shr s)(h:OfB m PN PD CQ o)(hc:CQ<=10^4)(hn:PN<=10^30)(hp:PD<=10^3)(tl:tp.length=m)(ht:∀x∈tp,x.natAbs<=10^t)(hB:B<=10^b)(lt:t<=2000)(lb:b<=2000):LkB s o tp B/\Bq (je s tp B o):=by
 obtain⟨q,q0,q1,hq⟩:=h.cq;have lq:cD 1 (o.ways.map (·.2))<=10^4:=aL (UX q0 (pU _ (QY _) λr hr=>by
  obtain⟨w,hw,rfl⟩:=YV.mp hr;exact hq w hw)) (aL q1 hc)
 have lp:=eY (o.ways.map (·.2)) UY;have sz:=Am hs;have pz:Rz 30 3 o.pay:=⟨aL h.pn hn,aL h.pd hp⟩;have bz:Rz b 0 (B:Rat):=⟨hB,aG 1⟩;have part:∀w∈o.ways,(w.2.num*((cD 1 (o.ways.map (·.2))/w.2.den:Nat):Int)).natAbs<=10^8:=λw hw=>by
  rw[VY,XG];exact aL (WH (aa3 h hc hw).1 (aL (Zyy _ _) lq)) (by decide)
 have top:∀k,(tp.getD k 0).natAbs<=10^t:=λk=>by
  rw[au];cases e:tp[k]? with
  |none=>exact aZ _
  |some x=>exact ht x (aC e)
 have dz:Rz (t+11) 4 (Fq o.ways tp):=by
  rw[<- K_ lp tp o.ways λw hw=>(jy _).2 _ (YV.mpr ⟨w,hw,rfl⟩)];refine Ui (by lia) ?_ (by rw[Zyv];exact lq);refine aL (Wr _ (10^8*10^t) o.ways λw hw=>?_) ?_
  .rw[VY];exact WH (part w hw) (top w.1)
  .refine aL (QU _ h.few) ?_;rw[show(1000:Nat)=10^3 from rfl,<- Nat.mul_assoc,<- VT,<- VT];exact XT (by decide) (by lia)
 have p1:=pz.mul bz;have p2:=sz.mul dz;refine⟨⟨⟨h.few,λw hw=>by rw[tl];exact h.lt w hw,λw hw=>((aa3 h hc hw).bq (by decide) (by decide)).1,iD (n:=4) (by rw[XG];exact lq) (by decide),λx hx=>?_,λx hx=>iD (ht x hx) (aL lt (by decide))⟩,pz.bq (by decide) (by decide),sz.bq (by decide) (by decide),iD (n:=b) (by rw[XG];exact hB) (aL lb (by decide)),dz.bq (by lia) (by decide),sz.dd dz (by decide),p1.bq (by lia) (by decide),p2.bq (by lia) (by decide),p1.dd p2 (by decide)⟩,(p1.add p2 (k:=2100) (by lia) (by lia)).bq (by decide) (by decide)⟩;unfold tops at hx;rw[WP]at hx;obtain⟨w,hw,rfl⟩:=YV.mp hx;exact iD (n:=8) (part w hw) (by decide)
theorem YZ{c:Nat}(hc:1<=c):∀{off:List (List bN)},(∀ds∈off,ds.length<=c)->(sU off).length<=c^off.length
 |[],_=>aG 1
 |ds::off,h=>by
  have ih:=YZ hc (off:=off) λx hx=>h x (aJ _ hx);have l:∀(as:List (Option Nat)),((as.map λd=>(sU off).map λpl=>d::pl).flatten).length=as.length*(sU off).length:=λas=>by
   induction as with
   |nil=>simp
   |cons a as ih=>rw[List.map_cons,List.flatten_cons,aA,ak,ih,List.length_cons,Nat.add_mul,Q4,Nat.add_comm]
  unfold sU;rw[l,List.length_cons,Nat.pow_succ,TU];refine WH ih ?_;split
  .exact hc
  .rw[ak,WJ];exact h ds (aO ..)
theorem Ye{s:Rat}{off:List (List bN)}{PN PD CQ N e:Nat}(hs:Shr s)(few:off.length<=100)(ob:∀ds∈off,∀o∈ds,OfB off.length PN PD CQ o)(h1:1<=PD)(h2:1<=CQ)(hc:CQ<=10^4)(hn:PN<=10^30)(hp:PD<=10^3)(hN:N=(PN+1)*(100*CQ*PD))(mb:(2*off.length*N)^off.length<=10^e)(he:e<=600)(nn:N<=NN)(le:e+e*off.length<=2000)(pls:(sU off).length<sizeLine):MnB s off N:=by
 have mn:(2*off.length*N)^off.length<=NN:=aL mb (XT (by decide) he);refine⟨hs.lo,hs.hi,few,λds dk o ho=>let b:=ob ds dk o ho;⟨b.lt,b.nn,b.one⟩,λpl bi=>aeC hs few ob h1 h2 hc hN mn nn bi,λys yl yb=>?_,pls⟩;have yn:∀r∈ys,r.num.natAbs<=10^e:=λr hr=>aL (yb r hr).n mb;have yd:∀r∈ys,r.den<=10^e:=λr hr=>aL (yb r hr).d mb;have lc:cD 1 ys<=10^(e*off.length):=by
  have:=T8 ys 1 (10^e) (Zzz (by decide)) yd;rw[Q4,yl,<- Nat.pow_mul]at this;exact this
 refine⟨by lia,λr hr=>iD (yn r hr) (aL he (by decide)),iD (n:=e*off.length) (by rw[XG];exact lc) (by lia),λds dk o ho=>afu (t:=e+e*off.length) (b:=e*off.length) hs (ob ds dk o ho) hc hn hp (by unfold tops;rw[ak];exact yl) (λx hx=>?_) lc (by omega) (by lia)⟩;obtain⟨r,hr,rfl⟩:=YV.mp hx;rw[VY,XG,VT];exact WH (yn r hr) (aL (Zyy _ _) lc)
theorem aeg{m:Nat}(h:m<=6):(2*m*((10^30+1)*(100*4000*1000)))^m<=10^246:=by
 obtain rfl|rfl|rfl|rfl|rfl|rfl|rfl:m=0\/m=1\/m=2\/m=3\/m=4\/m=5\/m=6:=by lia
 all_goals decide +kernel
theorem acs{m:Nat}(h:m<=8):(2*m*((9+1)*(100*1*1)))^m<=10^40:=by
 obtain rfl|rfl|rfl|rfl|rfl|rfl|rfl|rfl|rfl:m=0\/m=1\/m=2\/m=3\/m=4\/m=5\/m=6\/m=7\/m=8:=by lia
 all_goals decide +kernel
def Small(m:Nat)(ae:List (List LD)):Prop:=m<=6\/(m<=8/\∀ds∈ae,∀d∈ds,d.pay.den=1/\d.pay.num.natAbs<=9/\∀p∈d.prs,p.2=1)
theorem adl{s:Rat}{m:Nat}{ae:List (List LD)}{off:List (List bN)}(hs:Shr s)(hd:DSk m 4 ae)(sm:Small m ae)(ho:yH ae off):∃N,MnB s off N:=by
 have ol:off.length=m:=by rw[ho.len,hd.len]
 have fo:∀ds∈off,ds.length<=4:=λos f'=>by
  obtain⟨k,ek⟩:=aV f';have lk:k<ae.length:=by rw[<- ho.len];exact(ao.mp ek).1
  obtain⟨tl,_,rfl⟩:=ho.at_ k _ os (aj lk) ek;have:=hd.few _ (aU lk);rw[ak,VX];lia
 have pl:=YZ (by decide:1<=4) fo;rcases sm with h|⟨h,ht⟩
 .have l:4^off.length<=4^8:=XT (by decide) (by lia);exact⟨_,Ye (e:=246) hs (by lia) (by rw[ol];exact aat hd ho) (by decide) (by decide) (by decide) (by decide) (by decide) rfl (aeg (aL (WG ol) h)) (by decide) (by decide +kernel) (by have:246*off.length<=246*6:=U2 _ (aL (WG ol) h);lia) (Y3 (aL pl l) (by decide))⟩
 .have l:4^off.length<=4^8:=XT (by decide) (aL (WG ol) h);exact⟨_,Ye (e:=40) hs (by lia) (by rw[ol];exact Rr hd ht ho) (by decide) (by decide) (by decide) (by decide) (by decide) rfl (acs (aL (WG ol) h)) (by decide) (by decide +kernel) (by have:40*off.length<=40*8:=U2 _ (aL (WG ol) h);lia) (Y3 (aL pl l) (by decide))⟩
theorem abp{ae:List (List LD)}{off:List (List bN)}(ho:yH ae off){pl:List (Option Nat)}(h:PlD ae pl):PlT off pl:=by
 refine⟨by rw[h.len,ho.len],λk d os e1 e2=>?_⟩;have lk:k<ae.length:=by rw[<- ho.len];exact(ao.mp e2).1
 have ek:=aj lk;obtain⟨tl,g5,rfl⟩:=ho.at_ k _ os ek e2;have:=h.ok k d _ e1 ek;rw[ak,VX,g5,UV];exact this
noncomputable abbrev pT(a b:Int):T:=.tup [.int a,.int b]
theorem div_mul{a b:Int}(hb:0<b):Rat.divInt a b*(b:Rat)=(a:Rat):=by
 have:(b:Rat)≠0:=λz=>by have:=Rat.intCast_eq_zero_iff.mp z;lia
 rw[UK]
 grind
theorem cast_pos{b:Int}(hb:0<b):(0:Rat)<(b:Rat):=Rat.intCast_lt_intCast.mpr hb
theorem T7{a b c d:Int}(hb:0<b)(hd:0<d):Rat.divInt a b<Rat.divInt c d↔a*d<c*b:=by
 have e1:=div_mul (a:=a) hb;have e2:=div_mul (a:=c) hd;have pb:=cast_pos hb;have pd:=cast_pos hd;rw[<- Rat.intCast_lt_intCast,XV,XV,<- e1,<- e2];generalize Rat.divInt a b=x;generalize Rat.divInt c d=y;have pp:(0:Rat)<(b:Rat)*(d:Rat):=Rat.mul_pos pb pd;rw[show x*(b:Rat)*(d:Rat)=x*((b:Rat)*(d:Rat))from Rat.mul_assoc ..,show y*(d:Rat)*(b:Rat)=y*((b:Rat)*(d:Rat))by grind];exact(Zxs pp).symm
noncomputable abbrev VV:Nat:=10^32
structure YsB(ys:List Rat):Prop where
 dn:∀y∈ys,y.den<=10^580
 hi:∀y∈ys,y<=(VV:Rat)
 lo:∀y∈ys,-(VV:Rat)<=y
theorem YsB.num{ys:List Rat}(h:YsB ys){y:Rat}(hy:y∈ys):y.num.natAbs<=10^612:=by
 refine aL (Dg (h.hi y hy) (h.lo y hy)) ?_;rw[show 10^612=VV*10^580 by unfold VV;rw[<- VT]];exact U2 _ (h.dn y hy)
theorem YsB.z{ys:List Rat}(h:YsB ys){y:Rat}(hy:y∈ys):Rz 612 580 y:=⟨h.num hy,h.dn y hy⟩
theorem YsB.get{ys:List Rat}(h:YsB ys)(k:Nat):Rz 612 580 (ys.getD k 0)/\ys.getD k 0<=(VV:Rat)/\-(VV:Rat)<=ys.getD k 0:=by
 rw[au];cases e:ys[k]? with
 |none=>exact⟨⟨aZ _,Zzz (by decide)⟩,by show(0:Rat)<=_;decide +kernel,by show _<=(0:Rat);decide +kernel⟩
 |some y=>have m:=aC e;exact⟨h.z m,h.hi y m,h.lo y m⟩
theorem ab2{a b:Int}{A:Nat}(hb:0<b)(h1:Rat.divInt a b<=(A:Rat))(h2 : -(A:Rat)<=Rat.divInt a b):a.natAbs<=A*b.toNat:=by
 have e:=div_mul (a:=a) hb;have pb:=cast_pos hb;have x:(a:Rat)<=(((A:Int)*b:Int):Rat):=by
  rw[<- e,XV];exact Qr h1 (TZ pb)
 have y:((-((A:Int)*b):Int):Rat)<=(a:Rat):=by
  rw[<- e,Rat.intCast_neg,XV];have:=Qr h2 (TZ pb);rw[Rat.neg_mul]at this;exact this
 have x:=Rat.intCast_le_intCast.mp x;have y:=Rat.intCast_le_intCast.mp y;have c:((A*b.toNat:Nat):Int)=(A:Int)*b:=by rw[Th,Zxv (XY hb)]
 omega
def Mx(s:Rat)(y:Nat->Rat)(d:LD):Rat:=d.pay+s*dw d.prs y
theorem ZC{y:Nat->Rat}{C:Rat}(hC:0<=C){ws:List (Nat×Rat)}(nn:∀w∈ws,0<=w.2)(one:(dw ws λ_=>1)<=1)(hi:∀k,y k<=C)(lo:∀k,-C<=y k):dw ws y<=C/\-C<=dw ws y:=by
 have a:=RQ (M:=C) (x:=y) (ws:=ws) λw hw=>⟨nn w hw,hi w.1⟩;have b:=RQ (M:=C) (x:=λk=>-(y k)) (ws:=ws) λw hw=>⟨nn w hw,by have:=lo w.1;grind⟩;rw[Mv]at b;rw[<- Gz]at one;have c:yD ws*C<=1*C:=Qr one hC;constructor<;>grind
theorem ae3{as bs:List (Nat×Rat)}(nn:∀w∈as++bs,0<=w.2)(one:(dw (as++bs) λ_=>1)<=1):(dw as λ_=>1)<=1:=by
 rw[Ja]at one;have:0<=dw bs λ_=>1:=by
  clear one
  induction bs with
  |nil=>exact VW
  |cons w ws ih =>
   rw[cT];have:=ih λx hx=>nn x (by rcases Y1.mp hx with z|z;exact UH _ z;exact aP _ (aJ _ z));have:=nn w (aP _ (aO ..))
   grind
 grind
open Rw (sg fX fG bW gD gW Big sz)
def Uo(s:Rat)(y:Nat->Rat)(ae:List (List LD))(pl:List (Option Nat))(k:Nat):Rat:=match(pl.getD k none).bind λd=>(ae.getD k [])[d]? with
 |none=>0
 |some d=>Mx s y d
theorem Vg{s:Rat}{y:Nat->Rat}{m:Nat}{d:LD}{t:Str}(h:LDk m d):WX s y (UW t d)=Mx s y d:=by
 obtain⟨q,q0,_,hq⟩:=h.all;unfold WX Mx;rw[(Gb q0 hq).sum]
theorem abV{ae:List (List LD)}{off:List (List bN)}(ho:yH ae off)(k d:Nat):∃t:Str,(off.getD k [])[d]?=((ae.getD k [])[d]?).map (UW t):=by
 by_cases hk:k<ae.length
 .have e1:=aj hk;have e2:=aj (show k<off.length by rw[ho.len];exact hk);obtain⟨tl,l,eo⟩:=ho.at_ k _ _ e1 e2;rw[au,au,e1,e2];show ∃t,(off[k]'(by rw[ho.len];exact hk))[d]?=(ae[k][d]?).map (UW t);rw[eo,aq];by_cases hd:d<ae[k].length
  .refine⟨tl[d]'(by lia),?_⟩;rw[aj (show d<(tl.zip ae[k]).length by rw[VX];lia),aj hd,Zys]
   rfl
  .exact⟨⟨#[]⟩,by rw[aM (show(tl.zip ae[k]).length<=d by rw[VX];lia),aM (show ae[k].length<=d by exact VU hd)];rfl⟩
 .have e1:ae[k]?=none:=aM (VU hk);have e2:off[k]?=none:=aM (by rw[ho.len];exact VU hk);exact⟨⟨#[]⟩,by rw[au,au,e1,e2];rfl⟩
theorem ZL{s:Rat}{y:Nat->Rat}{m mo:Nat}{ae:List (List LD)}{off:List (List bN)}(hd:DSk m mo ae)(ho:yH ae off){pl:List (Option Nat)}{k:Nat}(hk:k<pl.length):lV s y ((chO off pl).getD k none)=Uo s y ae pl k:=by
 have ek:=aj hk;rw[nq ek];unfold Uo;rw[show pl.getD k none=pl[k]by rw[au,ek];rfl];cases pl[k]with
 |none =>
  show(0:Rat)+s*0=0
  grind
 |some d =>
  obtain⟨t,et⟩:=abV ho k d;show lV s y ((off.getD k [])[d]?)=match(ae.getD k [])[d]? with|none=>0|some d=>Mx s y d
  rw[et];cases ed:(ae.getD k [])[d]? with
  |none =>
   show(0:Rat)+s*0=0
   grind
  |some x =>
   have lx:LDk m x:=by
    by_cases c:k<ae.length
    .rw[au,aj c]at ed;exact hd.ok _ (aU c) x (aC ed)
    .have:ae[k]?=none:=aM (VU c);rw[au,this]at ed;cases ed
   exact Vg lx
structure Opt(s:Rat)(m:Nat)(ae:List (List LD))(ys:List Rat):Prop where
 len:ys.length=m
 le:∀(k:Nat)ds,ae[k]?=some ds->∀d∈ds,Mx s (λj=>ys.getD j 0) d<=ys.getD k 0
 no:∀k,k<m->ae.getD k []=[]->ys.getD k 0=0
theorem afd{s:Rat}{m mo M:Nat}{ae:List (List LD)}{off:List (List bN)}(hd:DSk m mo ae)(ho:yH ae off){pl:List (Option Nat)}{ps:List PWs}(h:En s off M pl ps){p:PWs}(e:ps.getLast?=some p):Opt s m ae p.2:=by
 have mem:p∈ps:=QP e;obtain⟨k1,k2,_⟩:=h.told.ok p mem;have ol:off.length=m:=by rw[ho.len,hd.len]
 have lst:=h.last p e;refine⟨by rw[k2.1,ol],λk ds ek x hx=>?_,λk hk e0=>?_⟩
 .have lk:k<ae.length:=(ao.mp ek).1;have lo:k<off.length:=by rw[ho.len];exact lk
  have eo:=aj lo;obtain⟨tl,g5,eos⟩:=ho.at_ k ds _ ek eo;have lp:k<p.1.length:=by rw[k1.len];exact lo
  have ep:=aj lp;have ft:=k1.ok k _ _ ep eo;have ol':off[k].length=ds.length:=by rw[eos,ak,VX];lia
  obtain⟨j,ej⟩:=aV hx;have lj:j<ds.length:=(ao.mp ej).1;have lj':j<off[k].length:=by rw[ol'];exact lj
  have eoj:off[k][j]=UW (tl[j]'(by lia)) x:=by
   have:(off[k])[j]?=some (UW (tl[j]'(by lia)) x):=by
    rw[eos,aq,aj (show j<(tl.zip ds).length by rw[VX];lia),Zys];rw[aj lj]at ej;cases ej
    rfl
   rw[aj lj']at this;exact Option.some.inj this
  have lx:=hd.ok ds (aC ek) x hx;have yk:=k2.2 k lo;rw[nq ep]at yk;cases ed:p.1[k]with
  |none =>
   rw[ed]at ft;have:off[k].length=0:=of_decide_eq_true ft;lia
  |some c =>
   rw[ed]at ep yk;have lc:c<off[k].length:=by rw[ed]at ft;exact of_decide_eq_true ft
   obtain⟨b,eb,kf⟩:=lst.some k c _ ep eo;rw[ep]at eb;cases eb;have du:je s (tops (cD 1 p.2) p.2) (cD 1 p.2) off[k][j]<=je s (tops (cD 1 p.2) p.2) (cD 1 p.2) off[k][c]:=by
    rcases kf with⟨le,_⟩|⟨lt,_⟩
    .have:=le _ (YV.mpr ⟨_,aU lj',rfl⟩);rw[au,aq,aj lc]at this;exact this
    .exact absurd lt (by grind)
   rw[yw,yw]at du;have hB:=eY p.2 UY;have pp:(0:Rat)<((cD 1 p.2:Nat):Rat):=by
    have:((0:Int):Rat)<(((cD 1 p.2:Nat):Int):Rat):=Rat.intCast_lt_intCast.mpr (by lia);exact this
   have du:=Rat.not_lt.mp λlt=>absurd du (Rat.not_le.mpr ((Zxs pp).mpr lt));rw[eoj,Vg lx]at du;have yk:p.2.getD k 0=lV s (λk=>p.2.getD k 0) ((off.getD k [])[c]?):=yk;rw[au (l:=off),eo]at yk;have yk:p.2.getD k 0=lV s (λk=>p.2.getD k 0) (off[k][c]?):=yk;rw[aj lc]at yk;rw[yk];exact du
 .have lo:k<off.length:=by rw[ol];exact hk
  have lp:k<p.1.length:=by rw[k1.len];exact lo
  rw[k2.2 k lo,ZL hd ho lp];unfold Uo;rw[e0];cases p.1.getD k none<;>rfl
open Rw (sg fX fG bW gD gW Big vr)
theorem Ug{ac:List (List Rat)}{N:Nat}(h:Sys ac N){y:Nat->Rat}(hy:∀r∈ac,sg (λj=>r.getD j 0*y j) ac.length=r.getD ac.length 0):∃D:Nat,0<D/\D<=(2*(ac.length+1)*N)^ac.length/\∀i,i<ac.length->(y i).den ∣ D:=by
 have row:∀l,l<ac.length->ac.getD l []∈ac:=λl hl=>by
  rw[au,aj hl];exact aU hl
 obtain⟨ax,⟨k0,hV,fS⟩,bl,zr⟩:=Rw.S6 (p:=ac.length) (N:=N) (C:=λk l=>(iV (ac.getD l [])).1.getD k 0) h.one λk l hk hl=>by
  have B:=h.lev _ (row l hl);rw[au];cases e:(iV (ac.getD l [])).1[k]? with
  |none=>exact aZ _
  |some t=>exact B.top t (aC e)
 have zq:∀r∈ac,sg (λj=>r.getD j 0*(ax j:Rat)) (ac.length+1)=0:=λr hr=>by
  obtain⟨l,el⟩:=aV hr;have hl:=(ao.mp el).1;have er:ac.getD l []=r:=by rw[au,el];rfl
  have z:=zr l hl;rw[er]at z;have z':sg (λk=>((ax k*(iV r).1.getD k 0:Int):Rat)) (ac.length+1)=0:=by rw[<- Rw.FP,z];rfl
  have hB:=eY r UY;have nB:(((iV r).2:Int):Rat)≠0:=λw=>by
   have:(iV r).2=0:=Rat.intCast_eq_zero_iff.mp w;have:((cD 1 r:Nat):Int)=0:=this;lia
  rw[bW (g:=λk=>(1/(((iV r).2:Int):Rat))*((ax k*(iV r).1.getD k 0:Int):Rat)) λj _=>?_,fG,z',Rat.mul_zero];rw[<- G7 r j,XV];unfold vr
  grind
 have last:∀(f:Nat->Rat),sg f (ac.length+1)=sg f ac.length+f ac.length:=λf=>rfl;have nm:ax ac.length≠0:=λz=>by
  have:=h.inj (λj=>if j<ac.length then(ax j:Rat)else 0) (λj hj=>ZZ (Ts hj)) λr hr=>by
   refine(bW λj hj=>?_).trans (zq r hr);by_cases c:j<ac.length
   .rw[ZY c]
   .rw[ZZ c,show j=ac.length by lia,z];rfl
  by_cases c:k0<ac.length
  .have w:=this k0 c;rw[ZY c]at w;exact fS (Rat.intCast_eq_zero_iff.mp w)
  .exact fS (by rw[show k0=ac.length by lia];exact z)
 have ey:∀i,i<ac.length->(ax ac.length:Rat)*y i+(ax i:Rat)=0:=λi hi=>by
  have:=h.inj (λj=>if j<ac.length then(ax ac.length:Rat)*y j+(ax j:Rat)else 0) (λj hj=>ZZ (Ts hj)) (λr hr=>by
   rw[last,ZZ (X9 _),Rat.mul_zero,Rat.add_zero];rw[bW (g:=λj=>(ax ac.length:Rat)*(r.getD j 0*y j)+r.getD j 0*(ax j:Rat)) λj hj=>by rw[ZY hj];grind,fX,fG,hy r hr];have:=zq r hr;rw[last]at this
   grind) i hi
  rw[ZY hi]at this;exact this
 have np:0<(ax ac.length).natAbs:=by lia
 refine⟨(ax ac.length).natAbs,np,bl _,λi hi=>(uq np).mpr ?_⟩;have e:=ey i hi;have nr:(ax ac.length:Rat)≠0:=λz=>nm (Rat.intCast_eq_zero_iff.mp z);rcases Int.natAbs_eq (ax ac.length)with c|c
 .refine⟨-(ax i),?_⟩;rw[<- c,UK,Rat.intCast_neg]
  grind
 .refine⟨ax i,?_⟩;rw[show(((ax ac.length).natAbs:Nat):Int)=-(ax ac.length)by lia,UK,Rat.intCast_neg]
  grind
theorem Shr.left{s:Rat}(h:Shr s):(1:Rat)<=(1-s)*100:=by
 have e:=(one_sub (a:=s.num) (b:=(s.den:Nat)) (jm s));rw[rd]at e;have h1:=(Rat.lt_iff s 1).mp h.hi;have h1:s.num*((1:Nat):Int)<1*(s.den:Int):=h1;have hd:=h.den;have dp:=s.den_pos;have m:=div_mul (a:=(s.den:Int)-s.num) (b:=(s.den:Nat)) (by lia);rw[<- e]at m;have a:((1:Int):Rat)<=(((s.den:Int)-s.num:Int):Rat):=Rat.intCast_le_intCast.mpr (by lia);have b:(((s.den:Nat):Int):Rat)<=((100:Int):Rat):=Rat.intCast_le_intCast.mpr (by lia);have p:(0:Rat)<=1-s:=by have:=h.hi;grind
 have c:=UR b p;have i1:((1:Int):Rat)=1:=rfl;have i2:((100:Int):Rat)=100:=rfl;rw[m]at c;rw[i1]at a;rw[i2]at c;exact US a c
theorem aaW{r:Rat}{A:Nat}(h:r.num.natAbs<=A):r<=(A:Rat)/\-(A:Rat)<=r:=by
 have dp:=r.den_pos;constructor
 .refine(Rat.le_iff r (A:Rat)).mpr ?_;show r.num*((1:Nat):Int)<=(A:Int)*(r.den:Int);have:(A:Int)*1<=(A:Int)*(r.den:Int):=Int.mul_le_mul_of_nonneg_left (by lia) (Wp _);omega
 .refine(Rat.le_iff (-(A:Rat)) r).mpr ?_;show -(A:Int)*(r.den:Int)<=r.num*((1:Nat):Int);have:(A:Int)*1<=(A:Int)*(r.den:Int):=Int.mul_le_mul_of_nonneg_left (by lia) (Wp _);rw[Int.neg_mul];omega
theorem WM{m PN PD CQ:Nat}{s:Rat}{c:Nat->Option bN}{y:Nat->Rat}(hs:Shr s)(hc:∀i,i<m->CoB m PN PD CQ (c i))(hn:PN<=10^30)(hy:∀i,i<m->y i=lV s y (c i)):∀i,i<m->y i<=(VV:Rat)/\-(VV:Rat)<=y i:=λi hi=>by
 have vp:(0:Rat)<=(VV:Rat):=by decide +kernel
 have ke:∀(C:Rat)(ws:List (Nat×Rat)),dw ws (λ_=>C)=C*yD ws:=λC ws=>by
  induction ws with
  |nil=>show(0:Rat)=C*0;grind
  |cons w ws ih=>rw[cT,tH,ih];grind
 have l:=hs.left;have v:(VV:Rat)=100*((10^30:Nat):Rat):=by decide +kernel
 have pp:(0:Rat)<=((10^30:Nat):Rat):=by decide +kernel
 have d:=Qr l pp;have df:∀k,k<m->(jX (c k)<=((10^30:Nat):Rat)/\-((10^30:Nat):Rat)<=jX (c k))/\s*((VV:Rat)*yD (gB (c k)))<=s*(VV:Rat):=λk hk=>by
  refine⟨aaW (aL (hc k hk).pn hn),?_⟩;have one:=(CoB.sh (s:=s) (hc k hk)).one;have:=UR one vp;have:=UR this hs.lo
  grind
 constructor
 .have:=sub_le (m:=m) (ws:=λi=>gB (c i)) hs.lo hs.hi (λi hi=>(hc i hi).sh) (x:=λj=>y j-(VV:Rat)) (λk hk=>by
   rw[DX,ke];have e:=hy k hk;unfold lV at e;obtain⟨⟨a,b⟩,g⟩:=df k hk;show y k-(VV:Rat)<=_
   grind) i hi
  grind
 .have:=sub_le (m:=m) (ws:=λi=>gB (c i)) hs.lo hs.hi (λi hi=>(hc i hi).sh) (x:=λj=>-(y j)-(VV:Rat)) (λk hk=>by
   rw[DX (λj=>-(y j)),ke,Mv];have e:=hy k hk;unfold lV at e;obtain⟨⟨a,b⟩,g⟩:=df k hk;show -(y k)-(VV:Rat)<=_
   grind) i hi
  grind
def vP(s:Rat)(off:List (List bN))(pl:List (Option Nat))(y:Nat->Rat)(i:Nat):Rat:=lV s y ((chO off pl).getD i none)
noncomputable abbrev gt(ys:List Rat):Nat->Rat:=λk=>ys.getD k 0
section
variable{s:Rat}{off:List (List bN)}(s0:0<=s)(s1:s<1)(sh:∀ds∈off,∀o∈ds,ShB s off.length o.ways)
theorem aaE{pl:List (Option Nat)}(x y:Nat->Rat)(i:Nat):vP s off pl y i-vP s off pl x i=s*dw (gB ((chO off pl).getD i none)) λj=>y j-x j:=by
 unfold vP lV;rw[DX]
 grind
include s0 sh in
theorem V1{pl:List (Option Nat)}(hp:PlT off pl){x y:Nat->Rat}(h:∀j,j<off.length->x j<=y j){i:Nat}(hi:i<off.length):vP s off pl x i<=vP s off pl y i:=by
 have b:=qG sh hp i hi;have:=Nb (ws:=gB ((chO off pl).getD i none)) (x:=x) (z:=y) λw hw=>⟨b.nn w hw,h _ (b.lt w hw)⟩;have:=UR this s0;unfold vP lV
 grind
theorem Y4{pl a8 ql:List (Option Nat)}{ys:List Rat}(hp:PlT off pl)(hq:PlT off ql)(h:Mnd s off ys pl a8){i:Nat}(hi:i<off.length):vP s off ql (gt ys) i<=vP s off a8 (gt ys) i:=by
 have eo:=aj hi;have ep:=aj (show i<pl.length by rw[hp.len];exact hi);have eq:=aj (show i<ql.length by rw[hq.len];exact hi);have fp:=hp.ok i _ _ ep eo;have fq:=hq.ok i _ _ eq eo;have go:off.getD i []=off[i]:=by rw[au,eo];rfl
 unfold vP;rw[nq eq];cases ed:pl[i]'(by rw[hp.len];exact hi)with
 |none =>
  rw[ed]at ep fp;have l0:off[i].length=0:=of_decide_eq_true fp;rw[nq (h.none i ep)];cases ec:ql[i]'(by rw[hq.len];exact hi)with
  |none=>exact VW
  |some c=>rw[ec]at fq;have:c<off[i].length:=of_decide_eq_true fq;lia
 |some d =>
  rw[ed]at ep fp;have ld:d<off[i].length:=of_decide_eq_true fp;obtain⟨b,eb,kf⟩:=h.some i d _ ep eo;rw[nq eb];have lb:b<off[i].length:=by
   rcases kf with⟨_,rfl⟩|⟨_,l,_⟩
   .exact ld
   .rwa[ak]at l
  cases ec:ql[i]'(by rw[hq.len];exact hi)with
  |none=>rw[ec]at fq;have:off[i].length=0:=of_decide_eq_true fq;lia
  |some c =>
   rw[ec]at fq;have lc:c<off[i].length:=of_decide_eq_true fq;show lV s _ ((off.getD i [])[c]?)<=lV s _ ((off.getD i [])[b]?);rw[go,aj lc,aj lb];have du:je s (tops (cD 1 ys) ys) (cD 1 ys) off[i][c]<=je s (tops (cD 1 ys) ys) (cD 1 ys) off[i][b]:=by
    have gb:(off[i].map (je s (tops (cD 1 ys) ys) (cD 1 ys))).getD b 0=je s (tops (cD 1 ys) ys) (cD 1 ys) off[i][b]:=by
     rw[au,aq,aj lb];rfl
    have mem:je s (tops (cD 1 ys) ys) (cD 1 ys) off[i][c]∈off[i].map (je s (tops (cD 1 ys) ys) (cD 1 ys)):=YV.mpr ⟨_,aU lc,rfl⟩;rcases kf with⟨le,rfl⟩|⟨_,_,le,_⟩
    .rw[<- gb];exact le _ mem
    .rw[<- gb];exact le _ mem
   rw[yw,yw]at du;have hB:=eY ys UY;have pp:(0:Rat)<((cD 1 ys:Nat):Rat):=by
    have:((0:Int):Rat)<(((cD 1 ys:Nat):Int):Rat):=Rat.intCast_lt_intCast.mpr (by lia);exact this
   exact Rat.not_lt.mp λlt=>absurd du (Rat.not_le.mpr ((Zxs pp).mpr lt))
def Df(m:Nat)(v y:Nat->Rat)(c:Rat):Prop:=∀i,i<m->v i-y i<=c
include s0 sh in
theorem alZ{pl:List (Option Nat)}(hp:PlT off pl){u:Nat->Rat}{c:Rat}(c0:0<=c)(h:∀j,j<off.length->u j<=c){i:Nat}(hi:i<off.length):s*dw (gB ((chO off pl).getD i none)) u<=s*c:=by
 have b:=qG sh hp i hi;have a:=RQ (M:=c) (x:=u) (ws:=gB ((chO off pl).getD i none)) λw hw=>⟨b.nn w hw,h _ (b.lt w hw)⟩;have d:yD (gB ((chO off pl).getD i none))*c<=1*c:=Qr b.one c0;exact UR (by grind) s0
theorem nearer{pl a8 ql:List (Option Nat)}{ys zs vs:List Rat}(s0:0<=s)(s1:s<1)(sh:∀ds∈off,∀o∈ds,ShB s off.length o.ways)(hp:PlT off pl)(hq:PlT off ql)(h:Mnd s off ys pl a8)(hy:j6 s off pl ys)(hz:j6 s off a8 zs)(hv:j6 s off ql vs){c:Rat}(c0:0<=c)(d:Df off.length (gt vs) (gt ys) c):Df off.length (gt vs) (gt zs) (s*c):=λi hi=>by
 have c9:=DG hp h;obtain⟨r1,_⟩:=rise (z:=gt zs) s0 s1 sh hp h hy.2 hz.2;have a:zs.getD i 0=vP s off a8 (gt zs) i:=hz.2 i hi;have b:=V1 s0 sh c9 (x:=gt ys) (y:=gt zs) r1 hi;have m:=Y4 hp hq h hi;have e:vs.getD i 0=vP s off ql (gt vs) i:=hv.2 i hi;have f:=aaE (s:=s) (off:=off) (pl:=ql) (gt ys) (gt vs) i;have g:=alZ s0 sh hq c0 d hi;show vs.getD i 0-zs.getD i 0<=_
 grind
def eE(s:Rat)(off:List (List bN))(vs:List Rat)(pl:List (Option Nat))(i:Nat):Rat:=vs.getD i 0-vP s off pl (gt vs) i
theorem acV{pl:List (Option Nat)}{ys vs:List Rat}(s0:0<=s)(sh:∀ds∈off,∀o∈ds,ShB s off.length o.ways)(hp:PlT off pl)(hy:j6 s off pl ys)(le:∀i,i<off.length->ys.getD i 0<=vs.getD i 0){i:Nat}(hi:i<off.length):eE s off vs pl i<=vs.getD i 0-ys.getD i 0:=by
 have a:ys.getD i 0=vP s off pl (gt ys) i:=hy.2 i hi;have b:=V1 s0 sh hp (x:=gt ys) (y:=gt vs) le hi;unfold eE
 grind
theorem R_{pl:List (Option Nat)}{ys vs:List Rat}(s0:0<=s)(s1:s<1)(sh:∀ds∈off,∀o∈ds,ShB s off.length o.ways)(hp:PlT off pl)(hy:j6 s off pl ys){C:Rat}(C0:0<=C)(h:∀i,i<off.length->eE s off vs pl i<=(1-s)*C):Df off.length (gt vs) (gt ys) C:=λi hi=>by
 have ke:∀(C:Rat)(ws:List (Nat×Rat)),dw ws (λ_=>C)=C*yD ws:=λC ws=>by
  induction ws with
  |nil=>show(0:Rat)=C*0;grind
  |cons w ws ih=>rw[cT,tH,ih];grind
 have:=sub_le (m:=off.length) (ws:=λi=>gB ((chO off pl).getD i none)) s0 s1 (qG sh hp) (x:=λj=>(vs.getD j 0-ys.getD j 0)-C) (λk hk=>by
  have b:=qG sh hp k hk;rw[DX (λj=>vs.getD j 0-ys.getD j 0) (λ_=>C),ke];have f:=aaE (s:=s) (off:=off) (pl:=pl) (gt ys) (gt vs) k;have a:ys.getD k 0=vP s off pl (gt ys) k:=hy.2 k hk;have l:=h k hk;unfold eE at l;have d:C*yD (gB ((chO off pl).getD k none))<=C*1:=UR b.one C0;have e:=UR d s0;show(vs.getD k 0-ys.getD k 0)-C<=_
  grind) i hi
 show vs.getD i 0-ys.getD i 0<=C
 grind
end
theorem Iv{s:Rat}(s0:0<=s):∀n:Nat,0<=s^n
 |0=>by rw[JY];decide
 |n+1=>by rw[TH];exact Zyw (Iv s0 n) s0
theorem Pn{s:Rat}(s0:0<=s)(s1:s<1){n:Nat} : ∀k:Nat,s^(n+k)<=s^n
 |0=>VW
 |k+1=>by
  rw[<- Nat.add_assoc,TH];have a:=Pn s0 s1 (n:=n) k;have b:=Iv s0 (n+k);have c:s^(n+k)*s<=s^(n+k)*1:=UR (TZ s1) b
  grind
section
variable{s:Rat}{off:List (List bN)}{M N:Nat}{pl:List (Option Nat)}{ps:List PWs}{p:PWs}
theorem aaw(h:En s off M pl ps)(B:MnB s off N)(el:ps.getLast?=some p){j:Nat}{a:PWs}(ea:ps[j]?=some a){c:Rat}(c0:0<=c)(d:Df off.length (gt p.2) (gt a.2) c):∀(k:Nat){b:PWs},ps[j+k]?=some b->Df off.length (gt p.2) (gt b.2) (s^k*c)
 |0,b,eb=>by
  rw[Nat.add_zero,ea]at eb;cases eb;rw[JY,Rat.one_mul];exact d
 |k+1,b,eb=>by
  have lb:=(ao.mp eb).1;have em:=aj (show j+k<ps.length by lia);have ih:=aaw h B el ea c0 d k em;obtain⟨u,_⟩:=h.told.up (j+k) _ b em eb;obtain⟨a1,a2,_⟩:=h.told.ok _ (aC em);obtain⟨b1,b2,_⟩:=h.told.ok _ (aC eb);obtain⟨p1,p2,_⟩:=h.told.ok _ (QP el);have:=nearer B.s0 B.s1 B.sh a1 p1 u a2 b2 p2 (Zyw (Iv B.s0 k) c0) ih;rw[TH,show s^k*s*c=s*(s^k*c)by grind];exact this
theorem V9(h:En s off M pl ps)(B:MnB s off N)(el:ps.getLast?=some p)(le:∀(q:PWs),q∈ps->∀i,i<off.length->q.2.getD i 0<=p.2.getD i 0){w:Nat}(hw:s^w<1-s){j:Nat}{a:PWs}(ea:ps[j]?=some a){i:Nat}(hi:i<off.length)(pos:0<eE s off p.2 a.1 i)(mx:∀k,k<off.length->eE s off p.2 a.1 k<=eE s off p.2 a.1 i){t:Nat}(ht:j+w<=t){b:PWs}(eb:ps[t]?=some b):b.1[i]?≠a.1[i]?:=λz=>by
 obtain⟨a1,a2,_⟩:=h.told.ok _ (aC ea);obtain⟨b1,b2,_⟩:=h.told.ok _ (aC eb);have s1:=B.s1;have d0:0<1-s:=by grind
 have C0:0<=eE s off p.2 a.1 i/(1-s):=by
  rw[Rat.div_def];exact Zyw (TZ pos) (TZ (Rat.inv_pos.mpr d0))
 have ec:(1-s)*(eE s off p.2 a.1 i/(1-s))=eE s off p.2 a.1 i:=by
  have:(1-s)≠0:=λz=>by rw[z]at d0;exact absurd d0 (by decide)
  grind
 have f:=R_ B.s0 B.s1 B.sh a1 a2 C0 (vs:=p.2) (λk hk=>by rw[ec];exact mx k hk);have nk:=aaw h B el ea C0 f (t-j) (b:=b) (by rw[show j+(t-j)=t by lia];exact eb) i hi;have same:eE s off p.2 b.1 i=eE s off p.2 a.1 i:=by
  have ea':=aj (show i<a.1.length by rw[a1.len];exact hi);unfold eE vP;rw[nq (z.trans ea'),nq ea']
 have l:=acV B.s0 B.sh b1 b2 (vs:=p.2) (le b (aC eb)) hi;rw[same]at l;have pa:=Pn B.s0 B.s1 (n:=w) (t-j-w);rw[show w+(t-j-w)=t-j by lia]at pa;have x:s^(t-j)<1-s:=by grind
 have nk:p.2.getD i 0-b.2.getD i 0<=s^(t-j)*(eE s off p.2 a.1 i/(1-s)):=nk;have Cp:0<eE s off p.2 a.1 i/(1-s):=by
  rw[Rat.div_def];exact Rat.mul_pos pos (Rat.inv_pos.mpr d0)
 have y:=Rat.mul_lt_mul_of_pos_right x Cp;rw[ec]at y
 grind
end
section
variable{s:Rat}{off:List (List bN)}{M N:Nat}{pl:List (Option Nat)}{ps:List PWs}{p:PWs}
theorem Lr(el:ps.getLast?=some p):ps[ps.length-1]?=some p:=by rw[<- List.getLast?_eq_getElem?];exact el
theorem le_last(h:En s off M pl ps)(B:MnB s off N)(el:ps.getLast?=some p)(q:PWs)(hq:q∈ps)(i:Nat)(hi:i<off.length):q.2.getD i 0<=p.2.getD i 0:=by
 obtain⟨k,ek⟩:=aV hq;have lk:=(ao.mp ek).1;by_cases c:k=ps.length-1
 .rw[c,Lr el]at ek;cases ek;exact VW
 .exact(h.told.more B ek (ps.length-1) (by lia) (Lr el)).1 i hi
theorem Kl(h:En s off M pl ps)(el:ps.getLast?=some p){i:Nat}(hi:i<off.length):eE s off p.2 p.1 i=0:=by
 obtain⟨_,p2,_⟩:=h.told.ok _ (QP el);have:p.2.getD i 0=vP s off p.1 (gt p.2) i:=p2.2 i hi;unfold eE
 grind
theorem aa8(h:En s off M pl ps)(B:MnB s off N)(el:ps.getLast?=some p){k:Nat}{a:PWs}(ea:ps[k]?=some a)(hk:k<ps.length-1):∃i d,i<off.length/\a.1[i]?=some (some d)/\0<eE s off p.2 a.1 i/\∀j,j<off.length->eE s off p.2 a.1 j<=eE s off p.2 a.1 i:=by
 obtain⟨a1,a2,_⟩:=h.told.ok _ (aC ea);obtain⟨p1,p2,_⟩:=h.told.ok _ (QP el);obtain⟨_,i0,j',lt⟩:=h.told.more B ea (ps.length-1) hk (Lr el);obtain⟨i,hi,mx⟩:=Ux (eE s off p.2 a.1) (m:=off.length) (by lia);have pos:0<eE s off p.2 a.1 i:=Rat.not_le.mp λz=>by
  have:=R_ B.s0 B.s1 B.sh a1 a2 (C:=0) VW (vs:=p.2) (λk hk=>by rw[Rat.mul_zero];exact US (mx k hk) z) i0 j';have:p.2.getD i0 0-a.2.getD i0 0<=0:=this
  grind
 have eo:=aj hi;have ei:=aj (show i<a.1.length by rw[a1.len];exact hi);have ep:=aj (show i<p.1.length by rw[p1.len];exact hi);have fa:=a1.ok i _ _ ei eo;have fp:=p1.ok i _ _ ep eo;cases c:a.1[i]'(by rw[a1.len];exact hi)with
 |some d=>rw[c]at ei;exact⟨i,d,hi,ei,pos,mx⟩
 |none =>
  rw[c]at ei fa;have l0:off[i].length=0:=of_decide_eq_true fa;have:p.1[i]?=a.1[i]?:=by
   cases e:p.1[i]'(by rw[p1.len];exact hi)with
   |none=>rw[ep,ei,e]
   |some d=>rw[e]at fp;have:d<off[i].length:=of_decide_eq_true fp;lia
  have z:=Kl h el hi;unfold eE vP at z pos;rw[nq (this.trans ei)]at z;rw[nq ei]at pos;rw[z]at pos;exact absurd pos (by decide)
noncomputable def aaB(off:List (List bN))(pl:List (Option Nat)):List (Nat×Nat):=((List.range off.length).map λi=>((List.range (off.getD i []).length).filter λd=>!decide (pl[i]?=some (some d))).map λd=>(i,d)).flatten
theorem Zm(n:Nat)(f:Nat->Bool){c:Nat}(hc:c<n)(h:f c=false):((List.range n).filter f).length<=n-1:=by
 have nd:((List.range n).filter f).Nodup:=List.nodup_range.filter _;have sub:∀a∈c::(List.range n).filter f,a∈List.range n:=λa ha=>by
  rcases YU.mp ha with rfl|z
  .exact List.mem_range.mpr hc
  .exact(List.mem_filter.mp z).1
 have:=yc (l:=c::(List.range n).filter f) (List.nodup_cons.mpr ⟨(λz=>by have:=(List.mem_filter.mp z).2;rw[h]at this;cases this),nd⟩) sub;rw[List.length_cons,WJ]at this;lia
theorem zN{α:Type}(f g:α->Nat):∀l:List α,(∀a∈l,f a<=g a)->(l.map f).sum<=(l.map g).sum
 |[],_=>aG _
 |a::l,h=>by
  rw[List.map_cons,List.map_cons,QR,QR];have:=h a (aO ..);have:=zN f g l λx hx=>h x (aJ _ hx);lia
theorem aaZ(hp:PlT off pl):(aaB off pl).length<=(off.map λds=>ds.length-1).sum:=by
 unfold aaB;rw[List.length_flatten,WP];have e:(off.map λds=>ds.length-1)=(List.range off.length).map λi=>(off.getD i []).length-1:=by
  refine Zzs λk=>?_;rw[aq,aq];by_cases hk:k<off.length
  .rw[Up hk,aj hk];show some _=some ((off.getD k []).length-1);rw[au,aj hk]
   rfl
  .rw[aM (show off.length<=k by exact VU hk),aM (show(List.range off.length).length<=k by rw[WJ];exact VU hk)]
   rfl
 rw[e];refine zN _ _ _ λi hi=>?_;have hi:=List.mem_range.mp hi;show(((List.range (off.getD i []).length).filter λd=>!decide (pl[i]?=some (some d))).map λd=>(i,d)).length<=_;rw[ak];have eo:=aj hi;have ep:=aj (show i<pl.length by rw[hp.len];exact hi);have ft:=hp.ok i _ _ ep eo;rw[show off.getD i []=off[i]by rw[au,eo];rfl];cases c:pl[i]'(by rw[hp.len];exact hi)with
 |none =>
  rw[c]at ft;have:off[i].length=0:=of_decide_eq_true ft;rw[this];exact aG _
 |some d =>
  rw[c]at ft ep;have ld:d<off[i].length:=of_decide_eq_true ft;exact Zm _ _ ld (by rw[Zs ep];rfl)
theorem aap(h:En s off M pl ps)(B:MnB s off N)(el:ps.getLast?=some p){w:Nat}(w1:1<=w)(hw:s^w<1-s):ps.length<=1+w*(off.map λds=>ds.length-1).sum:=by
 generalize hS:(off.map λds=>ds.length-1).sum=S;refine Nat.not_lt.mp λc=>?_;obtain⟨p1,p2,_⟩:=h.told.ok _ (QP el);have idx:∀j,j<=S->j*w<ps.length-1:=λj hj=>by
  have:j*w<=S*w:=QU _ hj;rw[TU S w]at this;omega
 have kA:∀j,j<=S->∃x:Nat×Nat,∃a:PWs,ps[j*w]?=some a/\x.1<off.length/\a.1[x.1]?=some (some x.2)/\0<eE s off p.2 a.1 x.1/\∀k,k<off.length->eE s off p.2 a.1 k<=eE s off p.2 a.1 x.1:=λj hj=>by
  have li:=idx j hj;have ea:=aj (show j*w<ps.length by exact aR li (Nat.sub_le _ _));obtain⟨i,d,x1,x2,x3,x4⟩:=aa8 h B el ea li;exact⟨(i,d),_,ea,x1,x2,x3,x4⟩
 have all:∀n,n<=S+1->∃l:List (Nat×Nat),l.length=n/\l.Nodup/\∀x∈l,∃j a,j<n/\ps[j*w]?=some a/\x.1<off.length/\a.1[x.1]?=some (some x.2)/\0<eE s off p.2 a.1 x.1/\∀k,k<off.length->eE s off p.2 a.1 k<=eE s off p.2 a.1 x.1:=by
  intro n
  induction n with
  |zero=>exact λ_=>⟨[],rfl,.nil,λ_ z=>(nomatch z)⟩
  |succ n ih =>
   intro hn;obtain⟨l,ll,nd,hl⟩:=ih (aL (Xs _) hn);obtain⟨x,a,ea,x1,x2,x3,x4⟩:=kA n (Nat.le_of_succ_le_succ hn);refine⟨x::l,by rw[List.length_cons,ll],List.nodup_cons.mpr ⟨λz=>?_,nd⟩,λy hy=>?_⟩
   .obtain⟨j,b,hj,eb,y1,y2,y3,y4⟩:=hl x z;have:j*w+w<=n*w:=by
     have:(j+1)*w<=n*w:=QU _ hj;rw[Nat.add_mul,Q4]at this;exact this
    exact V9 h B el (le_last h B el) hw eb y1 y3 y4 this ea (by rw[x2,y2])
   .rcases YU.mp hy with rfl|z
    .exact⟨n,a,by exact X1 _,ea,x1,x2,x3,x4⟩
    .obtain⟨j,b,hj,r⟩:=hl y z;exact⟨j,b,by exact WU _ hj,r⟩
 obtain⟨l,ll,nd,hl⟩:=all (S+1) (aG _);have sub:=yc nd (l':=aaB off p.1) λx hx=>by
  obtain⟨j,a,hj,ea,x1,x2,x3,x4⟩:=hl x hx;obtain⟨a1,a2,_⟩:=h.told.ok _ (aC ea);have eo:=aj x1;have fa:=a1.ok x.1 _ _ x2 eo;have ld:x.2<off[x.1].length:=of_decide_eq_true fa;refine List.mem_flatten.mpr ⟨_,YV.mpr ⟨x.1,List.mem_range.mpr x1,rfl⟩,YV.mpr ⟨x.2,List.mem_filter.mpr ⟨List.mem_range.mpr (by rw[au,eo];exact ld),?_⟩,rfl⟩⟩;rw[Zp λz=>?_]
  .rfl
  .have zl:=Kl h el x1;unfold eE vP at zl x3;rw[nq z]at zl;rw[nq x2]at x3;rw[zl]at x3;exact absurd x3 (by decide)
 have:=aaZ p1;rw[hS]at this;lia
end
def xP:ST:=λts q=>∃a b c d:Int,ts=[pT a b,pT c d]/\0<b/\0<d/\(Bd a/\Bd b/\Bd c/\Bd d)/\q (.fz (.bl (decide (Rat.divInt a b<Rat.divInt c d))))
theorem X3(F:Fun K tu tu MK f fd):cj P w K mg base CX0 1 f fd tG (spT K xP):=by
 refine F.okT aaM (λts R hP=>by obtain⟨_,_,_,_,e,_⟩:=hP;exact e ▸ rfl) λag A outer s H E hr=>?_;refine⟨_,(bG (bQ (Dr vQ (bK cB (bJ (qv 0) bA) (bJ (qv 1) bA)) (bK cB (bJ (qv 1) bA) (bJ (qv 0) bA))))),?_⟩;rintro _ R ⟨a,b,c,d,rfl,hb,hd,⟨ba,bb,bc,bd⟩,q⟩;refine⟨⟨ba,bd⟩,⟨bc,bb⟩,?_⟩;rw[decide_eq_decide.mpr (T7 hb hd)]at q;exact q
structure YsE(e:Nat)(ys:List Rat):Prop where
 dn:∀y∈ys,y.den<=10^e
 hi:∀y∈ys,y<=(VV:Rat)
 lo:∀y∈ys,-(VV:Rat)<=y
theorem YsE.z{e:Nat}{ys:List Rat}(h:YsE e ys){y:Rat}(hy:y∈ys):Rz (32+e) e y:=by
 refine⟨aL (Dg (h.hi y hy) (h.lo y hy)) ?_,h.dn y hy⟩;rw[VT];exact U2 _ (h.dn y hy)
theorem YsE.get{e:Nat}{ys:List Rat}(h:YsE e ys)(k:Nat):Rz (32+e) e (ys.getD k 0)/\ys.getD k 0<=(VV:Rat)/\-(VV:Rat)<=ys.getD k 0:=by
 rw[au];cases c:ys[k]? with
 |none=>exact⟨⟨aZ _,Zzz (by decide)⟩,by show(0:Rat)<=_;decide +kernel,by show _<=(0:Rat);decide +kernel⟩
 |some y=>have m:=aC c;exact⟨h.z m,h.hi y m,h.lo y m⟩
def Wo:ST:=λts q=>∃(s:Rat)(m e:Nat)(d:LD)(ys:List Rat),ts=[frR s,ldT d,.lst (ys.map frR)]/\Shr s/\LDk m d/\ys.length=m/\YsE e ys/\e<=580/\∀a b:Int,0<b->a.natAbs<=10^(38+4*(4+e))->b.natAbs<=10^(5+4*(4+e))->Rat.divInt a b=Mx s (λk=>ys.getD k 0) d->q (.fz (pT a b))
theorem abh(F:Fun K Gk Gk UJ f fd)(T:Txt K mg D):cj P w K mg base CX0 1 f fd Gw (spT K Wo):=by
 refine F.okT mQ (λts R hP=>by obtain⟨_,_,_,_,_,e,_⟩:=hP;exact e ▸ rfl) λag A outer s H E hr=>?_;refine⟨_,(bC (bM 3 mQ.nd (Or.inl rfl) bA)
  (bC (bM 4 mQ.nd (Or.inl rfl) bA)
  (bC (dG VZ rfl (cH (bJ (qv 1) bA)) (fu (n:=2) rfl (bR (b_ (n:=99) 5 mQ.nd (Or.inl rfl)) (bR (b_ (n:=99) 6 mQ.nd (Or.inl rfl)) dF)))
  (bC (bM 7 mQ.nd (Or.inl rfl) (bK cB (bJ (qv 6) bA) (bJ (bJ (qv 2) (qv 5)) bA)))
  (bC (bM 3 mQ.nd (Or.inl rfl) (bK cN (bK cB (qv 3) (qv 7)) (bK cB (bK cB (bJ (qv 6) bA) (bJ (bJ (qv 2) (qv 5)) bA)) (qv 4))))
  (bG (bM 4 mQ.nd (Or.inl rfl) (bK cB (qv 4) (qv 7)))))))
  (bC (bM 3 mQ.nd (Or.inl rfl) (bK cB (qv 3) (bJ (qv 0) bA)))
  (bC (bM 4 mQ.nd (Or.inl rfl) (bK cB (qv 4) (bJ (qv 0) bA)))
  (bG (bQ (cW (bx (bK cN (bK cB (bJ (bJ (qv 1) bA) bA) (qv 4)) (bK cB (qv 3) (bJ (bJ (qv 1) bA) bA))) (bx (bK cB (qv 4) (bJ (bJ (qv 1) bA) bA)) bF)))))))))),?_⟩
 rintro _ R ⟨s,m,ee,d,ys,rfl,hs,hd,yl,hy,he,q⟩;obtain⟨qq,q0,q1,hq⟩:=hd.all;have one:(dw d.prs λ_=>1)<=1:=by rw[Cv,hd.one];exact VW
 have few:=hd.few;have cz:∀p∈d.prs,Rz 4 4 p.2:=λp hp=>by
  have a:=Dg (r:=p.2) (A:=1) (by
   have:=tO hd.nn hp;exact US this one) (by have:=hd.nn p hp;rw[vq];grind)
  have:=UX q0 (hq p hp).2.2;exact⟨aL a (by lia),by lia⟩
 generalize hE:4+ee=E4 at q;have l7:E4<=584:=by lia
 have k4:∀k,k<=4->E4*k<=2336:=λk hk=>aL (WH l7 hk) (by decide);have pb:∀{a b:Int}{k:Nat},k<=4->0<b->b.toNat<=10^(E4*k)->Rat.divInt a b<=(VV:Rat)->-(VV:Rat)<=Rat.divInt a b->Bd a/\Bd b/\a.natAbs<=10^(32+E4*k):=λ{a b k}hk h0 h1 h2 h3=>by
  have x:=ab2 h0 h2 h3;have y:a.natAbs<=10^(32+E4*k):=aL x (by rw[VT];exact U2 _ h1);have z:=k4 k hk;exact⟨iD y (by lia),iD (n:=E4*k) (by lia) (aL z (by decide)),y⟩
 refine fW nwT d.prs (λas o=>∃(t b:Int)(x5 x6 x7:OT),o=[.fz (frR s),.fz (ldT d),.fz (.lst (ys.map frR)),.fz (.int t),.fz (.int b),x5,x6,x7]/\0<b/\b.toNat<=10^(E4*as.length)/\Rat.divInt t b=dw as λk=>ys.getD k 0) ⟨0,1,.und,.und,.und,rfl,by decide,by simp,rfl⟩ ?_ ?_
 .rintro as p bs _ e ⟨t,b,x5,x6,x7,rfl,b0,b1,ev⟩;have pm:p∈d.prs:=by rw[e];simp
  obtain⟨p1,p2,_⟩:=hq p pm;have al:as.length+1<=d.prs.length:=by rw[e];simp
  have ey:ys[p.1]?=some (ys.getD p.1 0):=by rw[au,aj (by lia)];rfl
  obtain⟨yz,yh,yo⟩:=hy.get p.1;have c:=cz p pm;have va:=ZC (y:=λk=>ys.getD k 0) (C:=(VV:Rat)) (by decide +kernel) (ws:=as) (λw hw=>hd.nn w (by rw[e];exact UH _ hw)) (ae3 (bs:=p::bs) (by rw[<- e];exact hd.nn) (by rw[<- e];exact one)) (λk=>(hy.get k).2.1) λk=>(hy.get k).2.2;rw[<- ev]at va;obtain⟨bt,bb,_⟩:=pb (k:=as.length) (by lia) b0 b1 va.1 va.2;have dp:=p.2.den_pos;have dy:=(ys.getD p.1 0).den_pos;have part:((p.2.den:Int)*((ys.getD p.1 0).den:Int)).natAbs<=10^E4:=by
   rw[VY,XG,XG,<- hE,VT];exact WH c.2 yz.2
  have pp:0<(p.2.den:Int)*((ys.getD p.1 0).den:Int):=XZ (by lia) (by lia);have ct:(p.2.num*(ys.getD p.1 0).num).natAbs<=10^(4+(32+ee)):=by
   rw[VY,VT];exact WH c.1 yz.1
  have cb:=c.bq (by decide) (by decide);have yb:=yz.bq (by lia) (aL he (by decide));refine⟨rfl,_,cZ ey,⟨cb.2,yb.2⟩,⟨bt,iD part (aL l7 (by decide))⟩,_,cZ ey,⟨cb.1,yb.1⟩,⟨iD ct (by lia),bb⟩,⟨bb,iD part (aL l7 (by decide))⟩,t*((p.2.den:Int)*((ys.getD p.1 0).den:Int))+p.2.num*(ys.getD p.1 0).num*b,b*((p.2.den:Int)*((ys.getD p.1 0).den:Int)),.fz (.int (p.1:Nat)),.fz (frR p.2),.fz (.int ((p.2.den:Int)*((ys.getD p.1 0).den:Int))),rfl,XZ b0 pp,?_,?_⟩
  .rw[aA,List.length_singleton,Nat.mul_add,VT,Int.toNat_mul (XY b0) (XY pp)];exact WH b1 (by rw[Nat.mul_one];lia)
  .rw[Ja,Uw,<- ev,<- JJ _ _ (WS b0) (WS pp),<- T2,rd,rd]
 .rintro _ ⟨t,b,x5,x6,x7,rfl,b0,b1,ev⟩;have va:=ZC (y:=λk=>ys.getD k 0) (C:=(VV:Rat)) (by decide +kernel) (ws:=d.prs) hd.nn one (λk=>(hy.get k).2.1) λk=>(hy.get k).2.2;rw[<- ev]at va;obtain⟨bt,bb,tn⟩:=pb (k:=d.prs.length) few b0 b1 va.1 va.2;have k44:=k4 4 (aG _);have sz:=Am hs;have sb:=sz.bq (by decide) (by decide);have pz:Rz 30 3 d.pay:=⟨hd.pay.num,hd.pay.den⟩;have pq:=pz.bq (by decide) (by decide);have sd:=s.den_pos;have pd:=d.pay.den_pos;have m4:E4*d.prs.length<=4*E4:=by rw[TU 4];exact U2 _ few
  rw[TU]at k44;have b4:b.natAbs<=10^(4*E4):=aL (show b.natAbs<=10^(E4*d.prs.length)by lia) (XT (by decide) m4);have t4:t.natAbs<=10^(32+4*E4):=aL tn (XT (by decide) (Nat.add_le_add (by decide) m4));have bs:(b*(s.den:Int)).natAbs<=10^(4*E4+2):=by
   rw[VY,XG,VT];exact WH b4 sz.2
  have ts:(t*s.num).natAbs<=10^(32+4*E4+2):=by
   rw[VY,VT];exact WH t4 sz.1
  refine⟨⟨bt,sb.1⟩,⟨bb,sb.2⟩,⟨pq.1,iD bs (by lia)⟩,⟨iD ts (by lia),pq.2⟩,⟨iD bs (by lia),pq.2⟩,q _ _ (XZ (XZ b0 (by lia)) (by lia)) ?_ ?_ ?_⟩
  .have x:(d.pay.num*(b*(s.den:Int))).natAbs<=10^(37+4*E4):=by
    rw[VY];exact aL (WH pz.1 bs) (by rw[<- VT];exact XT (by decide) (by lia))
   have y:(t*s.num*(d.pay.den:Int)).natAbs<=10^(37+4*E4):=by
    rw[VY,XG];exact aL (WH ts pz.2) (by rw[<- VT];exact XT (by decide) (by lia))
   have z:=Int.natAbs_add_le (d.pay.num*(b*(s.den:Int))) (t*s.num*(d.pay.den:Int));refine aL z ?_;rw[show 38+4*E4=37+4*E4+1 by lia,Nat.pow_succ];lia
  .rw[VY,XG,show 5+4*E4=4*E4+2+3 by exact Nat.add_comm _ _,VT];exact WH bs pz.2
  .unfold Mx;rw[Int.mul_comm (b*(s.den:Int)),<- JJ _ _ (jm d.pay) (mD (WS b0) (jm s)),rd,<- T2,rd,ev,XU]
def LC:ST:=λts q=>∃a b c d:Int,ts=[pT a b,pT c d]/\(Bd a/\Bd b/\Bd c/\Bd d)/\q (.fz (pT (a*d-c*b) (b*d)))
theorem ab4(F:Fun K Aj Aj T3 f fd):cj P w K mg base CX0 1 f fd Ay (spT K LC):=by
 refine F.okT abW (λts R hP=>by obtain⟨_,_,_,_,e,_⟩:=hP;exact e ▸ rfl) λag A outer s H E hr=>?_;refine⟨_,(bG (bQ (cW (bx (bK mC (bK cB (bJ (qv 0) bA) (bJ (qv 1) bA)) (bK cB (bJ (qv 1) bA) (bJ (qv 0) bA))) (bx (bK cB (bJ (qv 0) bA) (bJ (qv 1) bA)) bF))))),?_⟩;rintro _ R ⟨a,b,c,d,rfl,⟨ba,bb,bc,bd⟩,q⟩;exact⟨⟨ba,bd⟩,⟨bc,bb⟩,⟨bb,bd⟩,q⟩
abbrev prT(x:Β):T:=pT x.1 x.2
noncomputable abbrev vl(x:Β):Rat:=Rat.divInt x.1 x.2
structure PrB(n:Nat)(x:Β):Prop where
 pos:0<x.2
 a:x.1.natAbs<=10^n
 b:x.2.natAbs<=10^n
def S9:ST:=λts q=>∃(n:Nat)(xs:Γ),ts=[.lst (xs.map prT)]/\n<=2400/\(∀x∈xs,PrB n x)/\∀y:Int×Int,PrB n y->0<=vl y->(∀x∈xs,vl x<=vl y)->(vl y=0\/y∈xs)->q (.fz (prT y))
theorem afD(F:Fun K Hs Hs ZG f fd)(T:Txt K mg D)(oV:OkT P w K mg base 1 tu tG xP):cj P w K mg base CX0 2 f fd Ip (spT K S9):=by
 refine F.okT K5 (λts R hP=>by obtain⟨_,_,e,_⟩:=hP;exact e ▸ rfl) λag A outer s H E hr=>?_;refine⟨_,(bC (bM 1 K5.nd (Or.inl rfl) (cW (bx bA (bx bA bF))))
  (bC (dG VZ rfl (cH (qv 0)) (b_ (n:=99) 2 K5.nd (Or.inl rfl))
  (bG (cG (dX (bI oV hr.md (by rfl) (bx (qv 1) (bx (qv 2) bF))))
  (bG (bM 1 K5.nd (Or.inl rfl) (qv 2)))
  bT)))
  (bG (bQ (qv 1))))),?_⟩
 rintro _ R ⟨n,xs,rfl,hn,hx,q⟩;have z0:vl (0,1)=0:=TK _;refine fW prT xs (λas o=>∃(y:Β)(t:OT),o=[.fz (.lst (xs.map prT)),.fz (prT y),t]/\PrB n y/\0<=vl y/\(∀x∈as,vl x<=vl y)/\(vl y=0\/y∈as)) ⟨(0,1),.und,rfl,⟨by decide,aZ _,Zzz (by decide)⟩,by rw[z0];exact VW,λ_ z=>(nomatch z),.inl z0⟩ ?_ ?_
 .rintro as x bs _ e ⟨y,t,rfl,yb,y0,le,yo⟩;have xb:=hx x (by rw[e];simp);refine⟨_,_,_,_,rfl,yb.pos,xb.pos,⟨iD yb.a hn,iD yb.b hn,iD xb.a hn,iD xb.b hn⟩,swD (λlt=>⟨x,.fz (prT x),rfl,xb,by have:vl y<vl x:=lt;grind,λz hz=>?_,.inr (by simp)⟩) λii=>⟨y,.fz (prT x),rfl,yb,y0,λz hz=>?_,yo.imp id λw=>UH _ w⟩⟩
  .rcases Y1.mp hz with w|w
   .have:=le z w;have:vl y<vl x:=lt;grind
   .rw[YR.mp w];exact VW
  .rcases Y1.mp hz with w|w
   .exact le z w
   .rw[YR.mp w];exact Rat.not_lt.mp ii
 .rintro _ ⟨y,t,rfl,yb,y0,le,yo⟩;exact q y yb y0 le yo
theorem Yv{a b c d:Int}(hb:0<b)(hd:0<d):vl (a*d-c*b,b*d)=Rat.divInt a b-Rat.divInt c d:=(Rat.divInt_sub_divInt a c (WS hb) (WS hd)).symm
theorem adI{n1 d1 n2 d2 k:Nat}{a b c d:Int}(hb:0<b)(hd:0<d)(h1:a.natAbs<=10^n1)(h2:b.natAbs<=10^d1)(h3:c.natAbs<=10^n2)(h4:d.natAbs<=10^d2)(l1:n1+d2<=k)(l2:n2+d1<=k)(l3:d1+d2<=k):PrB (k+1) (a*d-c*b,b*d):=by
 have up:∀{x y:Int}{i j:Nat},x.natAbs<=10^i->y.natAbs<=10^j->i+j<=k->(x*y).natAbs<=10^k:=λ{x y i j}hx hy hk=>by
  rw[VY];exact aL (WH hx hy) (by rw[<- VT];exact XT (by decide) hk)
 have x:=up h1 h4 l1;have y:=up h3 h2 l2;have z:=up h2 h4 l3;refine⟨XZ hb hd,?_,aL z (XT (by decide) (Xs _))⟩;show(a*d-c*b).natAbs<=_;rw[Nat.pow_succ];omega
theorem Shr.le99{s:Rat}(h:Shr s):s<=99/100:=by
 have:=h.left
 grind
theorem zM{x y:Rat}(x0:0<=x)(h:x<=y):∀n:Nat,x^n<=y^n
 |0=>by rw[JY,JY];exact VW
 |n+1=>by
  rw[TH,TH];have a:=Qr (zM x0 h n) x0;have b:=UR h (Iv (US x0 h) n)
  grind
theorem pow_add'(x:Rat)(m:Nat):∀n:Nat,x^(m+n)=x^m*x^n
 |0=>by rw[JY,Rat.mul_one];rfl
 |n+1=>by rw[<- Nat.add_assoc,TH,pow_add' x m n,TH,Rat.mul_assoc]
theorem pow_mul'(x:Rat)(m:Nat):∀n:Nat,(x^m)^n=x^(m*n)
 |0=>by rw[JY,Nat.mul_zero,JY]
 |n+1=>by rw[TH,pow_mul' x m n,Nat.mul_succ,pow_add']
theorem abP:((99:Rat)/100)^100<=1/2:=by decide +kernel
theorem ab7{s:Rat}(h:Shr s):s^700<1-s:=by
 have a:=zM h.lo h.le99 100;have b:s^100<=1/2:=US a abP;have c:=zM (Iv h.lo 100) b 7;rw[pow_mul']at c;have d:((1:Rat)/2)^7<1/100:=by decide +kernel
 have e:=h.left;have c:s^700<=(1/2)^7:=c
 grind
theorem div_pow{s:Rat} : ∀n:Nat,Rat.divInt (s.num^n) ((s.den:Int)^n)=s^n
 |0=>by rw[JY,Int.pow_zero,Int.pow_zero];rfl
 |n+1=>by rw[Int.pow_succ,Int.pow_succ,<- T2,div_pow n,rd,TH]
theorem Ql{s:Rat}{n:Nat} : (((s.den:Int)-s.num)*(s.den:Int)^n<=s.num^n*(s.den:Int))↔1-s<=s^n:=by
 have dp:=s.den_pos;have d0:(0:Int)<(s.den:Int):=by lia
 have dn:(0:Int)<(s.den:Int)^n:=Int.pow_pos d0;have e:=one_sub (a:=s.num) (b:=(s.den:Nat)) (jm s);rw[rd]at e;rw[e,<- div_pow n];have:=T7 (a:=s.num^n) (b:=(s.den:Int)^n) (c:=(s.den:Int)-s.num) (d:=(s.den:Int)) dn d0;constructor
 .intro h;exact Rat.not_lt.mp λz=>absurd (this.mp z) (Int.not_lt_of_ge h)
 .intro h;exact Int.not_lt.mp λz=>absurd (this.mpr z) (Rat.not_lt.mpr h)
def zQ(D:Adr):ST:=λts q=>∃(s:Rat)(ns:Φ)(off:List (List bN)),ts=[hlT D s ns off]/\Shr s/\∀w:Nat,1<=w->w<=700->s^w<1-s->q (.fz (.int (w:Nat)))
theorem SJ(F:Fun K qd qd Dw f fd)(T:Txt K mg D):cj P w K mg base CX0 1 f fd qe (spT K (zQ D)):=by
 refine F.okT gq (λts R hP=>by obtain⟨_,_,_,e,_⟩:=hP;exact e ▸ rfl) λag A outer s H E hr=>?_;refine⟨_,(bC (bM 1 gq.nd (Or.inl rfl) (bJ (pI (Fm:=Fam D) (λC h=>⟨T.cl C h,T.xK C h⟩) (qv 0)) bA))
  (bC (bM 2 gq.nd (Or.inl rfl) (bJ (pI (Fm:=Fam D) (λC h=>⟨T.cl C h,T.xK C h⟩) (qv 0)) bA))
  (bC (bM 3 gq.nd (Or.inl rfl) bA)
  (bC (bM 4 gq.nd (Or.inl rfl) (qv 1))
  (bC (bM 5 gq.nd (Or.inl rfl) (qv 2))
  (bC (Cj VZ (bY Z2 (bK cB (qv 4) (qv 2)) (bK cB (bK mC (qv 2) (qv 1)) (qv 5)))
  (bC (aaz 3 gq.nd (Or.inl rfl) Y8 bA)
  (bC (Vl 4 gq.nd (Or.inl rfl) (qv 1))
  (bG (Vl 5 gq.nd (Or.inl rfl) (qv 2))))))
  (bG (bQ (qv 3))))))))),?_⟩
 rintro _ R ⟨s,ns,off,rfl,hs,q⟩;have sz:=Am hs;have nn:0<=s.num:=Rat.num_nonneg.mpr hs.lo;have sp:=s.den_pos;have h1:=(Rat.lt_iff s 1).mp hs.hi;have h1:s.num*((1:Nat):Int)<1*(s.den:Int):=h1;have sd:=hs.den;have pw:∀{x:Int}{n:Nat},x.natAbs<=100->n<=700->(x^n).natAbs<=10^1400:=λ{x n}hx hn=>by
  rw[Int.natAbs_pow];refine aL (Zxx hx n) ?_;rw[show(100:Nat)=10^2 from rfl,<- Nat.pow_mul];exact XT (by decide) (by lia)
 have bn:∀n,n<=700->Bd (s.num^n):=λn hn=>iD (pw (by lia) hn) (by decide);have bd:∀n,n<=700->Bd ((s.den:Int)^n):=λn hn=>iD (pw (by lia) hn) (by decide);refine⟨p8 D,_,rfl,p8 D,_,rfl,λm o=>∃n:Nat,o=[.fz (hlT D s ns off),.fz (.int s.num),.fz (.int (s.den:Nat)),.fz (.int (n:Nat)),.fz (.int (s.num^n)),.fz (.int ((s.den:Int)^n))]/\1<=n/\n<=700/\m=700-n,⟨699,1,by rw[Int.pow_one,Int.pow_one];rfl,aG _,by decide,rfl⟩,?_⟩;rintro m _ ⟨n,rfl,n1,n7,em⟩;refine⟨⟨bn n n7,eV (by omega)⟩,⟨eV (by lia),bd n n7⟩,swD (λh=>?_) λh=>?_⟩
 .have h:=Ql.mp h;have lt:n<700:=by
   refine XX n7 λz=>?_;subst z;have:=ab7 hs
   grind
  refine⟨λo=>o=[.fz (hlT D s ns off),.fz (.int s.num),.fz (.int (s.den:Nat)),.fz (.int ((n+1:Nat):Int)),.fz (.int (s.num^(n+1))),.fz (.int ((s.den:Int)^(n+1)))],?_,?_⟩
  .rintro _ rfl;exact⟨700-(n+1),by lia,n+1,rfl,by exact Nat.le_add_left _ _,by exact lt,rfl⟩
  .refine⟨⟨bn n n7,eV (by lia)⟩,⟨bd n n7,eV (by omega)⟩,?_⟩;rw[Int.pow_succ,Int.pow_succ]
   rfl
 .exact q n n1 n7 (Rat.not_le.mp λz=>h (Ql.mpr z))
def Vh(D:Adr):ST:=λts q=>∃(s:Rat)(ns:Φ)(off:List (List bN)),ts=[hlT D s ns off]/\PJ ns off/\Shr s/\off.length<=100/\(∀ds∈off,ds.length<=1000)/\∀w:Nat,1<=w->s^w<1-s->q (.fz (.int (1+(w:Int)*((off.map λds=>ds.length-1).sum:Nat))))
theorem Qi:∀ls:List Nat,((ls.filter λn=>decide (0<n)).map λn:Nat=>(n:Int)-1).sum=((ls.map λn=>n-1).sum:Nat)
 |[]=>rfl
 |n::ls=>by
  rw[List.map_cons,QR,Int.natCast_add,<- Qi ls];by_cases h:0<n
  .rw[Zxq (by rw[Zs h]),List.map_cons,QR];lia
  .rw[Zyr (by rw[Zp h];decide)];omega
theorem abd(F:Fun K jc jc gJ f fd)(T:Txt K mg D)(fQ:OkI P w K mg base CX0 1 D.Hall_size i_ (spT K (nT D)))(cV:OkI P w K mg base CX0 3 D.Hall_offers eZ (spT K (sI D)))(pF:OkT P w K mg base 1 qd qe (zQ D)):cj P w K mg base CX0 4 f fd iK (spT K (Vh D)):=by
 refine F.okT tD (λts R hP=>by obtain⟨_,_,_,e,_⟩:=hP;exact e ▸ rfl) λag A outer s H E hr=>?_;refine⟨_,(bC (qK (bH gJ) gF gF ["room"] (cY (by rfl) T.dO (bx (Cg (qv 0) T.lQ T.tW fQ hr.md (KS:=mH)) bF)) (fj (i:=0)) cI (bV dh (by rfl) T.dY W1 (bx (Br (qv 1) T.lQ T.lJ cV hr.md (bx (qv 0) bF) (KS:=mH)) bF)) (lR (i:=1) tD.nd rfl (Or.inl rfl)))
  (bG (bQ (bK cN bA (bK cB (bI pF hr.md (by rfl) (bx (qv 0) bF)) (bV (Oj rfl) (by rfl) T.U9 boot_sum (bx (dH (bH gJ) gF gF ["many"] (cH (qv 1)) (fj (i:=0)) (Pa (bY Ek (qv 0) bA)) (bK mC (qv 0) bA)) bF))))))),?_⟩
 rintro _ R ⟨s,ns,off,rfl,h,hs,few,fews,q⟩;have hl:=h.len;have em:(List.range ns.length).map (λk=>L2.T.int ((off.getD k []).length:Nat))=(off.map λds=>ds.length).map λn:Nat=>L2.T.int (n:Nat):=by
  refine Zzs λk=>?_;rw[aq,aq,aq];by_cases hk:k<ns.length
  .rw[Up hk,aj (show k<off.length by lia)];show some (L2.T.int ((off.getD k []).length:Nat))=some (L2.T.int (off[k].length:Nat));rw[show off.getD k []=off[k]by rw[au,aj (show k<off.length by lia)];rfl]
  .rw[aM (by rw[WJ];exact VU hk),aM (show off.length<=k by lia)]
   rfl
 refine⟨⟨rfl,rfl⟩,s,ns,off,rfl,⟨by lia,by lia⟩,by rw[rng,ak,WJ];exact aL (show _<=1000 by lia) (by decide),K6 (λk=>L2.T.int ((off.getD k []).length:Nat)) ns.length (λk hk N M hN=>?_) ?_⟩
 .have ek:=aj (show k<off.length by lia);rw[au,ek]at hN;refine⟨⟨rfl,rfl⟩,s,ns,off,k,_,rfl,h,ek,?_⟩;show N (.int ((off[k].map ofT).length:Nat));rw[ak];exact hN
 rw[em];refine⟨s,ns,off,rfl,hs,λw w1 w7 hw=>⟨by rw[ak,ak];exact aL (show _<=1000 by exact aL few (by decide)) (by decide),nC (λn:Nat=>L2.T.int (n:Nat)) (λn=>decide (0<n)) (λn=>L2.T.int ((n:Int)-1)) (off.map λds=>ds.length) (λn hn N M hN hM=>?_) ⟨((off.map λds=>ds.length).filter λn=>decide (0<n)).map λn:Nat=>(n:Int)-1,by rw[WP];rfl,?_⟩⟩⟩
 .by_cases c:0<n
  .exact swT (Zs (by lia)) (hN (Zs c))
  .exact swF (Zp (by lia)) (hM (Zp c))
 .rw[Qi,WP];have sl:(off.map λds=>ds.length-1).sum<=100000:=by
   have a:=zN (λds:List bN=>ds.length-1) (λ_=>1000) off λds dk=>by have:=fews ds dk;exact aL (Nat.sub_le _ _) this
   rw[List.map_const',List.sum_replicate_nat]at a;lia
  exact⟨⟨eV (by omega),eV (by show(((off.map λds=>ds.length-1).sum:Nat):Int).natAbs<_;omega)⟩,q w w1 hw⟩
open Rw (sg fX fG bW gD gW Big vr)
structure YsK(e:Nat)(ys:List Rat):Prop where
 cm:∃L:Nat,0<L/\L<=10^e/\∀y∈ys,y.den ∣ L
 hi:∀y∈ys,y<=(VV:Rat)
 lo:∀y∈ys,-(VV:Rat)<=y
theorem Wx{s:Rat}{cs:List (Option bN)}{y:Nat->Rat}(h:Bh s cs y):∀r∈BJ (yW s cs) (cs.map jX),sg (λj=>r.getD j 0*y j) cs.length=r.getD cs.length 0:=λr hr=>by
 obtain⟨i,hi,rfl⟩:=GJ hr;have l:((List.range cs.length).map λj=>eF s cs i j).length=cs.length:=by rw[ak,WJ]
 rw[show(((List.range cs.length).map λj=>eF s cs i j)++[jX (cs.getD i none)]).getD cs.length 0=jX (cs.getD i none)by
  rw[au,aD (by rw[l];exact aG _),l,Zzy];rfl]
 rw[<- h i hi];refine bW λj hj=>?_;rw[au,aF (by rw[l];exact hj),aq,Up hj]
 rfl
theorem Sd{s:Rat}{off:List (List bN)}(sh:∀ds∈off,∀o∈ds,ShB s off.length o.ways){pl:List (Option Nat)}(hp:PlT off pl){zs:List Rat}(h:j6 s off pl zs):Bh s (chO off pl) λk=>zs.getD k 0:=by
 have cl:=I8 hp;refine(KQ (by rw[cl];exact qG sh hp)).mpr λi hi=>?_;exact h.2 i (by rw[<- cl];exact hi)
theorem mem_getD{ys:List Rat}{m:Nat}(l:ys.length=m){y:Rat}(h:y∈ys):∃k,k<m/\y=ys.getD k 0:=by
 obtain⟨k,e⟩:=aV h;exact⟨k,by rw[<- l];exact(ao.mp e).1,by rw[au,e];rfl⟩
theorem ac5{m:Nat}(h:m<=6):(2*(m+1)*((10^30+1)*(100*4000*1000)))^m<=10^244:=by
 obtain rfl|rfl|rfl|rfl|rfl|rfl|rfl:m=0\/m=1\/m=2\/m=3\/m=4\/m=5\/m=6:=by lia
 all_goals decide +kernel
theorem Zd{m:Nat}(h:m<=8):(2*(m+1)*((9+1)*(100*1*1)))^m<=10^244:=by
 obtain rfl|rfl|rfl|rfl|rfl|rfl|rfl|rfl|rfl:m=0\/m=1\/m=2\/m=3\/m=4\/m=5\/m=6\/m=7\/m=8:=by lia
 all_goals decide +kernel
theorem Rx{s:Rat}{off:List (List bN)}{PN PD CQ N:Nat}(hs:Shr s)(few:off.length<=100)(ob:∀ds∈off,∀o∈ds,OfB off.length PN PD CQ o)(h1:1<=PD)(h2:1<=CQ)(hn:PN<=10^30)(hN:N=(PN+1)*(100*CQ*PD))(mb:(2*(off.length+1)*N)^off.length<=10^244)(nn:N<=NN){pl:List (Option Nat)}(hp:PlT off pl){zs:List Rat}(hz:j6 s off pl zs):YsK 244 zs:=by
 have cl:=I8 hp;have co:=ad3 (pl:=pl) ob;have sh:∀ds∈off,∀o∈ds,ShB s off.length o.ways:=λds dk o ho=>let b:=ob ds dk o ho;⟨b.lt,b.nn,b.one⟩;have mn:(2*off.length*N)^off.length<=NN:=aL (Zxx (QU _ (by lia)) _) (aL mb (XT (by decide) (by decide)));have sy:=V2 hs (cs:=chO off pl) (aL (WG cl) few) (by rw[cl];exact co) h1 h2 hN (by rw[cl];exact mn) nn;have wo:=Sd sh hp hz;obtain⟨D,d0,d1,hD⟩:=Ug sy (y:=λk=>zs.getD k 0) (by rw[uJ];exact Wx wo);rw[uJ,cl]at d1 hD;have cg:∀i,i<off.length->CoB off.length PN PD CQ ((chO off pl).getD i none):=λi hi=>co _ (by rw[au,aj (by rw[cl];exact hi)];exact aU _);have ab:=WM hs cg hn (y:=λk=>zs.getD k 0) hz.2;refine⟨⟨D,d0,aL d1 mb,λy hy=>?_⟩,λy hy=>?_,λy hy=>?_⟩
 .obtain⟨k,hk,rfl⟩:=mem_getD hz.1 hy;exact hD k hk
 .obtain⟨k,hk,rfl⟩:=mem_getD hz.1 hy;exact(ab k hk).1
 .obtain⟨k,hk,rfl⟩:=mem_getD hz.1 hy;exact(ab k hk).2
theorem aao{s:Rat}{m:Nat}{ae:List (List LD)}{off:List (List bN)}(hs:Shr s)(hd:DSk m 4 ae)(sm:Small m ae)(ho:yH ae off){pl:List (Option Nat)}(hp:PlT off pl){zs:List Rat}(hz:j6 s off pl zs):YsK 244 zs:=by
 have ol:off.length=m:=by rw[ho.len,hd.len]
 rcases sm with h|⟨h,ht⟩
 .exact Rx hs (by lia) (by rw[ol];exact aat hd ho) (by decide) (by decide) (by decide) rfl (ac5 (aL (WG ol) h)) (by decide +kernel) hp hz
 .exact Rx hs (by lia) (by rw[ol];exact Rr hd ht ho) (by decide) (by decide) (by decide) rfl (Zd (aL (WG ol) h)) (by decide +kernel) hp hz
noncomputable def dr(ae:List (List LD))(pl:List (Option Nat))(k:Nat):Option LD:=(pl.getD k none).bind λd=>(ae.getD k [])[d]?
def fk(ae:List (List LD))(pl:List (Option Nat))(k:Nat):Nat:=match dr ae pl k with
 |none=>1
 |some d=>cD 1 (d.prs.map (·.2))*d.pay.den
def R8:ST:=λts q=>∃ns:List Int,ts=[scT ns]/\ns.length<=63/\∀(m:Nat)(ae:List (List LD))(x:OT),frz x=yE ae->DSk m 4 ae->Small m ae->(strm (ns.getD 0 0) 0%8=3->∀ds∈ae,ds.length=2)->q x
theorem Zq(F:Fun K Bk Bk NQ f fd)(T:Txt K mg D)(iw:OkT P w K mg base 1 uy uI CV)(cJ:OkT P w K mg base 1 fJ fH gQ)(zX:OkT P w K mg base 2 qM qN Ef)(T5:OkT P w K mg base 2 GD GK st_size)(Ly:OkT P w K mg base 5 C_ A_ Q5):cj P w K mg base CX0 6 f fd Cq (spT K R8):=by
 refine F.okT R0 (λts R hP=>by obtain⟨_,e,_⟩:=hP;exact e ▸ rfl) λag A outer s H E hr=>?_;refine⟨_,(bC (bM 1 R0.nd (Or.inl rfl) (bI cJ hr.md (by rfl) (bx (bI iw hr.md (by rfl) (bx (qv 0) (bx bA bF))) (bx bA bF))))
  (bC (cG (bY (go_eq hr.units) (bK cC (bJ (qv 1) bA) bA) bA)
  (bG (bQ (bI zX hr.md (by rfl) (bx (bI iw hr.md (by rfl) (bx (qv 0) (bx bA bF))) (bx (bK cN bA (bK cC (bJ (qv 1) bA) bA)) bF)))))
  bT)
  (bG (bQ (bI Ly hr.md (by rfl) (bx (qv 0) (bx bA (bx (bI T5 hr.md (by rfl) (bx (bI iw hr.md (by rfl) (bx (qv 0) (bx bA bF))) bF)) (bx bA bF))))))))),?_⟩
 rintro _ R ⟨ns,rfl,nl,q⟩;have s1:=iI (ns.getD 0 0) 1;refine⟨ns,0,rfl,by exact aL nl (by decide),_,2,rfl,by decide,_,dJ (k:=0) (by decide),by decide,swD (λh=>?_) λh=>?_⟩
 .refine⟨ns,5,rfl,by exact aL nl (by decide),_,dJ (k:=1) (by decide),by decide,?_⟩;obtain⟨m,em,m7⟩ : ∃m:Nat,4+strm (ns.getD 0 0) 1%5=((m+1:Nat):Int)/\m<=7:=⟨(3+strm (ns.getD 0 0) 1%5).toNat,by lia,by lia⟩;exact⟨_,m,by rw[<- em];rfl,by exact Y3 m7 (by decide),λae hd h2 ht=>q (m+1) ae _ rfl hd (.inr ⟨by exact Nat.succ_le_succ m7,ht⟩) λ_=>h2⟩
 .refine⟨ns,0,rfl,by exact aL nl (by decide),_,rfl,λm hm=>⟨ns,5,m,4,rfl,by exact aL nl (by decide),by exact aL hm (by decide),by decide,λae hd=>q m ae _ (abz ae) hd (.inl hm) λz=>absurd z h⟩⟩
def Rp:ST:=λts q=>∃(ns:List Int)(ae:List (List LD)),ts=[scT ns,yE ae]/\ns.length<=63/\ae.length<=100/\(strm (ns.getD 0 0) 0%8=3->∀ds∈ae,ds.length=2)/\∀pl:List (Option Nat),PlD ae pl->q (.l1 (pl.map dT))
theorem Y5(F:Fun K CP CP Ga f fd)(T:Txt K mg D)(iw:OkT P w K mg base 1 uy uI CV)(cJ:OkT P w K mg base 1 fJ fH gQ)(Hl:OkT P w K mg base 2 xQ yx KR):cj P w K mg base CX0 3 f fd Ak (spT K Rp):=by
 refine F.okT aaN (λts R hP=>by obtain⟨_,_,e,_⟩:=hP;exact e ▸ rfl) λag A outer s H E hr=>?_;refine⟨_,(bC (cG (QW.qt (Jh (bY (go_eq hr.units) (bK cC (bJ (bI cJ hr.md (by rfl) (bx (bI iw hr.md (by rfl) (bx (qv 0) (bx bA bF))) (bx bA bF))) bA) bA) bA) (Cu (bY (go_eq hr.units) (bK cC (bI iw hr.md (by rfl) (bx (qv 0) (bx bA bF))) bA) bA))))
  (bG (bQ (dH (bH Ga) Ny Ny ["_law_doors_here"] (cH (qv 1)) (fj (i:=0)) cI bA)))
  bT)
  (bG (bQ (bI Hl hr.md (by rfl) (bx (bI iw hr.md (by rfl) (bx (qv 0) (bx bA bF))) (bx (qv 1) bF)))))),?_⟩
 rintro _ R ⟨ns,ae,rfl,nl,dl,h2,q⟩;refine sq1 (λo=>o=[.fz (scT ns),.fz (yE ae)]) ?_ λY go=>?_
 .rintro _ rfl;exact⟨ns,3,rfl,by exact aL nl (by decide),_,ae,rfl,dl,q⟩
 .refine⟨ns,0,rfl,by exact aL nl (by decide),_,1,rfl,by decide,_,dJ (k:=0) (by decide),by decide,swD (λh=>⟨ns,3,rfl,by exact aL nl (by decide),by decide,swD (λh3=>?_) λ_=>go _ rfl⟩) λ_=>go _ rfl⟩;refine⟨by rw[ak];exact aL dl (by decide),comp_map (λds=>L2.T.lst (ds.map ldT)) (λ_=>.int 0) ae (λds _ N M hN=>hN) ?_⟩;have e:ae.map (λ_=>L2.T.int 0)=(ae.map λ_=>some 0).map dT:=by rw[WP];rfl
  rw[e];refine q _ ⟨ak ..,λk d ds e1 e2=>?_⟩;rw[aq,e2]at e1;cases e1;have:=h2 h ds (aC e2);exact Zs (by lia)
theorem YsK.ee{e:Nat}{ys:List Rat}(h:YsK e ys):YsE e ys:=by
 obtain⟨L,l0,l1,hl⟩:=h.cm;exact⟨λy hy=>aL (UX l0 (hl y hy)) l1,h.hi,h.lo⟩
theorem O5{zs:List Rat}{m k:Nat}(l:zs.length=m)(hk:k<m):zs[k]?=some (zs.getD k 0):=by rw[au,aj (by lia)];rfl
def Ys:ST:=λts q=>∃(m:Nat)(vs ys:List Rat),ts=[.lst (vs.map frR),.lst (ys.map frR)]/\vs.length=m/\ys.length=m/\m<=100/\YsE 244 vs/\YsE 244 ys/\∀x:Int×Int,PrB 600 x->0<=vl x->Df m (gt vs) (gt ys) (vl x)->(vl x=0\/∃i,i<m/\vl x=vs.getD i 0-ys.getD i 0)->q (.fz (prT x))
theorem aer(F:Fun K O4 O4 U8 f fd)(T:Txt K mg D)(Km:OkT P w K mg base 2 Hs Ip S9)(D_:OkT P w K mg base 1 Aj Ay LC):cj P w K mg base CX0 3 f fd Nm (spT K Ys):=by
 refine F.okT ae8 (λts R hP=>by obtain⟨_,_,_,e,_⟩:=hP;exact e ▸ rfl) λag A outer s H E hr=>?_;refine⟨_,(bG (bQ (bI Km hr.md (by rfl) (bx (dH (bH U8) YW YW ["_law_high","_law_one"] (Ia (by rfl) T.R6 (bx (qv 0) (bx (qv 1) bF))) (fu (n:=2) rfl (bR (fj (i:=0)) (bR (fj (i:=1)) dF))) cI (bI D_ hr.md (by rfl) (bx (qv 0) (bx (qv 1) bF)))) bF)))),?_⟩;rintro _ R ⟨m,vs,ys,rfl,l1,l2,m1,hv,hy,q⟩;show(DP (vs.map frR) (ys.map frR)).length<=sizeLine/\jd _ _ _ _ (DP (vs.map frR) (ys.map frR)) _;rw[Ih]
 let g:Rat×Rat->Int×Int:=λp=>(p.1.num*p.2.den-p.2.num*p.1.den,p.1.den*p.2.den)
 have gv:∀p:Rat×Rat,vl (g p)=p.1-p.2:=λp=>by
  have a:=p.1.den_pos;have b:=p.2.den_pos;rw[Yv (by lia) (by lia),rd,rd]
 have gb:∀p∈vs.zip ys,PrB 600 (g p):=λp hp=>by
  obtain⟨a1,a2⟩:=hv.z (VQ hp).1;obtain⟨b1,b2⟩:=hy.z (VQ hp).2;have a:=p.1.den_pos;have b:=p.2.den_pos;exact adI (k:=599) (n1:=276) (d1:=244) (n2:=276) (d2:=244) (by lia) (by lia) a1 (by lia) b1 (by lia) (by decide) (by decide) (by decide)
 refine⟨by rw[ak,VX];exact aL (show _<=1000 by lia) (by decide),comp_map (λp:Rat×Rat=>.tup [frR p.1,frR p.2]) (λp=>prT (g p)) (vs.zip ys) (λp hp N M hN=>?_) ⟨600,(vs.zip ys).map g,by rw[WP];rfl,by decide,λx hx=>?_,λy yb y0 le yo=>q y yb y0 (λi hi=>?_) ?_⟩⟩
 .have b1:=(hv.z (VQ hp).1).bq (by decide) (by decide);have b2:=(hy.z (VQ hp).2).bq (by decide) (by decide);exact⟨rfl,_,_,_,_,rfl,⟨b1.1,b1.2,b2.1,b2.2⟩,hN⟩
 .obtain⟨p,hp,rfl⟩:=YV.mp hx;exact gb p hp
 .have mem:(vs.getD i 0,ys.getD i 0)∈vs.zip ys:=aC (i:=i) (List.getElem?_zip_eq_some.mpr ⟨O5 l1 hi,O5 l2 hi⟩);have:=le _ (YV.mpr ⟨_,mem,rfl⟩);rw[gv]at this;exact this
 .rcases yo with z|z
  .exact .inl z
  .obtain⟨p,hp,e⟩:=YV.mp z;obtain⟨i,ei⟩:=aV hp;obtain⟨e1,e2⟩:=List.getElem?_zip_eq_some.mp ei;refine .inr ⟨i,by rw[<- l1];exact(ao.mp e1).1,?_⟩;rw[<- e,gv,au,au,e1,e2]
   rfl
theorem ajh{ae:List (List LD)}{k:Nat}{ds:List LD}(e:ae[k]?=some ds):ixT (ae.map λds=>L2.T.lst (ds.map ldT)) (k:Nat)=some (.lst (ds.map ldT)):=cZ (h:=λds=>L2.T.lst (ds.map ldT)) e
theorem afy{s:Rat}{y:Nat->Rat}{ae:List (List LD)}{pl:List (Option Nat)}{k:Nat}{ds:List LD}{c:Option Nat}(ek:ae[k]?=some ds)(ep:pl[k]?=some c):Uo s y ae pl k=match c.bind λd=>ds[d]? with|none=>0|some d=>Mx s y d:=by
 unfold Uo;rw[au,au,ek,ep]
 rfl
def yJ(s:Rat)(ae:List (List LD))(vs:List Rat)(pl:List (Option Nat))(k:Nat):Rat:=vs.getD k 0-Uo s (gt vs) ae pl k
def Qm:ST:=λts q=>∃(s:Rat)(m mo:Nat)(ae:List (List LD))(pl:List (Option Nat))(vs:List Rat),ts=[frR s,yE ae,.lst (pl.map dT),.lst (vs.map frR)]/\Shr s/\DSk m mo ae/\m<=100/\PlD ae pl/\vs.length=m/\YsE 244 vs/\(∀k,k<m->ae.getD k []=[]->vs.getD k 0=0)/\∀xs:Γ,xs.length=m->(∀x∈xs,PrB 1400 x)->(∀(k:Nat)x,xs[k]?=some x->vl x=yJ s ae vs pl k)->q (.l1 (xs.map prT))
theorem Zc(F:Fun K Bu Bu K4 f fd)(T:Txt K mg D)(S7:OkT P w K mg base 1 Gk Gw Wo)(D_:OkT P w K mg base 1 Aj Ay LC):cj P w K mg base CX0 2 f fd CJ (spT K Qm):=by
 refine F.okT vm (λts R hP=>by obtain⟨_,_,_,_,_,_,e,_⟩:=hP;exact e ▸ rfl) λag A outer s H E hr=>?_;refine⟨_,(bC (g_ 4 vm.nd (Or.inl rfl) (d_ bF))
  (bC (dG VZ rfl (cY (by rfl) T.dO (bx (bV dh (by rfl) T.dY W1 (bx (qv 1) bF)) bF)) (b_ (n:=99) 5 vm.nd (Or.inl rfl))
  (bC (bM 6 vm.nd (Or.inl rfl) (cW (bx bA (bx bA bF))))
  (bC (cG (bY Gp (bJ (qv 2) (qv 5)) jf)
  (bG (bM 6 vm.nd (Or.inl rfl) (bI D_ hr.md (by rfl) (bx (bJ (qv 3) (qv 5)) (bx (bI S7 hr.md (by rfl) (bx (qv 0) (bx (bJ (bJ (qv 1) (qv 5)) (bJ (qv 2) (qv 5))) (bx (qv 3) bF)))) bF)))))
  bT)
  (bG (nG 4 (qv 6))))))
  (bG (jE 4)))),?_⟩
 rintro _ R ⟨s,m,mo,ae,pl,vs,rfl,hs,hd,m1,hp,yl,hy,no,q⟩;have dl:(ae.map λds=>L2.T.lst (ds.map ldT)).length=m:=by rw[ak,hd.len]
 refine⟨⟨by rw[dl];lia,by rw[dl];lia⟩,jr (λk o=>∃(xs:Γ)(x y:OT),o=[.fz (frR s),.fz (yE ae),.fz (.lst (pl.map dT)),.fz (.lst (vs.map frR)),.l1 (xs.map prT),x,y]/\xs.length=k/\(∀x∈xs,PrB 1400 x)/\∀(j:Nat)x,xs[j]?=some x->vl x=yJ s ae vs pl j) ⟨[],.und,.und,rfl,rfl,(λ_ z=>nomatch z),(λ_ _ z=>nomatch z)⟩ ?_ ?_⟩
 .rintro k _ hk ⟨xs,x,y,rfl,xl,xb,xv⟩;have hk:k<m:=by rw[dl]at hk;lia
  have lk:k<ae.length:=by rw[hd.len];exact hk
  have ek:=aj lk;have lp:k<pl.length:=by rw[hp.len];exact lk
  have ep:=aj lp;have ft:=hp.ok k _ _ ep ek;have ey:=O5 yl hk;have lm:(xs.map prT).length<sizeLine:=by
   rw[ak,xl];exact aR (show k<1000 by lia) (by decide)
  dsimp only[hName];refine sq2 (λo=>∃z:Int×Int,o=[.fz (frR s),.fz (yE ae),.fz (.lst (pl.map dT)),.fz (.lst (vs.map frR)),.l1 (xs.map prT),.fz (.int (k:Nat)),.fz (prT z)]/\PrB 1400 z/\vl z=yJ s ae vs pl k) ?_ λY go=>?_
  .rintro _ ⟨z,rfl,zb,zv⟩;refine⟨lm,xs++[z],.fz (.int (k:Nat)),.fz (prT z),by rw[bf];rfl,by simp[xl],λw hw=>?_,λj w ew=>?_⟩
   .rcases Y1.mp hw with h|h
    .exact xb w h
    .rw[YR.mp h];exact zb
   .by_cases c:j<xs.length
    .rw[aF c]at ew;exact xv j w ew
    .have lj:=(ao.mp ew).1;rw[aA,List.length_singleton]at lj;have:j=k:=by lia
     subst this;rw[aD (WG xl),show j-xs.length=0 by lia]at ew;cases ew;exact zv
  .refine⟨_,cZ ep,?_⟩;have g4:=afy (s:=s) (y:=gt vs) ek ep;cases c:pl[k]with
   |none =>
    rw[c]at g4 ft;have l0:ae[k].length=0:=of_decide_eq_true ft;refine go _ ⟨(0,1),rfl,⟨by decide,aZ _,Zzz (by decide)⟩,?_⟩;unfold yJ;rw[g4,no k hk (by rw[au,ek];exact List.length_eq_zero_iff.mp l0)];show Rat.divInt 0 1=(0:Rat)-0;rw[TK]
    grind
   |some j =>
    rw[c]at g4 ft ep;have lj:j<ae[k].length:=of_decide_eq_true ft;have ej:=aj lj;have g4:Uo s (gt vs) ae pl k=match ae[k][j]? with|none=>0|some d=>Mx s (gt vs) d:=g4
    rw[ej]at g4;obtain⟨yz,_⟩:=hy.get k;have yq:=yz.bq (by decide) (by decide);have yp:=(vs.getD k 0).den_pos;refine⟨_,cZ ey,_,ajh ek,_,cZ ep,?_⟩;refine⟨_,cZ ej,s,m,244,ae[k][j],vs,rfl,hs,hd.ok _ (aU lk) _ (aU lj),yl,hy,by decide,λa b b0 ba bb ev=>⟨_,_,a,b,rfl,⟨yq.1,yq.2,iD ba (by decide),iD bb (by decide)⟩,?_⟩⟩;refine go _ ⟨((vs.getD k 0).num*b-a*(vs.getD k 0).den,(vs.getD k 0).den*b),rfl,adI (k:=1399) (n1:=276) (d1:=244) (n2:=1030) (d2:=997) (by lia) b0 yz.1 (by have:=yz.2;lia) ba bb (by decide) (by decide) (by decide),?_⟩;rw[Yv (by lia) b0,rd,ev];unfold yJ;rw[g4]
 .rintro _ ⟨xs,x,y,rfl,xl,xb,xv⟩;have xl:xs.length=m:=by rw[xl];exact dl
  exact q xs xl xb xv
theorem aa1{α:Type}(l:List α){n:Nat} : gG l (some (n:Int)) none=l.drop n:=by
 unfold gG;rw[HT.xX];show(l.drop (min n l.length)).take (l.length-min n l.length)=_;by_cases h:n<=l.length
 .rw[Nat.min_eq_left h];exact Zzu (by rw[TW];exact aG _)
 .rw[TR (by lia:l.length<=n),TR (by lia),List.take_nil]
theorem aj3(neg:Bool)(a b:Option Nat){q:OT->Prop}(h:q (.fz (.bl (xr neg (decide (a=b)))))):gEq neg (dT a) (dT b) q:=by
 cases a with
 |none=>cases b<;>exact h
 |some a =>
  cases b with
  |none=>exact h
  |some b =>
   show q (.fz (.bl (xr neg (decide ((a:Int)=(b:Int))))));rw[show decide ((a:Int)=(b:Int))=decide (some a=some b)from decide_eq_decide.mpr ⟨λz=>by rw[Int.ofNat.inj z],λz=>by rw[Option.some.inj z]⟩];exact h
structure GoB(s:Rat)(m:Nat)(ae:List (List LD))(ps:List PWs)(p:PWs)(w:Nat):Prop where
 few:m<=100
 len:ps.length<2^24
 last:ps.getLast?=some p
 pl:∀q∈ps,PlD ae q.1
 vs:p.2.length=m
 ye:YsE 244 p.2
 no:∀k,k<m->ae.getD k []=[]->p.2.getD k 0=0
 gone:∀(j:Nat)a,ps[j]?=some a->∀i,i<m->0<yJ s ae p.2 a.1 i->(∀k,k<m->yJ s ae p.2 a.1 k<=yJ s ae p.2 a.1 i)->∀(t:Nat)b,j+w<=t->ps[t]?=some b->b.1[i]?≠a.1[i]?
def V7:ST:=λts q=>∃(s:Rat)(m mo:Nat)(ae:List (List LD))(ps:List PWs)(p:PWs)(w k:Nat),ts=[frR s,yE ae,.lst (ps.map pwT),.int (k:Nat),.int (w:Nat)]/\Shr s/\DSk m mo ae/\GoB s m ae ps p w/\k<ps.length/\q (.fz (.bl true))
theorem ac2(F:Fun K Ge Ge S_ f fd)(T:Txt K mg D)(Nq:OkT P w K mg base 2 Bu CJ Qm)(Km:OkT P w K mg base 2 Hs Ip S9)(oV:OkT P w K mg base 1 tu tG xP):cj P w K mg base CX0 3 f fd Gy (spT K V7):=by
 refine F.okT xR (λts R hP=>by obtain⟨_,_,_,_,_,_,_,_,e,_⟩:=hP;exact e ▸ rfl) λag A outer s H E hr=>?_;refine⟨_,(bC (bM 5 xR.nd (Or.inl rfl) (bI Nq hr.md (by rfl) (bx (qv 0) (bx (qv 1) (bx (bJ (bJ (qv 2) (qv 3)) bA) (bx (bJ (bJ (qv 2) (zG bA)) bA) bF))))))
  (bC (bM 6 xR.nd (Or.inl rfl) (bI Km hr.md (by rfl) (bx (qv 5) bF)))
  (bC (dG VZ rfl (cY (by rfl) T.dO (bx (bV dh (by rfl) T.dY W1 (bx (qv 1) bF)) bF)) (b_ (n:=99) 7 xR.nd (Or.inl rfl))
  (bG (cG (QW.qt (Jh (bY Ek (bJ (qv 6) bA) bA) (Cu (fV (dX (bI oV hr.md (by rfl) (bx (bJ (qv 5) (qv 7)) (bx (qv 6) bF))))))))
  (bG (dG VZ rfl (cH (j9 (qv 2) (g8 (bK cN (qv 3) (qv 4))) Gg)) (fu (n:=2) rfl (bR (b_ (n:=99) 8 xR.nd (Or.inl rfl)) (bR (b_ (n:=99) 9 xR.nd (Or.inl rfl)) dF)))
  (bG (cG (bY (go_eq hr.units) (bJ (qv 8) (qv 7)) (bJ (bJ (bJ (qv 2) (qv 3)) bA) (qv 7)))
  (bG (bQ v8))
  bT))))
  bT)))
  (bG (bQ v8))))),?_⟩
 rintro _ R ⟨s,m,mo,ae,ps,p,w,k,rfl,hs,hd,G,hk,q⟩;have ek:=aj hk;have few:=G.few;have bi:=G.pl _ (aU hk);have pll:ps[k].1.length=m:=by rw[bi.len,hd.len]
 have dl:(ae.map λds=>L2.T.lst (ds.map ldT)).length=m:=by rw[ak,hd.len]
 refine⟨_,cZ ek,_,Gm G.last,s,m,mo,ae,ps[k].1,p.2,rfl,hs,hd,few,bi,G.vs,G.ye,G.no,λxs xl xb xv=>?_⟩;refine⟨1400,xs,rfl,by decide,xb,λy yb y0 le yo=>⟨⟨by rw[dl];lia,by rw[dl];lia⟩,jr (λi o=>∃x7 x8 x9:OT,o=[.fz (frR s),.fz (yE ae),.fz (.lst (ps.map pwT)),.fz (.int (k:Nat)),.fz (.int (w:Nat)),.fz (.lst (xs.map prT)),.fz (prT y),x7,x8,x9]) ⟨_,_,_,rfl⟩ ?_ ?_⟩⟩
 .rintro i _ hi ⟨x7,x8,x9,rfl⟩;have hi:i<m:=by rw[dl]at hi;lia
  have ex:=aj (show i<xs.length by lia);have ki:=xb _ (aC ex);refine swD (λh1=>?_) λh1=>⟨_,_,_,rfl⟩;refine⟨_,cZ ex,_,_,_,_,rfl,ki.pos,yb.pos,⟨iD ki.a (by decide),iD ki.b (by decide),iD yb.a (by decide),iD yb.b (by decide)⟩,sw2 (λh2=>?_) λh2=>⟨_,_,_,rfl⟩⟩;have h2:¬(vl xs[i]<vl y):=λz=>by
   have h2:(!decide (vl xs[i]<vl y))=true:=h2;rw[Zs z]at h2;cases h2
  have j1:=Rat.not_lt.mp h2;have v1:=xv i _ ex;have y1:0<vl y:=by
   have h1:(0:Int)<y.1:=h1;have:=(T7 (a:=0) (b:=1) (c:=y.1) (d:=y.2) (by decide) yb.pos).mpr (by lia);rw[TK]at this;exact this
  have gone:=G.gone k _ ek i hi (by rw[<- v1];grind) λj hj=>by
   have ej:=aj (show j<xs.length by lia);have a:=le _ (aC ej);rw[xv j _ ej]at a;rw[<- v1];exact US a j1
  have ec:gG (ps.map pwT) (some ((k:Int)+(w:Int))) none=(ps.drop (k+w)).map pwT:=by
   rw[<- Int.natCast_add,aa1,List.map_drop]
  show uQ _ _ _ (gG (ps.map pwT) (some ((k:Int)+(w:Int))) none) _;rw[ec];refine fW pwT (ps.drop (k+w)) (λ_ o=>∃x8 x9:OT,o=[.fz (frR s),.fz (yE ae),.fz (.lst (ps.map pwT)),.fz (.int (k:Nat)),.fz (.int (w:Nat)),.fz (.lst (xs.map prT)),.fz (prT y),.fz (.int (i:Nat)),x8,x9]) ⟨_,_,rfl⟩ ?_ ?_
  .rintro as b bs _ e ⟨x8,x9,rfl⟩;have bm:b∈ps.drop (k+w):=by rw[e];simp
   obtain⟨t,et⟩:=aV bm;rw[List.getElem?_drop]at et;have bl:b.1.length=m:=by rw[(G.pl _ (aC et)).len,hd.len]
   have eb:=aj (show i<b.1.length by lia);have ea:=aj (show i<ps[k].1.length by lia);refine⟨rfl,_,cZ eb,_,cZ ek,_,cZ ea,aj3 false _ _ ?_⟩;have ne:b.1[i]≠ps[k].1[i]:=λz=>gone _ b (X2 _ _) et (by rw[eb,ea,z]);rw[Zp ne];exact⟨_,_,rfl⟩
  .rintro _ ⟨x8,x9,rfl⟩;exact⟨_,_,_,rfl⟩
 .rintro _ ⟨x7,x8,x9,rfl⟩;exact q
theorem aby{ae:List (List LD)}{off:List (List bN)}(ho:yH ae off){pl:List (Option Nat)}(h:PlT off pl):PlD ae pl:=by
 refine⟨by rw[h.len,ho.len],λk d ds e1 e2=>?_⟩;have lk:k<off.length:=by rw[ho.len];exact(ao.mp e2).1
 have ek:=aj lk;obtain⟨tl,g5,eo⟩:=ho.at_ k ds _ e2 ek;have:=h.ok k d _ e1 ek;rw[eo,ak,VX,g5,UV]at this;exact this
theorem aeH(x:Β)(s:Rat):vl (x.1*s.num,x.2*(s.den:Int))=vl x*s:=by
 show Rat.divInt (x.1*s.num) (x.2*(s.den:Int))=_;rw[<- T2,rd]
def Yj:ST:=λts q=>∃ns:List Int,ts=[scT ns]/\ns.length<=63/\q (.fz (.bl true))
theorem afq(F:Fun K N5 N5 Wa f fd)(T:Txt K mg D)(iw:OkT P w K mg base 1 uy uI CV)(Mz:OkT P w K mg base 3 Ck Ao RD)(Ni:OkT P w K mg base 6 Bk Cq R8)(Tq:OkT P w K mg base 9 Gx FQ (Vq D))(LK:OkT P w K mg base 3 CP Ak Rp)(zf:OkT P w K mg base 10 qF qY (Ej D))(pF:OkT P w K mg base 1 qd qe (zQ D))(nM:OkT P w K mg base 4 jc iK (Vh D))(V4:OkT P w K mg base 3 O4 Nm Ys)(oV:OkT P w K mg base 1 tu tG xP)(Sh:OkT P w K mg base 3 Ge Gy V7):cj P w K mg base CX0 11 f fd TJ (spT K Yj):=by
 refine F.okT pG (λts R hP=>by obtain⟨_,e,_⟩:=hP;exact e ▸ rfl) λag A outer s H E hr=>?_;refine⟨_,(bC (bM 1 pG.nd (Or.inl rfl) (bI Mz hr.md (by rfl) (bx (bI iw hr.md (by rfl) (bx (qv 0) (bx bA bF))) bF)))
  (bC (bM 2 pG.nd (Or.inl rfl) (bI Ni hr.md (by rfl) (bx (qv 0) bF)))
  (bC (bM 3 pG.nd (Or.inl rfl) (bI Tq hr.md (by rfl) (bx (bI iw hr.md (by rfl) (bx (qv 0) (bx bA bF))) (bx (qv 1) (bx (qv 2) bF)))))
  (bC (bM 4 pG.nd (Or.inl rfl) (bI LK hr.md (by rfl) (bx (qv 0) (bx (qv 2) bF))))
  (bC (bM 5 pG.nd (Or.inl rfl) (bI zf hr.md (by rfl) (bx (qv 3) (bx (qv 4) bF))))
  (bC (bM 6 pG.nd (Or.inl rfl) (bI pF hr.md (by rfl) (bx (qv 3) bF)))
  (bC (cG (QW.qt (nR (bY vQ (qv 6) bA) (kI (bY Ek (bV dh (by rfl) T.dY W1 (bx (qv 5) bF)) (bI nM hr.md (by rfl) (bx (qv 3) bF))))))
  (bG (bQ v8))
  bT)
  (bC (bM 7 pG.nd (Or.inl rfl) (bJ (bJ (qv 5) (zG bA)) bA))
  (bC (dG VZ rfl (cY (by rfl) T.dO (bx (bV dh (by rfl) T.dY W1 (bx (qv 5) bF)) bF)) (b_ (n:=99) 8 pG.nd (Or.inl rfl))
  (bC (cG (bY Ek (qv 8) bA)
  (bC (bM 9 pG.nd (Or.inl rfl) (bI V4 hr.md (by rfl) (bx (qv 7) (bx (bJ (bJ (qv 5) (bK mC (qv 8) bA)) bA) bF))))
  (bC (bM 10 pG.nd (Or.inl rfl) (cW (bx (bK cB (bJ (qv 9) bA) (bJ (qv 1) bA)) (bx (bK cB (bJ (qv 9) bA) (bJ (qv 1) bA)) bF))))
  (bG (cG (dX (bI oV hr.md (by rfl) (bx (qv 10) (bx (bI V4 hr.md (by rfl) (bx (qv 7) (bx (bJ (bJ (qv 5) (qv 8)) bA) bF))) bF))))
  (bG (bQ v8))
  bT))))
  bT)
  (bG (cG (fV (dX (bI Sh hr.md (by rfl) (bx (qv 1) (bx (qv 2) (bx (qv 5) (bx (qv 8) (bx (qv 6) bF))))))))
  (bG (bQ v8))
  bT))))
  (bG (bQ v8))))))))))),?_⟩
 rintro _ R ⟨ns,rfl,nl,q⟩;refine⟨ns,2,rfl,by exact aL nl (by decide),_,rfl,λs hs=>⟨ns,rfl,nl,λm ae x ex hd sm h2=>?_⟩⟩;dsimp only;rw[ex];have m8:m<=8:=by rcases sm with z|z;exact aL z (by decide);exact z.1
 refine⟨ns,1,rfl,by exact aL nl (by decide),_,s,m,4,ae,rfl,hs,hd,by exact aL m8 (by decide),by decide,λnm off hn hok ho=>?_⟩;obtain⟨N,B⟩:=adl hs hd sm ho;have ol:off.length=m:=by rw[ho.len,hd.len]
 refine⟨ns,ae,rfl,nl,by have:=hd.len;lia,h2,λpl bi=>?_⟩;have hp:=abp ho bi;refine⟨s,nm,off,pl,N,rfl,hok,hp,B,λps hm=>?_⟩;generalize(2*off.length*N)^off.length=M at hm;refine⟨s,nm,off,rfl,hs,λw w1 w7 hw=>?_⟩;have pn:0<ps.length:=Nat.pos_of_ne_zero λz=>hm.ne (List.length_eq_zero_iff.mp z);have pc:ps.length<2^24:=Y3 (hm.told.len B) B.pls;obtain⟨p,el⟩ : ∃p,ps.getLast?=some p:=by
  cases e:ps.getLast? with
  |none=>exact absurd (List.getLast?_eq_none_iff.mp e) hm.ne
  |some p=>exact⟨p,rfl⟩
 obtain⟨p1,p2,_⟩:=hm.told.ok _ (QP el);have opt:=afd hd ho hm el;have ye:∀a∈ps,YsE 244 a.2/\a.2.length=m:=λa ha=>by
  obtain⟨a1,a2,_⟩:=hm.told.ok a ha;exact⟨(aao hs hd sm ho a1 a2).ee,by rw[a2.1,ol]⟩
 have lk:∀a∈ps,∀i,i<m->yJ s ae p.2 a.1 i=eE s off p.2 a.1 i:=λa ha i hi=>by
  obtain⟨a1,_⟩:=hm.told.ok a ha;unfold yJ eE vP;rw[ZL hd ho (by rw[a1.len];lia)]
 have pe:=ye p (QP el);have G:GoB s m ae ps p w:=by
  refine⟨by exact aL m8 (by decide),pc,el,λa ha=>aby ho (hm.told.ok a ha).1,pe.2,pe.1,opt.no,λj a ea i hi pos mx t b ht eb=>?_⟩;have ma:=aC ea;rw[lk a ma i hi]at pos;exact V9 hm B el (le_last hm B el) hw ea (by lia) pos (λk hk=>by rw[<- lk a ma k (aR hk (WG ol)),<- lk a ma i hi];exact mx k (aR hk (WG ol))) ht eb
 have fews:∀ds∈off,ds.length<=1000:=hok.fews;refine swF (Zp (by lia)) ⟨s,nm,off,rfl,hok,hs,by lia,fews,λw' w1' hJ=>swF ?_ ?_⟩
 .refine Zp ?_;have:=aap hm B el w1' hJ;rw[ak];have e:((1+w'*(off.map λds=>ds.length-1).sum:Nat):Int)=1+(w':Int)*((off.map λds=>ds.length-1).sum:Nat):=by rw[Int.natCast_add,Th];rfl
  lia
 refine⟨_,Gm el,?_⟩;refine⟨⟨by rw[ak];lia,by rw[ak];lia⟩,jr (λk o=>∃x8 x9 eQ:OT,o=[.fz (scT ns),.fz (frR s),.fz (yE ae),.fz (hlT D s nm off),.fz (.lst (pl.map dT)),.fz (.lst (ps.map pwT)),.fz (.int (w:Nat)),.fz (.lst (p.2.map frR)),x8,x9,eQ]) ⟨_,_,_,rfl⟩ ?_ ?_⟩
 .rintro k _ hk ⟨x8,x9,eQ,rfl⟩;have hk:k<ps.length:=by rw[ak]at hk;lia
  have ek:=aj hk;dsimp only[hName];refine sq1 (λo=>∃x9 eQ:OT,o=[.fz (scT ns),.fz (frR s),.fz (yE ae),.fz (hlT D s nm off),.fz (.lst (pl.map dT)),.fz (.lst (ps.map pwT)),.fz (.int (w:Nat)),.fz (.lst (p.2.map frR)),.fz (.int (k:Nat)),x9,eQ]) ?_ λY go=>?_
  .rintro _ ⟨x9,eQ,rfl⟩;exact⟨s,m,4,ae,ps,p,w,k,rfl,hs,hd,G,hk,_,_,_,rfl⟩
  .refine swD (λh0=>?_) λ_=>go _ ⟨_,_,rfl⟩;have h0:(0:Int)<(k:Nat):=h0;have ej:=aj (show k-1<ps.length by exact Nat.sub_lt_of_lt hk);have i1:ixT (ps.map pwT) ((k:Int)-1)=some (pwT ps[k-1]):=by rw[show(k:Int)-1=((k-1:Nat):Int)by lia];exact cZ ej
   have ya:=ye _ (aU (show k-1<ps.length by exact Nat.sub_lt_of_lt hk));have yb':=ye _ (aU hk);have sz:=Am hs;have sq:=sz.bq (by decide) (by decide);have sp:=s.den_pos;refine⟨_,i1,m,p.2,ps[k-1].2,rfl,pe.2,ya.2,by exact aL m8 (by decide),pe.1,ya.1,λx xb x0 xd xo=>?_⟩;refine⟨⟨iD xb.a (by decide),sq.1⟩,⟨iD xb.b (by decide),sq.2⟩,?_⟩;refine⟨_,cZ ek,m,p.2,ps[k].2,rfl,pe.2,yb'.2,by exact aL m8 (by decide),pe.1,yb'.1,λy yb y0 yd yo=>?_⟩;have da:(x.1*s.num).natAbs<=10^602:=by
    rw[VY,show 602=600+2 from rfl,VT];exact WH xb.a sz.1
   have db:(x.2*(s.den:Int)).natAbs<=10^602:=by
    rw[VY,XG,show 602=600+2 from rfl,VT];exact WH xb.b sz.2
   refine⟨_,_,_,_,rfl,XZ xb.pos (by lia),yb.pos,⟨iD da (by decide),iD db (by decide),iD yb.a (by decide),iD yb.b (by decide)⟩,swF (Zp (Rat.not_lt.mpr ?_)) (go _ ⟨_,_,rfl⟩)⟩;show vl y<=vl (x.1*s.num,x.2*(s.den:Int));rw[aeH];rcases yo with z|⟨i,hi,z⟩
   .rw[z];exact Zyw x0 hs.lo
   .obtain⟨u,_⟩:=hm.told.up (k-1) _ _ ej (by rw[show k-1+1=k by lia];exact ek);obtain⟨a1,a2,_⟩:=hm.told.ok _ (aU (show k-1<ps.length by exact Nat.sub_lt_of_lt hk));obtain⟨b1,b2,_⟩:=hm.told.ok _ (aU hk);have:=nearer B.s0 B.s1 B.sh a1 p1 u a2 b2 p2 x0 (by rw[ol];exact xd) i (by lia);rw[z,XU];exact this
 .rintro _ ⟨x8,x9,eQ,rfl⟩;exact q
end
theorem af6{K:Frag}{vs:Ζ}{H:Hp}{Q:VK}{E:XK}(h:VB K vs H Q E):spT K Yj vs H Q E:=by
 obtain⟨a,ns,rfl,hs,hl,_,hQ⟩:=h;refine⟨[scT ns],λx=>x=.fz (.bl true),.cons (.scr hs (DR ns)) .nil,⟨ns,rfl,hl,rfl⟩,?_⟩;rintro H' v _ rfl _ ⟨B,_,_,u,e,r⟩;cases e;cases r;exact hQ H'
theorem law_fn{l:PySem.W.OpenLaw}{w:World}{K:Frag}{mg:Str->Ω}(T0:∃D,Txt K mg D)(base:Heap)(f:Addr)(fd:FuncData)(F:Fun K N5 N5 Wa f fd) :
  cj l.prog w K mg base CX0 11 f fd TJ (VB K):=by
 obtain⟨D,T⟩:=T0;have o {k:Nat}{n:Str}{st:Stmt}{ps:Φ}{sp:Sp} (h:cL K mg n st ps) (g:∀f fd,Fun K n n st f fd->cj l.prog w K mg base CX0 k f fd ps sp):OkF l.prog w K mg base k n ps sp:=h.ok g;have i {k:Nat}{n m:Str}{st:Stmt}{ps:Φ}{f:Addr}{sp:Sp} (h:zA K n m st ps f) (g:∀fd,Fun K n m st f fd->cj l.prog w K mg base CX0 k f fd ps sp):OkI l.prog w K mg base CX0 k f ps sp:=h.ok g;have dB:=o T.Uz λ_ _ F=>RB F T;have dM:=o T.Xy λ_ _ F=>Ua F T;have dI:=o T.abT λ_ _ F=>aaY F T dB dM;have Eb:=o T.afb λ_ _ F=>acg dI F;have oU:=o T.acD λ_ _ F=>YH dI F;have uH:=o T.ach λ_ _ F=>Y7 dI F;have Tn:=o T.ae7 λ_ _ F=>adh dI F;have gY:=o T.abL λ_ _ F=>aaT F;have gA:=o T.U5 λ_ _ F=>RM F T dB dM;have jC:=o T.abk λ_ _ F=>aaJ F dM;have iJ:=o T.Xg λ_ _ F=>TF F T;have iW:=o T.Lk λ_ _ F=>Jr F iJ gA;have dU:=o T.CN λ_ _ F=>zy F iJ;have fY:=o T.HN λ_ _ F=>Fp F T gA gY;have KY:=o T.f_total λ_ _ F=>Zy F T jC dI;have sE:=o T.JL λ_ _ F=>Hu F T dU fY KY;have rD:=o T.Jy λ_ _ F=>Ji F T Eb;have jQ:=i T.K9 λ_ F=>Oc F T iW;have vB:=i T.Ln λ_ F=>LR F T jQ dU;have dZ:=i T.J0 λ_ F=>JZ F T jQ sE rD;have wI:=i T.Mi λ_ F=>NK F T iW fY oU dZ;have vR:=i T.Le λ_ F=>Mw F T dZ;have vY:=i T.Oo λ_ F=>Lh F T;have rN:=o T.Jv λ_ _ F=>Jb F T gA gY;have uz:=o T.M_ λ_ _ F=>Jw F T iJ;have nH:=o T.Fo λ_ _ F=>Ea F T vY;have vO:=o T.PB λ_ _ F=>Ng F T nH;have xG:=i T.Mu λ_ F=>La F T rN uz vO;have fQ:=i T.NP λ_ F=>MN F T;have kW:=i T.zP λ_ F=>Jz F T dB fQ;have cV:=i T.Jk λ_ F=>WL F T kW;have tL:=o T.aad λ_ _ F=>Xx F dM;have wZ:=o T.Qf λ_ _ F=>O9 F T tL;have zH:=o T.Sq λ_ _ F=>Ra F T dM tL;have vG:=o T.Q8 λ_ _ F=>OD F T wZ zH;have jT:=o T.RG λ_ _ F=>O_ F dI;have pY:=o T.Jf λ_ _ F=>FJ F dI;have uF:=o T.Ms λ_ _ F=>JC F T;have tR:=o T.abB λ_ _ F=>ZQ F vG;have vI:=o T.Ry λ_ _ F=>Nx F T tR jT Tn;have pQ:=o T.Ho λ_ _ F=>EY F T tR jT oU;have Di:=o T.XC λ_ _ F=>Uj F T jC uF vI pQ pY;have zV:=o T.Ti λ_ _ F=>RP F T;have rF:=o T.J7 λ_ _ F=>Jo F T;have u5:=o T.QJ λ_ _ F=>Oa F T;have Ds:=o T.Xp λ_ _ F=>Tg F T;have vA:=o T.Ru λ_ _ F=>O7 F T;have rW:=o T.JB λ_ _ F=>HW F T zV rF Di u5 Ds vA;have rH:=o T.JX λ_ _ F=>HS F T;have U4:=o T.aei λ_ _ F=>acw F T dB;have d7:=o T.K7 λ_ _ F=>JG F T U4 fQ cV;have pP:=o T.G_ λ_ _ F=>Fi F T cV;have vo:=o T.Qd λ_ _ F=>M5 F T rH oU uH;have vd:=o T.Qy λ_ _ F=>Pb F T d7 pP vo rW;have rG:=o T.JM λ_ _ F=>G4 F T jC dI;have yX:=o T.Uq λ_ _ F=>Pj F T gY;have sG:=o T.Jp λ_ _ F=>Hg F T rG Eb uH;have rO:=o T.J3 λ_ _ F=>Hr F T yX gY;have HF:=o T.Za λ_ _ F=>Xl F T d7 jC sG rO cV;have zf:=o T.Tp λ_ _ F=>Qx F T d7 vd HF;have iw:=o T.agn λ_ _ F=>ado F;have cJ:=o T.aa2 λ_ _ F=>Xf F T;have X8:=o T.aiy λ_ _ F=>aeG F T;have iz:=o T.YC λ_ _ F=>Xm F X8;have Gj:=o T.acO λ_ _ F=>Z1 F T cJ;have Mz:=o T.abr λ_ _ F=>aaK F T cJ iz;have ZM:=o T.akW λ_ _ F=>afl F T iz;have T5:=o T.afO λ_ _ F=>ac3 F T cJ;have Ss:=o T.aek λ_ _ F=>adu F T cJ iz ZM;have Ly:=o T.abf λ_ _ F=>YF F T iw cJ Ss;have Ol:=o T.abQ λ_ _ F=>aa7 F T vB dZ wI vR;have Tq:=o T.agw λ_ _ F=>adf F T Gj Ol xG;have zX:=o T.SX λ_ _ F=>Ph F T cJ;have Hl:=o T.aav λ_ _ F=>W0 F T cJ;have oV:=o T.adn λ_ _ F=>X3 F;have S7:=o T.f_look λ_ _ F=>abh F T;have D_:=o T.aeT λ_ _ F=>ab4 F;have Km:=o T.aiX λ_ _ F=>afD F T oV;have pF:=o T.Xi λ_ _ F=>SJ F T;have nM:=o T.Fe λ_ _ F=>abd F T fQ cV pF;have Ni:=o T.abn λ_ _ F=>Zq F T iw cJ zX T5 Ly;have LK:=o T.acS λ_ _ F=>Y5 F T iw cJ Hl;have V4:=o T.ajl λ_ _ F=>aer F T Km D_;have Nq:=o T.abq λ_ _ F=>Zc F T S7 D_;have Sh:=o T.agd λ_ _ F=>ac2 F T Nq Km oV;exact(afq F T iw Mz Ni Tq LK zf pF nM V4 oV Sh).imp λ_ _ _ _ h=>af6 h
end K31
end
open PySem PySem.W PyProof.Rows
set_option maxRecDepth 100000 in
set_option maxHeartbeats 0 in
theorem PySem.Challenge.cw_chancehall_k31_whole_mendings_end_holds : PySem.Challenge.rw_chancehall_k31_whole_mendings_end.Holds := by
 w_on
 refine holds_law H31.wsd λkr=>?_;refine holds_open (q:=H31.qv) (loose:=[]) (XP:=XL H31.qv []) (YP:=InK H31.KH) H31.left (InK.of H31.asK) InK.keeps H31.hX XL.keeps (by rfl) (by rfl) (by rfl) H31.hR (by rfl) kr (by decide +kernel) ⟨rfl,rfl,rfl,rfl,rfl,by decide +kernel⟩ ?hw ?hc
 (case hw=>w_witness2)
 k_fill
 refine L2.ai0 (l:=PySem.Challenge.rw_chancehall_k31_whole_mendings_end) (k:=11) (x := "_law_script") rfl rfl ⟨rfl,by decide,by decide⟩ (λw h Y=>(show(H31.KH w.params).In h from Y)) ?F
 case F =>
  intro w mg fa h KX G gf;refine⟨K31.Wa,?_,λbase f fd F=>K31.law_fn ?T base f fd F⟩
  .exact L2.q_f 1 λ_ _ _ _ _ _ _=>rfl
  case T =>
   refine⟨⟨455,476,495,514,531,616,135,136,438,445,473,492,511,528,573,580,601,613⟩,⟨L2.q_c,L2.q_c,L2.q_c,L2.q_c,L2.q_c,L2.q_c,L2.q_c,L2.q_c,L2.q_g,L2.q_t,L2.q_t,L2.q_4,L2.q_m,L2.q_n,L2.q_n,L2.q_n,L2.q_n,L2.q_n,L2.q_n,L2.q_M,L2.q_4,L2.q_m,L2.q_n,L2.q_n,L2.q_n,L2.q_n,L2.q_n,L2.q_n,L2.q_M,L2.q_4,L2.q_m,L2.q_n,L2.q_n,L2.q_n,L2.q_n,L2.q_n,L2.q_n,L2.q_M,L2.q_4,L2.q_m,L2.q_n,L2.q_n,L2.q_n,L2.q_n,L2.q_n,L2.q_n,L2.q_M,L2.q_4,L2.q_m,L2.q_n,L2.q_n,L2.q_n,L2.q_n,L2.q_n,L2.q_n,L2.q_M,L2.q_4,L2.q_m,L2.q_m,L2.q_m,L2.q_n,L2.q_n,L2.q_n,L2.q_n,L2.q_n,L2.q_n,L2.q_B,L2.q_h 3 λ_ _ _ _ _ _ _ _ _=>rfl,L2.q_h 1 λ_ _ _ _ _ _ _=>rfl,L2.q_h 4 λ_ _ _ _ _ _ _ _ _ _=>rfl,L2.q_B,L2.q_h 4 λ_ _ _ _ _ _ _ _ _ _=>rfl,L2.q_h 6 λ_ _ _ _ _ _ _ _ _ _ _ _=>rfl,L2.q_h 4 λ_ _ _ _ _ _ _ _ _ _=>rfl,L2.q_h 3 λ_ _ _ _ _ _ _ _ _=>rfl,L2.q_h 1 λ_ _ _ _ _ _ _=>rfl,L2.q_h 2 λ_ _ _ _ _ _ _ _=>rfl,L2.q_h 2 λ_ _ _ _ _ _ _ _=>rfl,L2.q_z,L2.q_z,L2.q_z,L2.q_z,L2.q_z,L2.q_z,L2.q_z,L2.q_z,L2.q_z,L2.q_z,L2.q_z,L2.q_z,L2.q_z,L2.q_z,L2.q_f 1 λ_ _ _ _ _ _ _=>rfl,L2.q_f 2 λ_ _ _ _ _ _ _ _=>rfl,L2.q_f 2 λ_ _ _ _ _ _ _ _=>rfl,L2.q_f 1 λ_ _ _ _ _ _ _=>rfl,L2.q_f 2 λ_ _ _ _ _ _ _ _=>rfl,L2.q_f 2 λ_ _ _ _ _ _ _ _=>rfl,L2.q_f 2 λ_ _ _ _ _ _ _ _=>rfl,L2.q_f 2 λ_ _ _ _ _ _ _ _=>rfl,L2.q_f 2 λ_ _ _ _ _ _ _ _=>rfl,L2.q_f 1 λ_ _ _ _ _ _ _=>rfl,L2.q_f 1 λ_ _ _ _ _ _ _=>rfl,L2.q_f 1 λ_ _ _ _ _ _ _=>rfl,L2.q_f 2 λ_ _ _ _ _ _ _ _=>rfl,L2.q_f 2 λ_ _ _ _ _ _ _ _=>rfl,L2.q_f 2 λ_ _ _ _ _ _ _ _=>rfl,L2.q_f 3 λ_ _ _ _ _ _ _ _ _=>rfl,L2.q_f 2 λ_ _ _ _ _ _ _ _=>rfl,L2.q_f 2 λ_ _ _ _ _ _ _ _=>rfl,L2.q_f 3 λ_ _ _ _ _ _ _ _ _=>rfl,L2.q_f 2 λ_ _ _ _ _ _ _ _=>rfl,L2.q_f 2 λ_ _ _ _ _ _ _ _=>rfl,L2.q_f 1 λ_ _ _ _ _ _ _=>rfl,L2.q_f 3 λ_ _ _ _ _ _ _ _ _=>rfl,L2.q_f 3 λ_ _ _ _ _ _ _ _ _=>rfl,L2.q_f 5 λ_ _ _ _ _ _ _ _ _ _ _=>rfl,L2.q_f 4 λ_ _ _ _ _ _ _ _ _ _=>rfl,L2.q_f 2 λ_ _ _ _ _ _ _ _=>rfl,L2.q_f 1 λ_ _ _ _ _ _ _=>rfl,L2.q_f 2 λ_ _ _ _ _ _ _ _=>rfl,L2.q_f 2 λ_ _ _ _ _ _ _ _=>rfl,L2.q_f 3 λ_ _ _ _ _ _ _ _ _=>rfl,L2.q_f 3 λ_ _ _ _ _ _ _ _ _=>rfl,L2.q_f 1 λ_ _ _ _ _ _ _=>rfl,L2.q_f 2 λ_ _ _ _ _ _ _ _=>rfl,L2.q_f 2 λ_ _ _ _ _ _ _ _=>rfl,L2.q_f 2 λ_ _ _ _ _ _ _ _=>rfl,L2.q_f 2 λ_ _ _ _ _ _ _ _=>rfl,L2.q_f 2 λ_ _ _ _ _ _ _ _=>rfl,L2.q_f 3 λ_ _ _ _ _ _ _ _ _=>rfl,L2.q_f 2 λ_ _ _ _ _ _ _ _=>rfl,L2.q_f 1 λ_ _ _ _ _ _ _=>rfl,L2.q_f 1 λ_ _ _ _ _ _ _=>rfl,L2.q_f 1 λ_ _ _ _ _ _ _=>rfl,L2.q_f 2 λ_ _ _ _ _ _ _ _=>rfl,L2.q_f 1 λ_ _ _ _ _ _ _=>rfl,L2.q_f 1 λ_ _ _ _ _ _ _=>rfl,L2.q_f 1 λ_ _ _ _ _ _ _=>rfl,L2.q_f 1 λ_ _ _ _ _ _ _=>rfl,L2.q_f 1 λ_ _ _ _ _ _ _=>rfl,L2.q_f 1 λ_ _ _ _ _ _ _=>rfl,L2.q_f 2 λ_ _ _ _ _ _ _ _=>rfl,L2.q_f 2 λ_ _ _ _ _ _ _ _=>rfl,L2.q_f 2 λ_ _ _ _ _ _ _ _=>rfl,L2.q_f 2 λ_ _ _ _ _ _ _ _=>rfl,L2.q_f 2 λ_ _ _ _ _ _ _ _=>rfl,L2.q_f 2 λ_ _ _ _ _ _ _ _=>rfl,L2.q_f 2 λ_ _ _ _ _ _ _ _=>rfl,L2.q_f 1 λ_ _ _ _ _ _ _=>rfl,L2.q_f 3 λ_ _ _ _ _ _ _ _ _=>rfl,L2.q_f 2 λ_ _ _ _ _ _ _ _=>rfl,L2.q_f 4 λ_ _ _ _ _ _ _ _ _ _=>rfl,L2.q_f 3 λ_ _ _ _ _ _ _ _ _=>rfl,L2.q_f 3 λ_ _ _ _ _ _ _ _ _=>rfl,L2.q_f 2 λ_ _ _ _ _ _ _ _=>rfl,L2.q_f 3 λ_ _ _ _ _ _ _ _ _=>rfl,L2.q_f 2 λ_ _ _ _ _ _ _ _=>rfl,L2.q_f 1 λ_ _ _ _ _ _ _=>rfl,L2.q_f 2 λ_ _ _ _ _ _ _ _=>rfl,L2.q_f 1 λ_ _ _ _ _ _ _=>rfl,L2.q_f 2 λ_ _ _ _ _ _ _ _=>rfl,L2.q_f 2 λ_ _ _ _ _ _ _ _=>rfl,L2.q_f 1 λ_ _ _ _ _ _ _=>rfl,L2.q_f 2 λ_ _ _ _ _ _ _ _=>rfl,L2.q_f 4 λ_ _ _ _ _ _ _ _ _ _=>rfl,L2.q_f 5 λ_ _ _ _ _ _ _ _ _ _ _=>rfl⟩⟩
#print axioms PySem.Challenge.cw_chancehall_k31_whole_mendings_end_holds
