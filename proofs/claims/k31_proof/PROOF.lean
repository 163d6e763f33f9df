import PyProof.Rows.All
import Wide.All
import OpenK.AllK
import Wide.FinOn
import Lean
import PyProof.EqAt
import PyProof.EqKinds
import PyProof.TupleCall
import PyProof.EqLayable
import KE.KIntText
import PyProof.EnumMake
import PyProof.EnumStmt
import PyProof.EnumFor
import PyProof.Rows.EnumRows
import PyProof.ExcInit
import PyProof.ExcClass2
import PyProof.InstStoreFacts
import KE.KRevIter
import PySem.Challenge.RW_chancehall_k31_whole_mendings_end
def aj := @List.getElem?_eq_getElem
def ak := @List.length_map
def ao := @List.getElem?_eq_some_iff
def aq := @List.getElem?_map
def au := @List.getD_eq_getElem?_getD
def aA := @List.length_append
def aC := @List.mem_of_getElem?
def aD := @List.getElem?_append_right
def aF := @List.getElem?_append_left
def aG := @Nat.le_refl
def aH := @PySem.Heap.get?_push_of_some
def aJ := @List.mem_cons_of_mem
def aK := @PySem.Heap.lt_size
def aL := @Nat.le_trans
def aM := @List.getElem?_eq_none
def aN := @List.length_replicate
def aO := @List.mem_cons_self
def aP := @List.mem_append_right
def aQ := @Nat.ne_of_lt
def aR := @Nat.lt_of_lt_of_le
def aU := @List.getElem_mem
def aV := @List.getElem?_of_mem
def aW := @PySem.Heap.get?_push_size
def aX := @List.size_toArray
def aY := @List.length_take
def aZ := @Nat.zero_le
def bf := @List.map_append
def bw := @Bool.false_ne_true
open PySem.W (Frag instObj methodObj lookIn plainGet hasDictIn findIn handedIn plainGet_of isFn plainOver takerIn makesIn emptyDict keepIn specialIn mroIn kitOne kia_one kitx_list kitx_tuple callWith_K methodCall_KW codeIn nsIn mg_of excIn readsIn findCls)
section
open PySem PySem.Spec PyProof.Rows
abbrev Γ:=List (Int×Int)
abbrev Δ:=List (Addr×Obj)
abbrev Θ:=List Value
abbrev Φ:=List Str
abbrev Ψ:=List Addr
abbrev Ω:=Option Value
abbrev Ξ:=Option Addr
abbrev Β:=Int×Int
abbrev Ε:=Value->Shared->Prop
def Zs:=@decide_eq_true
def Zp:=@decide_eq_false
def ZZ:=@if_neg
def ZY:=@if_pos
def ZU:=@wpAny_bind
def ZT:=@wpAny_pure
def ZH:=@congrArg
def Z3:=@Int.emod_nonneg
def YY:=@Int.emod_lt_of_pos
def YV:=@List.mem_map
def YU:=@List.mem_cons
def YR:=@List.mem_singleton
def Y1:=@List.mem_append
def Y2:=@Nat.le_of_lt
def Y3:=@Nat.lt_of_le_of_lt
def Xs:=@Nat.le_succ
def XZ:=@Int.mul_pos
def XY:=@Int.le_of_lt
def XX:=@Nat.lt_of_le_of_ne
def XW:=@Bool.false_eq_true
def XV:=@Rat.intCast_mul
def XU:=@Rat.mul_comm
def XT:=@Nat.pow_le_pow_right
def XG:=@Int.natAbs_natCast
def X0:=@List.getElem?_replicate
def X1:=@Nat.lt_succ_self
def X2:=@Nat.le_add_right
def X9:=@Nat.lt_irrefl
def Wp:=@Int.natCast_nonneg
def WZ:=@List.append_assoc
def WV:=@Nat.not_lt_zero
def WU:=@Nat.lt_add_right
def WS:=@Int.ne_of_gt
def WP:=@List.map_map
def WJ:=@List.length_range
def WG:=@Nat.le_of_eq
def WH:=@Nat.mul_le_mul
def W1:=@PySem.boot_len
def VZ:=@PassesOwn.never
def VY:=@Int.natAbs_mul
def VX:=@List.length_zip
def VW:=@Rat.le_refl
def VU:=@Nat.le_of_not_lt
def VT:=@Nat.pow_add
def VS:=@List.length_set
def VQ:=@List.of_mem_zip
def Up:=@List.getElem?_range
def UZ:=@Nat.le_of_lt_succ
def UY:=@Nat.one_pos
def UX:=@Nat.le_of_dvd
def UV:=@Nat.min_self
def UU:=@List.getElem_map
def UT:=@Nat.ne_of_gt
def US:=@Rat.le_trans
def UR:=@Rat.mul_le_mul_of_nonneg_left
def UQ:=@List.not_mem_nil
def UP:=@List.getElem?_set_ne
def UK:=@Rat.divInt_eq_div
def UH:=@List.mem_append_left
def U1:=@List.map_congr_left
def U2:=@Nat.mul_le_mul_left
def Tx:=@Nat.le_of_ble_eq_true
def Tu:=@List.getElem?_set_self
def Ts:=@Nat.not_lt_of_le
def Tk:=@Nat.lt_trans
def Th:=@Int.natCast_mul
def TZ:=@Rat.le_of_lt
def TW:=@List.length_drop
def TU:=@Nat.mul_comm
def TR:=@List.drop_eq_nil_of_le
def TK:=@Rat.zero_divInt
def TH:=@Rat.pow_succ
def T1:=@Nat.succ_pos
def T2:=@Rat.divInt_mul_divInt
def JY:=@Rat.pow_zero
def JU:=@Nat.add_sub_cancel_left
def JS:=@List.length_zipWith
def JP:=@Int.one_mul
def JJ:=@Rat.divInt_add_divInt
def Qr:=@Rat.mul_le_mul_of_nonneg_right
def QY:=@Nat.one_dvd
def QU:=@Nat.mul_le_mul_right
def QR:=@List.sum_cons
def QQ:=@Nat.mul_pos
def QP:=@List.mem_of_getLast?
def Q1:=@Int.mul_one
def Q2:=@Int.lt_of_not_ge
def Q3:=@Int.gcd_dvd_right
def Q4:=@Nat.one_mul
def Zzz:=@Nat.pow_pos
def Zzy:=@Nat.sub_self
def Zzx:=@List.ext_getElem
def Zzw:=@List.getElem_range
def Zzv:=@List.drop_eq_getElem_cons
def Zzu:=@List.take_of_length_le
def Zzt:=@Bool.and_eq_true
def Zzs:=@List.ext_getElem?
def Zzr:=@Rat.intCast_zero
def Zzq:=@Int.mul_ediv_cancel_left
def Zyz:=@Rat.divInt_eq_divInt_iff
def Zyy:=@Nat.div_le_self
def Zyx:=@Rat.divInt_nonneg
def Zyw:=@Rat.mul_nonneg
def Zyv:=@Int.toNat_natCast
def Zyu:=@Int.fdiv_eq_ediv_of_nonneg
def Zyt:=@List.set_eq_of_length_le
def Zys:=@List.getElem_zip
def Zyr:=@List.filter_cons_of_neg
def Zyq:=@List.getElem?_zipWith
def Zxz:=@Int.gcd_pos_of_ne_zero_right
def Zxy:=@Int.ediv_pos_of_pos_of_dvd
def Zxx:=@Nat.pow_le_pow_left
def Zxw:=@Nat.le_mul_of_pos_left
def Zxv:=@Int.toNat_of_nonneg
def Zxu:=@List.map_zipWith
def Zxt:=@List.getElem_of_mem
def Zxs:=@Rat.mul_lt_mul_right
def Zxr:=@List.all_eq_true
def Zxq:=@List.filter_cons_of_pos
def Zwz:=@Int.pos_of_mul_pos_right
def Zwy:=@Int.fdiv_eq_ediv_of_dvd
def Zwx:=@Int.mul_pos_of_neg_of_neg
def Zww:=@Nat.mul_div_cancel_left
def Zwv:=@Int.eq_ofNat_of_zero_le
end
set_option Elab.async false
set_option linter.all false
set_option maxRecDepth 100000
set_option maxHeartbeats 4000000
namespace L2.Once
open PySem PySem.W
def z:Pos:=⟨0,0,0,0⟩
noncomputable def tE:Obj:=⟨.type "tuple",none,.seq ⟨[]⟩ 0,⟨[]⟩⟩
noncomputable def fE:Obj:=⟨.none,none,.fields ⟨[]⟩,⟨[]⟩⟩
noncomputable def tN(t:Nat)(l:Φ):Obj:=⟨.type "tuple",none,.seq ⟨(l.zipIdx t).map λx=>.str x.1 x.2⟩ 0,⟨[]⟩⟩
noncomputable def cO(n q:Str)(t:Nat)(l a f:Int)(r u:Nat):Obj:=⟨.type "code",none,.fields ⟨[.str n t,.str q (t+1),.str "/claim/cut.py" (t+2),.int l 0,.int a 0,.int 0 0,.int 0 0,.int f 0,.ref r,.bool true,.int 181 0,.ref (r+1),.none,.ref (r+2),.ref (r+3),.ref (r+4),.int u 0,.int l 0,.str "/claim/cut.py" (u+1)]⟩,⟨[]⟩⟩
def o11:Obj:={ cls:=.type "tuple",data:=.seq #[] }
def o12:Obj:={ cls:=.none,data:=.fields #[] }
def o13:Obj:={ cls:=.type "code",data:=.fields #[.str "<module>" 182,.str "<module>" 183,.str "/claim/cut.py" 184,.int 1 0,.int 0 0,.int 0 0,.int 0 0,.int 0 0,.ref 11,.bool false,.int 181 0,.ref 12,.none,.none,.none,.none,.int 185 0,.int 1 0,.str "/claim/cut.py" 186] }
def o14:Obj:={ cls:=.type "frame",slots:=#[some (.ref 13),some (.ref 3),some (.ref 3),none,some (.str "__main__" 164),none,some (.ref 0)] }
noncomputable def cP(n q:Str)(t:Nat)(l a f:Int)(r u:Nat):Obj:=⟨.type "code",none,.fields ⟨[.str n t,.str q (t+1),.str "/claim/cut.py" (t+2),.int l 0,.int a 0,.int 0 0,.int 0 0,.int f 0,.ref r,.bool true,.int 181 0,.ref (r+1),.none,.none,.none,.ref (r+2),.int u 0,.int l 0,.str "/claim/cut.py" (u+1)]⟩,⟨[]⟩⟩
noncomputable def dE(P:Params)(x:Str)(t:Nat)(v:Value):DictEntry:=⟨PyData.keyHash P x,.str x t,v⟩
abbrev lf(o:Obj):BT:=.node o .nil .nil
noncomputable def tr(P:Params):BT:=.node (boot_o_0 P)
 (.node (boot_o_1 P) (.node (boot_o_3 P) (lf (boot_o_7 P)) (lf o11)) (.node (boot_o_5 P) (lf (boot_o_9 P)) (lf o13)))
 (.node (boot_o_2 P) (.node (boot_o_4 P) (lf (boot_o_8 P)) (lf o12)) (.node (boot_o_6 P) (lf (boot_o_10 P)) (lf o14)))
noncomputable def S0(w:World)(os:OsState):Shared:=⟨boot_heap w.params,Array.mk [],boot_drawn,boot_toks,os⟩
noncomputable def Sa(w:World)(os:OsState):Shared:=⟨⟨Array.mk [boot_o_0 w.params,boot_o_1 w.params,boot_o_2 w.params,boot_o_3 w.params,boot_o_4 w.params,boot_o_5 w.params,boot_o_6 w.params,boot_o_7 w.params,boot_o_8 w.params,boot_o_9 w.params,boot_o_10 w.params,o11,o12,o13,o14],{}⟩,Array.mk [],{},187,os⟩
noncomputable def Sb(w:World)(os:OsState):SharedT:=⟨tr w.params,15,{},⟨[]⟩,{},187,os⟩
def env(p:Program):Env:={ scope:=p.main.scope,locals:=mainNs,globals:=mainNs,cells:=[],code:=.ref 13,frame:=some 14 }
def cE(p:Program):Code:=.body (behindTheImports p) (env p)
abbrev ann:Ω:=some (.ref 6)
abbrev B:List Frame:=[topFrame z]
theorem size(w:World):((boot_heap w.params).isNs mainGlobals&&(Array.mk [] : Array GenState).size==0,(boot_heap w.params).objs.size,(boot_heap w.params).nsMap mainGlobals "__annotations__")=(true,11,ann):=by
 rw[Fast.te8920871248978507458];kernel_rfl
def nQ(p:Program)(w:World)(M:Nat)(S:SharedT)(l:List Stmt)(q:Pos)(G:Shared->Prop):Prop:=∃s,topRun treeTable p w 11 ann M S.abs (restOf l (env p) (cE p) q B)=some s/\G s
theorem nQ.cut{p:Program}{w:World}{n M:Nat}{S S':SharedT}{l1 l2:List Stmt}{q q':Pos}{G:Shared->Prop}(h:segRunT treeTable p w 11 ann 1 n S (piecesOf l1 (env p) (cE p) q B)=some (.next,S',cE p,q'))(k:nQ p w M S' l2 q' G):nQ p w (n+M) S (l1++l2) q G :=
 let⟨s,a,b⟩:=k
 ⟨s,piece_app (segRun_of h) a,b⟩
theorem nQ.cutAt{p:Program}{w:World}{n m M:Nat}{S S':SharedT}{l:List Stmt}{q q':Pos}{G:Shared->Prop}(h:segRunT treeTable p w 11 ann 1 n S (piecesOf (l.take m) (env p) (cE p) q B)=some (.next,S',cE p,q'))(k:nQ p w M S' (l.drop m) q' G):nQ p w (n+M) S l q G:=by
 have:=nQ.cut h k;rwa[List.take_append_drop]at this
def Good{α:Type}(p q:Program)(loose:Φ)(Xt:Shared->Bool)(Yf:Shared->α)(Ya:World->α)(g0:Bool)(w:World)(s:Shared):Prop :=
 (staticsOk (importedModules p.main.body) (boot_heap w.params) s.heap&&namesBound p s.heap&&gensDone s&&laidKept (boot_heap w.params) s.heap,openSeen q loose (importedModules p.main.body) Xt g0 s,Yf s)=(true,openGood q loose,Ya w)
theorem nQ.last{p q:Program}{loose:Φ}{Xt:Shared->Bool}{α:Type}{Yf:Shared->α}{Ya:World->α}{g0:Bool}{w:World}{n k:Nat}{S:SharedT}{l:List Stmt}{q0 e:Pos}
 (big:(segRunT treeTable p w 11 ann 1 n S (piecesOf l (env p) (cE p) q0 B)).map (λr =>
    (r.1,r.2.2.1,r.2.2.2,(topRun treeTable p w 11 ann k r.2.1.abs ⟨doneF .next,cE p,e,B⟩).map λs =>
     (staticsOk (importedModules p.main.body) (boot_heap w.params) s.heap&&namesBound p s.heap&&gensDone s&&laidKept (boot_heap w.params) s.heap,openSeen q loose (importedModules p.main.body) Xt g0 s,Yf s))) =
   some (.next,cE p,e,some (true,openGood q loose,Ya w))):nQ p w (n+k) S l q0 (Good p q loose Xt Yf Ya g0 w):=by
 obtain⟨⟨f,sT,c,ps⟩,r1,r2⟩:=Option.map_eq_some_iff.mp big;obtain⟨rfl,rfl,rfl,r3⟩ : f=.next/\c=cE p/\ps=e/\_:=by simpa only[Prod.mk.injEq]using r2
 obtain⟨s,t1,t2⟩:=Option.map_eq_some_iff.mp r3;have q1:=piece_app (rest:=[]) (segRun_of r1) (piece_nil t1);rw[List.append_nil]at q1;exact⟨s,q1,t2⟩
theorem Ww{p q:Program}{loose:Φ}{Xt:Shared->Bool}{α:Type}{Yf:Shared->α}{Ya:World->α}{N:Nat}{g0:Bool}{a b M:Nat}
 (ia:∀w:World,(fencedOpening treeTable p w N).map (λs=>(s.heap,s.gens,s.drawn,s.toks))=some (boot_heap w.params,Array.mk [],boot_drawn,boot_toks))
 (pre:∀w:World,(λos=>topGo treeTable p w 11 ann a (S0 w os) (topStub p))=λos=>some (Sa w os,⟨denote treeTable (cE p),cE p,z,B⟩))
 (block:∀w:World,(λos=>segRun treeTable p w 11 ann 1 b (Sa w os) (blockOf (behindTheImports p) (env p) (cE p) z B))=λos=>some (.next,(Sb w os).abs,cE p,z))
 (mr:∀(w:World)(os:OsState),nQ p w M (Sb w os) (behindTheImports p) z (Good p q loose Xt Yf Ya g0 w))
 (le:Nat.ble (a+(b+M)) N=true):LeftO p q loose Xt Yf Ya N g0:=λw=>by
 obtain⟨⟨h,gs,d,ks,os⟩,e1,e2⟩:=Option.map_eq_some_iff.mp (ia w);obtain⟨rfl,rfl,rfl,rfl⟩ : h=boot_heap w.params/\gs=Array.mk []/\d=boot_drawn/\ks=boot_toks:=by simpa using e2
 obtain⟨z1,z2,z3⟩ : _/\_/\_:=by simpa only[Prod.mk.injEq]using size w
 obtain⟨s,q1,t2⟩:=mr w os;obtain⟨l1,l2,l3⟩ : _/\_/\_:=by simpa only[Good,Prod.mk.injEq]using t2
 have q2:=go_top (congrFun (pre w) os) (piece_block (congrFun (block w) os) q1);have q3:=topRun_mono (N-(a+(b+M))) _ _ _ _ q2;rw[show a+(b+M)+(N-(a+(b+M)))=N by have:=Tx le;omega]at q3;have t:topFrom treeTable p w N ⟨boot_heap w.params,Array.mk [],boot_drawn,boot_toks,os⟩=some s:=by
  unfold topFrom;dsimp only;rw[z1,z2,z3,show topRun treeTable p w 11 ann N ⟨boot_heap w.params,Array.mk [],boot_drawn,boot_toks,os⟩ (topStub p)=some s from q3];show(match staticsOk (importedModules p.main.body) (boot_heap w.params) s.heap&&namesBound p s.heap&&gensDone s&&laidKept (boot_heap w.params) s.heap with|true=>_|false=>_)=_;rw[l1]
 unfold openEnds;rw[e1];show(topFrom treeTable p w N _).map _=_;rw[t];exact ZH some (Prod.ext l2 l3)
end L2.Once
namespace L2
open PySem
def iJ(s:Stmt):Arguments:=match s with
 |.FunctionDef _ a _ _ _ _ _ _ _ _=>a
 |_=>{ posonlyargs:=[],args:=[],vararg:=none,kwonlyargs:=[],kw_defaults:=[],kwarg:=none,defaults:=[] }
def fL(s:Stmt):List Stmt:=match s with
 |.FunctionDef _ _ b _ _ _ _ _ _ _=>b
 |_=>[]
def bH(s:Stmt):Scope:=match s with
 |.FunctionDef _ _ _ _ _ _ sc _ _ _=>sc
 |_=>{ kind:=.function,names:=[],isGenerator:=false,isCoroutine:=false }
end L2
namespace K31
open PySem L2
def top(i:Nat):Stmt:=PySem.Challenge.pw_chancehall_k31_whole_mendings_end.main.body.getD i (.Pass ⟨0,0,0,0⟩)
def fU(i j:Nat):Stmt:=match top i with|.ClassDef _ _ _ b _ _ _ _ _ _ _=>b.getD j (.Pass ⟨0,0,0,0⟩)|_=>.Pass ⟨0,0,0,0⟩
end K31
namespace H31
open PySem PySem.W L2 L2.Once K31
noncomputable section
noncomputable abbrev p:Program:=PySem.Challenge.pw_chancehall_k31_whole_mendings_end
noncomputable section
def dR(P:Params)(x:Str)(t m:Nat):DictEntry:=dE P x t (.ref m)
noncomputable def wD(l:List DictEntry)(n:Nat):Obj:=⟨.type "dict",none,.dict ⟨l⟩ n,⟨[]⟩⟩
noncomputable def i3(a b:Nat)(c:Nat)(l:Θ):Θ:=.int a 0::.int b 0::.ref c::l
noncomputable def nd(o:Obj)(l r:BT):BT:=.node o l r
noncomputable def n1(o x:Obj):BT:=.node o (lf x) .nil
noncomputable def wA:Obj:=⟨.type "builtin_function_or_method",none,.fields ⟨[.builtin "type.__prepare__",.type "type"]⟩,⟨[]⟩⟩
noncomputable def wB(n:Nat):Obj:=⟨.type "builtin_function_or_method",none,.fields ⟨[.builtin "object.__init_subclass__",.ref n]⟩,⟨[]⟩⟩
noncomputable def wC(n:Str)(t l r u:Nat):Obj:=⟨.type "code",none,.fields ⟨[.str n t,.str n (t+1),.str "/claim/cut.py" (t+2),.int l 0,.int 0 0,.int 0 0,.int 0 0,.int 0 0,.ref r,.bool false,.int 181 0,.ref (r+1),.none,.none,.none,.none,.int u 0,.int l 0,.str "/claim/cut.py" (u+1)]⟩,⟨[]⟩⟩
noncomputable def wF(c d:Nat)(n:Str)(t:Nat):Obj:=⟨.type "frame",none,.plain,⟨[some (.ref c),some (.ref 3),some (.ref d),none,some (.str n t),none,some (.ref 0)]⟩⟩
noncomputable def wG(t n:Nat):Obj:=⟨.type "getset_descriptor",none,.fields ⟨[.str "__weakref__" t,.ref n,.builtin "ExceptionGroup.__weakref__",.none]⟩,⟨[]⟩⟩
noncomputable def wK(n:Str)(b m:Θ)(d:Nat)(s:Θ)(o:Ω)(t u:Nat)(x:String):Obj:=⟨.type "type",none,.cls ⟨n,b,m,d,n,true,[],s,false,none,false⟩,⟨[o,none,some (.str n t),some (.str n u),some (.builtin x),some (.bool true)]⟩⟩
noncomputable def wS(n:Nat):Obj:=⟨.type "super",none,.fields ⟨[.ref n,.ref n,.ref n]⟩,⟨[]⟩⟩
noncomputable def wT(n:Nat):Obj:=⟨.type "tuple",none,.seq ⟨[.ref n]⟩ 0,⟨[]⟩⟩
noncomputable def fO(n q:Str)(s:Stmt)(m:Value)(c:Nat):Obj:=⟨.type "function",none,.func (fnOf n q (iJ s) (fL s) (bH s) .none .none .none m none (.ref c) .none),⟨[]⟩⟩
noncomputable def fT(n q:Str)(s:Stmt):Obj:=⟨.none,none,.func { fnOf n q (iJ s) (fL s) (bH s) .none .none .none .none none .none .none with globals:=0,builtins:=0 },⟨[]⟩⟩
def amF(P:Params):Obj:=wD (dE P "__name__" 165 (.str "law_chancehall_k31_whole_mendings_end" 1013)::dE P "__doc__" 166 .none::dE P "__package__" 167 .none::dE P "__loader__" 168 (.builtin "__main__.__loader__#opaque")::dE P "__spec__" 169 .none::dR P "__annotations__" 170 6::dR P "__builtins__" 171 4::dE P "__file__" 173 (.str "/claim/cut.py" 172)::dE P "__cached__" 174 .none::dR P "_wall" 193 21::dR P "HallError" 213 31::dR P "NoNumber" 229 44::dR P "NoName" 245 56::dR P "NoChance" 261 68::dR P "NoShare" 277 80::dR P "NoRoom" 302 99::dR P "NoPlan" 327 118::dR P "is_whole" 336 127::dR P "divisor" 347 134::dR P "NOUGHT" 352 135::dR P "ONE" 355 136::dR P "ratio" 364 143::dR P "is_ratio" 373 150::dR P "plus" 381 157::dR P "minus" 389 164::dR P "times" 397 171::dR P "over" 405 178::dR P "under" 413 185::dR P "level" 421 190::dR P "total" 429 197::dR P "greatest" 438 204::dR P "fits" 448 211::dR P "check_plan" 458 218::dR P "behind_door" 464 223::dR P "raised_look" 474 230::dR P "lowest" 482 235::dR P "row_times" 488 240::dR P "row_plus" 494 245::dR P "take_step" 503 252::dR P "number_at" 511 259::dR P "fractions_of" 517 264::dR P "first_from" 527 271::dR P "go_on" 536 278::dR P "begin_row" 548 285::dR P "clear_column" 560 292::dR P "reduced" 566 297::dR P "width_of" 575 304::dR P "with_rights" 581 309::dR P "begins_of" 587 314::dR P "odd_row" 597 321::dR P "answer_of" 609 328::dR P "single_rows" 615 333::dR P "only_answer" 626 340::dR P "chosen_doors" 634 345::dR P "left_rows" 647 352::dR P "worths_of" 653 357::dR P "better_door" 664 364::dR P "mended" 670 369::dR P "mendings" 680 376::dR P "wait_of" 694 383::dR P "most_mendings" 700 388::dE P "LONGEST_WORD" 704 (.int 8 703)::dR P "is_word" 710 393::dR P "check_head" 720 400::dR P "check_room_name" 727 407::dR P "check_chance" 734 414::dR P "check_pairs" 740 419::dR P "joined_ways" 746 424::dR P "Door" 793 455::dR P "Sure" 820 476::dR P "Mixed" 847 495::dR P "Toss" 875 514::dR P "Even" 897 531::dR P "check_share" 906 540::dR P "numbers_of" 916 547::dR P "numbered_ways" 927 554::dR P "offers_of" 938 561::dR P "Hall" 1012 616::dR P "_law_cell" 1022 627::dR P "_law_stream" 1034 634::dR P "_law_gcd" 1044 641::dR P "_law_ratio" 1053 648::dR P "_law_names" 1059 653::dR P "_law_share" 1068 660::dR P "_law_pay" 1077 667::dR P "_law_door" 1083 672::dR P "_law_doors" 1089 677::dR P "_law_built" 1095 682::dR P "_law_hall" 1101 687::dR P "_law_chosen" 1112 694::dR P "_law_look" 1126 701::dR P "_law_below" 1134 708::dR P "_law_size" 1142 715::dR P "_law_corridor" 1153 722::dR P "_law_rooms" 1161 729::dR P "_law_start" 1167 734::dR P "_law_less" 1175 741::dR P "_law_top" 1184 748::dR P "_law_far" 1190 753::dR P "_law_lacks" 1203 760::[]) 100
def ajK:Obj:=⟨.none,none,.fields ⟨i3 1 0 20 <|i3 5 0 27 <|i3 7 0 40 <|i3 9 0 52 <|i3 11 0 64 <|i3 13 0 76 <|i3 15 0 88 <|i3 20 0 107 <|i3 26 0 126 <|i3 28 0 133 <|i3 39 0 142 <|i3 48 0 149 <|i3 56 0 156 <|i3 58 0 163 <|i3 60 0 170 <|i3 62 0 177 <|i3 64 0 184 <|i3 67 0 189 <|i3 72 0 196 <|i3 75 0 203 <|i3 82 0 210 <|i3 86 0 217 <|i3 93 0 222 <|i3 96 0 229 <|i3 100 0 234 <|i3 105 0 239 <|i3 107 0 244 <|i3 114 0 251 <|i3 123 0 258 <|i3 125 0 263 <|i3 127 0 270 <|i3 132 0 277 <|i3 135 0 284 <|i3 141 0 291 <|i3 146 0 296 <|i3 158 0 303 <|i3 162 0 308 <|i3 164 0 313 <|i3 171 0 320 <|i3 176 0 327 <|i3 181 0 332 <|i3 183 0 339 <|i3 191 0 344 <|i3 193 0 351 <|i3 200 0 356 <|i3 206 0 363 <|i3 211 0 368 <|i3 219 0 375 <|i3 228 0 382 <|i3 239 0 387 <|i3 244 0 392 <|i3 249 0 399 <|i3 254 0 406 <|i3 257 0 413 <|i3 260 0 418 <|i3 266 0 423 <|i3 271 0 430 <|i3 284 0 465 <|i3 290 0 484 <|i3 296 0 503 <|i3 302 0 522 <|i3 307 0 539 <|i3 310 0 546 <|i3 318 0 553 <|i3 325 0 560 <|i3 334 0 567 <|i3 364 0 626 <|i3 366 0 633 <|i3 377 0 640 <|i3 382 0 647 <|i3 385 0 652 <|i3 394 0 659 <|i3 398 0 666 <|i3 406 0 671 <|i3 423 0 676 <|i3 437 0 681 <|i3 447 0 686 <|i3 454 0 693 <|i3 463 0 700 <|i3 473 0 707 <|i3 475 0 714 <|i3 482 0 721 <|i3 488 0 728 <|i3 493 0 733 <|i3 497 0 740 <|i3 499 0 747 <|i3 505 0 752 <|i3 507 0 759 <|[]⟩,⟨[]⟩⟩
def q21:Obj:=fO "_wall" "_wall" (top 0) (.str "__main__" 164) 20
noncomputable def q22:Obj:=⟨.type "tuple",none,.seq ⟨.type "ValueError"::[]⟩ 0,⟨[]⟩⟩
def q23:Obj:=wA
def q24(P:Params):Obj:=wD (dE P "__module__" 203 (.str "chancehall.errors" 194)::dE P "__qualname__" 205 (.str "HallError" 204)::dE P "__firstlineno__" 207 (.int 5 206)::dR P "__static_attributes__" 208 29::[]) 4
def q27:Obj:=wC "HallError" 198 5 25 201
def q28:Obj:=wF 27 24 "chancehall.errors" 194
def q30(P:Params):Obj:=wD (dE P "__module__" 203 (.str "chancehall.errors" 194)::dE P "__firstlineno__" 207 (.int 5 206)::dR P "__static_attributes__" 208 29::dR P "__weakref__" 210 32::dE P "__doc__" 211 .none::[]) 3
def q31:Obj:=wK "HallError" [.type "ValueError"] [.ref 31,.type "ValueError",.type "Exception",.type "BaseException",.type "object"] 30 [.ref 44,.ref 56,.ref 68,.ref 80,.ref 99,.ref 118] (some (.ref 22)) 196 204 "ValueError.__new__"
def q32:Obj:=wG 209 31
def q33:Obj:=wS 31
def q34:Obj:=wB 31
def q35:Obj:=wT 31
def q36:Obj:=wA
def q37(P:Params):Obj:=wD (dE P "__module__" 221 (.str "chancehall.errors" 194)::dE P "__qualname__" 223 (.str "NoNumber" 222)::dE P "__firstlineno__" 225 (.int 7 224)::dR P "__static_attributes__" 226 42::[]) 4
def q40:Obj:=wC "NoNumber" 216 7 38 219
def q41:Obj:=wF 40 37 "chancehall.errors" 194
def q43(P:Params):Obj:=wD (dE P "__module__" 221 (.str "chancehall.errors" 194)::dE P "__firstlineno__" 225 (.int 7 224)::dR P "__static_attributes__" 226 42::dE P "__doc__" 227 .none::[]) 2
def q44:Obj:=wK "NoNumber" [.ref 31] [.ref 44,.ref 31,.type "ValueError",.type "Exception",.type "BaseException",.type "object"] 43 [] (some (.ref 35)) 214 222 "ValueError.__new__"
def q45:Obj:=wS 44
def q46:Obj:=wB 44
def q47:Obj:=wT 31
def q48:Obj:=wA
def q49(P:Params):Obj:=wD (dE P "__module__" 237 (.str "chancehall.errors" 194)::dE P "__qualname__" 239 (.str "NoName" 238)::dE P "__firstlineno__" 241 (.int 9 240)::dR P "__static_attributes__" 242 54::[]) 4
def q52:Obj:=wC "NoName" 232 9 50 235
def q53:Obj:=wF 52 49 "chancehall.errors" 194
def q55(P:Params):Obj:=wD (dE P "__module__" 237 (.str "chancehall.errors" 194)::dE P "__firstlineno__" 241 (.int 9 240)::dR P "__static_attributes__" 242 54::dE P "__doc__" 243 .none::[]) 2
def q56:Obj:=wK "NoName" [.ref 31] [.ref 56,.ref 31,.type "ValueError",.type "Exception",.type "BaseException",.type "object"] 55 [] (some (.ref 47)) 230 238 "ValueError.__new__"
def q57:Obj:=wS 56
def q58:Obj:=wB 56
def q59:Obj:=wT 31
def q60:Obj:=wA
def q61(P:Params):Obj:=wD (dE P "__module__" 253 (.str "chancehall.errors" 194)::dE P "__qualname__" 255 (.str "NoChance" 254)::dE P "__firstlineno__" 257 (.int 11 256)::dR P "__static_attributes__" 258 66::[]) 4
def q64:Obj:=wC "NoChance" 248 11 62 251
def q65:Obj:=wF 64 61 "chancehall.errors" 194
def q67(P:Params):Obj:=wD (dE P "__module__" 253 (.str "chancehall.errors" 194)::dE P "__firstlineno__" 257 (.int 11 256)::dR P "__static_attributes__" 258 66::dE P "__doc__" 259 .none::[]) 2
def q68:Obj:=wK "NoChance" [.ref 31] [.ref 68,.ref 31,.type "ValueError",.type "Exception",.type "BaseException",.type "object"] 67 [] (some (.ref 59)) 246 254 "ValueError.__new__"
def q69:Obj:=wS 68
def q70:Obj:=wB 68
def q71:Obj:=wT 31
def q72:Obj:=wA
def q73(P:Params):Obj:=wD (dE P "__module__" 269 (.str "chancehall.errors" 194)::dE P "__qualname__" 271 (.str "NoShare" 270)::dE P "__firstlineno__" 273 (.int 13 272)::dR P "__static_attributes__" 274 78::[]) 4
def q76:Obj:=wC "NoShare" 264 13 74 267
def q77:Obj:=wF 76 73 "chancehall.errors" 194
def q79(P:Params):Obj:=wD (dE P "__module__" 269 (.str "chancehall.errors" 194)::dE P "__firstlineno__" 273 (.int 13 272)::dR P "__static_attributes__" 274 78::dE P "__doc__" 275 .none::[]) 2
def q80:Obj:=wK "NoShare" [.ref 31] [.ref 80,.ref 31,.type "ValueError",.type "Exception",.type "BaseException",.type "object"] 79 [] (some (.ref 71)) 262 270 "ValueError.__new__"
def q81:Obj:=wS 80
def q82:Obj:=wB 80
def q83:Obj:=wT 31
def q84:Obj:=wA
def q85(P:Params):Obj:=wD (dE P "__module__" 285 (.str "chancehall.errors" 194)::dE P "__qualname__" 287 (.str "NoRoom" 286)::dE P "__firstlineno__" 289 (.int 15 288)::dR P "__init__" 297 96::dR P "__static_attributes__" 299 97::[]) 5
def q87:Obj:=⟨.none,none,.fields ⟨i3 17 4 95 <|[]⟩,⟨[]⟩⟩
def q88:Obj:=wC "NoRoom" 280 15 86 283
def q89:Obj:=wF 88 85 "chancehall.errors" 194
def q95:Obj:=cO "__init__" "NoRoom.__init__" 290 17 2 3 90 295
def q96:Obj:=fO "__init__" "NoRoom.__init__" (fU 7 0) (.str "chancehall.errors" 194) 95
def q98(P:Params):Obj:=wD (dE P "__module__" 285 (.str "chancehall.errors" 194)::dE P "__firstlineno__" 289 (.int 15 288)::dR P "__init__" 297 96::dR P "__static_attributes__" 299 97::dE P "__doc__" 300 .none::[]) 2
def q99:Obj:=wK "NoRoom" [.ref 31] [.ref 99,.ref 31,.type "ValueError",.type "Exception",.type "BaseException",.type "object"] 98 [] (some (.ref 83)) 278 286 "ValueError.__new__"
def alX:Obj:=wS 99
def amk:Obj:=wB 99
def aiC:Obj:=wT 31
def amQ:Obj:=wA
def alp(P:Params):Obj:=wD (dE P "__module__" 310 (.str "chancehall.errors" 194)::dE P "__qualname__" 312 (.str "NoPlan" 311)::dE P "__firstlineno__" 314 (.int 20 313)::dR P "__init__" 322 115::dR P "__static_attributes__" 324 116::[]) 5
def am6:Obj:=⟨.none,none,.fields ⟨i3 22 4 114 <|[]⟩,⟨[]⟩⟩
def amL:Obj:=wC "NoPlan" 305 20 105 308
def alq:Obj:=wF 107 104 "chancehall.errors" 194
def ajI:Obj:=cO "__init__" "NoPlan.__init__" 315 22 2 3 109 320
def aki:Obj:=fO "__init__" "NoPlan.__init__" (fU 8 0) (.str "chancehall.errors" 194) 114
def ak0(P:Params):Obj:=wD (dE P "__module__" 310 (.str "chancehall.errors" 194)::dE P "__firstlineno__" 314 (.int 20 313)::dR P "__init__" 322 115::dR P "__static_attributes__" 324 116::dE P "__doc__" 325 .none::[]) 2
def agL:Obj:=wK "NoPlan" [.ref 31] [.ref 118,.ref 31,.type "ValueError",.type "Exception",.type "BaseException",.type "object"] 117 [] (some (.ref 102)) 303 311 "ValueError.__new__"
def am5:Obj:=wS 118
def amP:Obj:=wB 118
def ajl:Obj:=fO "is_whole" "is_whole" (top 10) (.str "chancehall.wholes" 328) 126
def aio:Obj:=tN 340 ["one","other","left","right","rest"]
def ag7:Obj:=fO "divisor" "divisor" (top 11) (.str "chancehall.wholes" 328) 133
noncomputable def akq:Obj:=⟨.type "tuple",none,.seq ⟨.int 0 350::.int 1 351::[]⟩ 0,⟨[]⟩⟩
noncomputable def aiJ:Obj:=⟨.type "tuple",none,.seq ⟨.int 1 353::.int 1 354::[]⟩ 0,⟨[]⟩⟩
def agO:Obj:=fO "ratio" "ratio" (top 15) (.str "chancehall.ratios" 348) 142
def akC:Obj:=fO "is_ratio" "is_ratio" (top 16) (.str "chancehall.ratios" 348) 149
def aiD:Obj:=fO "plus" "plus" (top 17) (.str "chancehall.ratios" 348) 156
def ahW:Obj:=fO "minus" "minus" (top 18) (.str "chancehall.ratios" 348) 163
def ajJ:Obj:=fO "times" "times" (top 19) (.str "chancehall.ratios" 348) 170
def ahv:Obj:=fO "over" "over" (top 20) (.str "chancehall.ratios" 348) 177
def ajz:Obj:=fO "under" "under" (top 21) (.str "chancehall.ratios" 348) 184
def akY:Obj:=fO "level" "level" (top 23) (.str "chancehall.levels" 414) 189
def ahf:Obj:=fO "total" "total" (top 24) (.str "chancehall.levels" 414) 196
def agQ:Obj:=fO "greatest" "greatest" (top 25) (.str "chancehall.levels" 414) 203
def ajY:Obj:=fO "fits" "fits" (top 27) (.str "chancehall.plans" 439) 210
def aj7:Obj:=cO "check_plan" "check_plan" 449 86 2 3 212 456
def aju:Obj:=fO "check_plan" "check_plan" (top 28) (.str "chancehall.plans" 439) 217
def ah9:Obj:=cP "behind_door" "behind_door" 459 93 2 3 219 462
def ag9:Obj:=fO "behind_door" "behind_door" (top 29) (.str "chancehall.plans" 439) 222
def aic:Obj:=tN 468 ["hall","offer","leveled","behind"]
def ak4:Obj:=cO "raised_look" "raised_look" 465 96 3 3 224 472
def ajT:Obj:=fO "raised_look" "raised_look" (top 30) (.str "chancehall.plans" 439) 229
def akV:Obj:=fO "lowest" "lowest" (top 32) (.str "chancehall.papers" 475) 234
def ag2:Obj:=cP "row_times" "row_times" 483 105 2 3 236 486
def ahV:Obj:=fO "row_times" "row_times" (top 33) (.str "chancehall.papers" 475) 239
def ajQ:Obj:=cP "row_plus" "row_plus" 489 107 3 3 241 492
def agV:Obj:=fO "row_plus" "row_plus" (top 34) (.str "chancehall.papers" 475) 244
def aiM:Obj:=cO "take_step" "take_step" 495 114 2 3 246 501
def ajR:Obj:=fO "take_step" "take_step" (top 35) (.str "chancehall.papers" 475) 251
def akB:Obj:=cO "number_at" "number_at" 504 123 2 3 253 509
def aia:Obj:=fO "number_at" "number_at" (top 36) (.str "chancehall.papers" 475) 258
def ai3:Obj:=cP "fractions_of" "fractions_of" 512 125 1 3 260 515
def aip:Obj:=fO "fractions_of" "fractions_of" (top 37) (.str "chancehall.papers" 475) 263
def ajE:Obj:=tN 521 ["leveled","place","column","row"]
def ak1:Obj:=cO "first_from" "first_from" 518 127 3 3 265 525
def ah2:Obj:=fO "first_from" "first_from" (top 38) (.str "chancehall.papers" 475) 270
def ajW:Obj:=fO "go_on" "go_on" (top 39) (.str "chancehall.papers" 475) 277
def ah6:Obj:=tN 540 ["leveled","steps","place","found","column","first"]
def ahF:Obj:=cO "begin_row" "begin_row" 537 135 5 3 279 546
def aiX:Obj:=fO "begin_row" "begin_row" (top 40) (.str "chancehall.papers" 475) 284
def ajC:Obj:=tN 552 ["leveled","steps","place","column","row","often"]
def ag1:Obj:=cO "clear_column" "clear_column" 549 141 4 3 286 558
def akl:Obj:=fO "clear_column" "clear_column" (top 41) (.str "chancehall.papers" 475) 291
def ajm:Obj:=fO "reduced" "reduced" (top 42) (.str "chancehall.papers" 475) 296
def ai2:Obj:=cO "width_of" "width_of" 569 158 1 3 298 573
def akd:Obj:=fO "width_of" "width_of" (top 44) (.str "chancehall.solving" 567) 303
def ahp:Obj:=cP "with_rights" "with_rights" 576 162 2 3 305 579
def ajy:Obj:=fO "with_rights" "with_rights" (top 45) (.str "chancehall.solving" 567) 308
def agY:Obj:=cP "begins_of" "begins_of" 582 164 2 3 310 585
def agS:Obj:=fO "begins_of" "begins_of" (top 46) (.str "chancehall.solving" 567) 313
def air:Obj:=fO "odd_row" "odd_row" (top 47) (.str "chancehall.solving" 567) 320
def akr:Obj:=tN 601 ["end","begins","wide","answer","row","column"]
def ajg:Obj:=cO "answer_of" "answer_of" 598 176 3 3 322 607
def agB:Obj:=fO "answer_of" "answer_of" (top 48) (.str "chancehall.solving" 567) 327
def aiV:Obj:=cP "single_rows" "single_rows" 610 181 1 3 329 613
def ahS:Obj:=fO "single_rows" "single_rows" (top 49) (.str "chancehall.solving" 567) 332
def ajk:Obj:=tN 619 ["rows","rights","wide","end","begins"]
def alb:Obj:=cO "only_answer" "only_answer" 616 183 2 3 334 624
def akK:Obj:=fO "only_answer" "only_answer" (top 50) (.str "chancehall.solving" 567) 339
def ahh:Obj:=cP "chosen_doors" "chosen_doors" 629 191 2 3 341 632
def akT:Obj:=fO "chosen_doors" "chosen_doors" (top 52) (.str "chancehall.worths" 627) 344
def ala:Obj:=tN 638 ["share","chosen","rows","room","offer","behind","chance"]
def ajt:Obj:=cO "left_rows" "left_rows" 635 193 2 3 346 645
def akX:Obj:=fO "left_rows" "left_rows" (top 53) (.str "chancehall.worths" 627) 351
def ajo:Obj:=cP "worths_of" "worths_of" 648 200 2 3 353 651
def ait:Obj:=fO "worths_of" "worths_of" (top 54) (.str "chancehall.worths" 627) 356
def akn:Obj:=cO "better_door" "better_door" 656 206 2 3 358 662
def aj8:Obj:=fO "better_door" "better_door" (top 56) (.str "chancehall.mending" 654) 363
def ahe:Obj:=fO "mended" "mended" (top 57) (.str "chancehall.mending" 654) 368
def agW:Obj:=cO "mendings" "mendings" 671 219 2 3 370 678
def ahG:Obj:=fO "mendings" "mendings" (top 58) (.str "chancehall.mending" 654) 375
def akQ:Obj:=tN 686 ["hall","top","bottom","many","tops","bottoms"]
def ajx:Obj:=fO "wait_of" "wait_of" (top 60) (.str "chancehall.lacks" 681) 382
def aiG:Obj:=cP "most_mendings" "most_mendings" 695 239 1 3 384 698
def agU:Obj:=fO "most_mendings" "most_mendings" (top 61) (.str "chancehall.lacks" 681) 387
def agA:Obj:=fO "is_word" "is_word" (top 64) (.str "chancehall.words" 701) 392
def aji:Obj:=cO "check_head" "check_head" 713 249 2 3 394 718
def ajn:Obj:=fO "check_head" "check_head" (top 66) (.str "chancehall.doors" 711) 399
def amG:Obj:=fT "check_room_name" "check_room_name" (top 67)
def aiF:Obj:=cO "check_room_name" "check_room_name" 721 254 1 3 401 725
def akN:Obj:=fO "check_room_name" "check_room_name" (top 67) (.str "chancehall.doors" 711) 406
def ahd:Obj:=cO "check_chance" "check_chance" 728 257 1 3 408 732
def ah0:Obj:=fO "check_chance" "check_chance" (top 68) (.str "chancehall.doors" 711) 413
def ah3:Obj:=cP "check_pairs" "check_pairs" 735 260 1 3 415 738
def ahI:Obj:=fO "check_pairs" "check_pairs" (top 69) (.str "chancehall.doors" 711) 418
def aj1:Obj:=cP "joined_ways" "joined_ways" 741 266 1 3 420 744
def agI:Obj:=fO "joined_ways" "joined_ways" (top 70) (.str "chancehall.doors" 711) 423
def am2:Obj:=wA
def anf(P:Params):Obj:=wD (dE P "__module__" 754 (.str "chancehall.doors" 711)::dE P "__qualname__" 756 (.str "Door" 755)::dE P "__firstlineno__" 758 (.int 271 757)::dR P "__init__" 767 438::dR P "ways" 774 445::dR P "chance_to" 782 452::dR P "__static_attributes__" 786 453::[]) 7
def alS:Obj:=⟨.none,none,.fields ⟨i3 273 4 437 <|i3 279 4 444 <|i3 282 4 451 <|[]⟩,⟨[]⟩⟩
def am7:Obj:=wC "Door" 749 271 428 752
def anp:Obj:=wF 430 427 "chancehall.doors" 711
def ahB:Obj:=cO "__init__" "Door.__init__" 759 273 3 3 432 765
def ai6:Obj:=fO "__init__" "Door.__init__" (fU 71 0) (.str "chancehall.doors" 711) 437
def agX:Obj:=fO "ways" "Door.ways" (fU 71 1) (.str "chancehall.doors" 711) 444
def agT:Obj:=cO "chance_to" "Door.chance_to" 775 282 2 3 446 780
def aiL:Obj:=fO "chance_to" "Door.chance_to" (fU 71 2) (.str "chancehall.doors" 711) 451
def ahE(P:Params):Obj:=wD (dE P "__module__" 754 (.str "chancehall.doors" 711)::dE P "__firstlineno__" 758 (.int 271 757)::dR P "__init__" 767 438::dR P "ways" 774 445::dR P "chance_to" 782 452::dR P "__static_attributes__" 786 453::dR P "__dict__" 788 456::dR P "__weakref__" 790 457::dE P "__doc__" 791 .none::[]) 4
def ajZ:Obj:=wK "Door" [.type "object"] [.ref 455,.type "object"] 454 [.ref 476,.ref 495] none 747 755 "object.__new__"
noncomputable def akb:Obj:=⟨.type "getset_descriptor",none,.fields ⟨.str "__dict__" 787::.ref 455::.builtin "function.__dict__"::.builtin "function.__dict__#set"::[]⟩,⟨[]⟩⟩
def ais:Obj:=wG 789 455
def ane:Obj:=wS 455
def al6:Obj:=wB 455
def aiE:Obj:=wT 455
def anu:Obj:=wA
def amU(P:Params):Obj:=wD (dE P "__module__" 801 (.str "chancehall.doors" 711)::dE P "__qualname__" 803 (.str "Sure" 802)::dE P "__firstlineno__" 805 (.int 284 804)::dR P "__init__" 815 473::dR P "__static_attributes__" 817 474::[]) 5
def al2:Obj:=⟨.none,none,.fields ⟨i3 286 4 472 <|[]⟩,⟨[]⟩⟩
def amR:Obj:=wC "Sure" 796 284 463 799
def alP:Obj:=wF 465 462 "chancehall.doors" 711
def ak3:Obj:=cO "__init__" "Sure.__init__" 806 286 4 3 467 813
def ajM:Obj:=fO "__init__" "Sure.__init__" (fU 72 0) (.str "chancehall.doors" 711) 472
def ajV(P:Params):Obj:=wD (dE P "__module__" 801 (.str "chancehall.doors" 711)::dE P "__firstlineno__" 805 (.int 284 804)::dR P "__init__" 815 473::dR P "__static_attributes__" 817 474::dE P "__doc__" 818 .none::[]) 2
def ahl:Obj:=wK "Sure" [.ref 455] [.ref 476,.ref 455,.type "object"] 475 [] (some (.ref 460)) 794 802 "object.__new__"
def amw:Obj:=wS 476
def amT:Obj:=wB 476
def ako:Obj:=wT 455
def aly:Obj:=wA
def amC(P:Params):Obj:=wD (dE P "__module__" 828 (.str "chancehall.doors" 711)::dE P "__qualname__" 830 (.str "Mixed" 829)::dE P "__firstlineno__" 832 (.int 290 831)::dR P "__init__" 842 492::dR P "__static_attributes__" 844 493::[]) 5
def alE:Obj:=⟨.none,none,.fields ⟨i3 292 4 491 <|[]⟩,⟨[]⟩⟩
def anF:Obj:=wC "Mixed" 823 290 482 826
def aln:Obj:=wF 484 481 "chancehall.doors" 711
def agE:Obj:=cO "__init__" "Mixed.__init__" 833 292 4 3 486 840
def ahb:Obj:=fO "__init__" "Mixed.__init__" (fU 73 0) (.str "chancehall.doors" 711) 491
def ahT(P:Params):Obj:=wD (dE P "__module__" 828 (.str "chancehall.doors" 711)::dE P "__firstlineno__" 832 (.int 290 831)::dR P "__init__" 842 492::dR P "__static_attributes__" 844 493::dE P "__doc__" 845 .none::[]) 2
def agN:Obj:=wK "Mixed" [.ref 455] [.ref 495,.ref 455,.type "object"] 494 [.ref 514,.ref 531] (some (.ref 479)) 821 829 "object.__new__"
def amH:Obj:=wS 495
def amD:Obj:=wB 495
def akE:Obj:=wT 495
def anj:Obj:=wA
def amS(P:Params):Obj:=wD (dE P "__module__" 855 (.str "chancehall.doors" 711)::dE P "__qualname__" 857 (.str "Toss" 856)::dE P "__firstlineno__" 859 (.int 296 858)::dR P "__init__" 871 511::dR P "__static_attributes__" 872 512::[]) 5
def alF:Obj:=⟨.none,none,.fields ⟨i3 298 4 510 <|[]⟩,⟨[]⟩⟩
def anq:Obj:=wC "Toss" 850 296 501 853
def anm:Obj:=wF 503 500 "chancehall.doors" 711
def akH:Obj:=tN 863 ["self","name","pay","chance","room","other"]
def ajf:Obj:=cO "__init__" "Toss.__init__" 860 298 6 3 505 869
def aiB:Obj:=fO "__init__" "Toss.__init__" (fU 74 0) (.str "chancehall.doors" 711) 510
def aiO(P:Params):Obj:=wD (dE P "__module__" 855 (.str "chancehall.doors" 711)::dE P "__firstlineno__" 859 (.int 296 858)::dR P "__init__" 871 511::dR P "__static_attributes__" 872 512::dE P "__doc__" 873 .none::[]) 2
def akv:Obj:=wK "Toss" [.ref 495] [.ref 514,.ref 495,.ref 455,.type "object"] 513 [] (some (.ref 498)) 848 856 "object.__new__"
def al7:Obj:=wS 514
def amZ:Obj:=wB 514
def ai9:Obj:=wT 495
def amM:Obj:=wA
def am9(P:Params):Obj:=wD (dE P "__module__" 883 (.str "chancehall.doors" 711)::dE P "__qualname__" 885 (.str "Even" 884)::dE P "__firstlineno__" 887 (.int 302 886)::dR P "__init__" 893 528::dR P "__static_attributes__" 894 529::[]) 5
def anB:Obj:=⟨.none,none,.fields ⟨i3 304 4 527 <|[]⟩,⟨[]⟩⟩
def amn:Obj:=wC "Even" 878 302 520 881
def amj:Obj:=wF 522 519 "chancehall.doors" 711
def aks:Obj:=cP "__init__" "Even.__init__" 888 304 4 3 524 891
def ahm:Obj:=fO "__init__" "Even.__init__" (fU 75 0) (.str "chancehall.doors" 711) 527
def ahO(P:Params):Obj:=wD (dE P "__module__" 883 (.str "chancehall.doors" 711)::dE P "__firstlineno__" 887 (.int 302 886)::dR P "__init__" 893 528::dR P "__static_attributes__" 894 529::dE P "__doc__" 895 .none::[]) 2
def ajj:Obj:=wK "Even" [.ref 495] [.ref 531,.ref 495,.ref 455,.type "object"] 530 [] (some (.ref 517)) 876 884 "object.__new__"
def al0:Obj:=wS 531
def alK:Obj:=wB 531
def aiI:Obj:=cO "check_share" "check_share" 900 307 1 3 534 904
def aix:Obj:=fO "check_share" "check_share" (top 77) (.str "chancehall.halls" 898) 539
def akt:Obj:=cO "numbers_of" "numbers_of" 907 310 1 3 541 914
def agP:Obj:=fO "numbers_of" "numbers_of" (top 78) (.str "chancehall.halls" 898) 546
def ahY:Obj:=tN 920 ["door","numbers","numbered","name","chance"]
def aiv:Obj:=cO "numbered_ways" "numbered_ways" 917 318 2 3 548 925
def aiR:Obj:=fO "numbered_ways" "numbered_ways" (top 79) (.str "chancehall.halls" 898) 553
def ajb:Obj:=tN 931 ["doors","numbers","taken","told","door"]
def aht:Obj:=cO "offers_of" "offers_of" 928 325 2 3 555 936
def ahy:Obj:=fO "offers_of" "offers_of" (top 80) (.str "chancehall.halls" 898) 560
def alx:Obj:=wA
def al3(P:Params):Obj:=wD (dE P "__module__" 946 (.str "chancehall.halls" 898)::dE P "__qualname__" 948 (.str "Hall" 947)::dE P "__firstlineno__" 950 (.int 334 949)::dR P "__init__" 956 573::dR P "size" 963 580::dR P "names" 970 587::dR P "place" 978 594::dR P "check_room" 986 601::dR P "door_at" 995 608::dR P "offers" 1001 613::dR P "__static_attributes__" 1005 614::[]) 11
def amg:Obj:=⟨.none,none,.fields ⟨i3 336 4 572 <|i3 342 4 579 <|i3 345 4 586 <|i3 348 4 593 <|i3 353 4 600 <|i3 357 4 607 <|i3 360 4 612 <|[]⟩,⟨[]⟩⟩
def am1:Obj:=wC "Hall" 941 334 565 944
def amJ:Obj:=wF 567 564 "chancehall.halls" 898
def aha:Obj:=cP "__init__" "Hall.__init__" 951 336 3 3 569 954
def ajH:Obj:=fO "__init__" "Hall.__init__" (fU 81 0) (.str "chancehall.halls" 898) 572
def aiW:Obj:=fO "size" "Hall.size" (fU 81 1) (.str "chancehall.halls" 898) 579
def ajF:Obj:=fO "names" "Hall.names" (fU 81 2) (.str "chancehall.halls" 898) 586
def agK:Obj:=fO "place" "Hall.place" (fU 81 3) (.str "chancehall.halls" 898) 593
def alC:Obj:=fT "check_room" "Hall.check_room" (fU 81 4)
def akj:Obj:=cO "check_room" "Hall.check_room" 979 353 2 3 595 984
def ak9:Obj:=fO "check_room" "Hall.check_room" (fU 81 4) (.str "chancehall.halls" 898) 600
def ahA:Obj:=cO "door_at" "Hall.door_at" 987 357 3 3 602 993
def agZ:Obj:=fO "door_at" "Hall.door_at" (fU 81 5) (.str "chancehall.halls" 898) 607
def ahP:Obj:=cP "offers" "Hall.offers" 996 360 2 3 609 999
def akk:Obj:=fO "offers" "Hall.offers" (fU 81 6) (.str "chancehall.halls" 898) 612
def akZ(P:Params):Obj:=wD (dE P "__module__" 946 (.str "chancehall.halls" 898)::dE P "__firstlineno__" 950 (.int 334 949)::dR P "__init__" 956 573::dR P "size" 963 580::dR P "names" 970 587::dR P "place" 978 594::dR P "check_room" 986 601::dR P "door_at" 995 608::dR P "offers" 1001 613::dR P "__static_attributes__" 1005 614::dR P "__dict__" 1007 617::dR P "__weakref__" 1009 618::dE P "__doc__" 1010 .none::[]) 4
def aiT:Obj:=wK "Hall" [.type "object"] [.ref 616,.type "object"] 615 [] none 939 947 "object.__new__"
noncomputable def ai8:Obj:=⟨.type "getset_descriptor",none,.fields ⟨.str "__dict__" 1006::.ref 616::.builtin "function.__dict__"::.builtin "function.__dict__#set"::[]⟩,⟨[]⟩⟩
def akM:Obj:=wG 1008 616
def amX:Obj:=wS 616
def alw:Obj:=wB 616
def ajD:Obj:=cO "_law_cell" "_law_cell" 1015 364 2 3 621 1020
def ahz:Obj:=fO "_law_cell" "_law_cell" (top 83) (.str "law_chancehall_k31_whole_mendings_end" 1013) 626
def alg:Obj:=tN 1026 ["_law_cell_here","_law_many","_law_found","_law_number","_law_digits","_law_k"]
def aky:Obj:=cO "_law_stream" "_law_stream" 1023 366 2 3 628 1032
def ajd:Obj:=fO "_law_stream" "_law_stream" (top 84) (.str "law_chancehall_k31_whole_mendings_end" 1013) 633
def aiu:Obj:=tN 1038 ["_law_one","_law_other","_law_low","_law_high"]
def ajP:Obj:=cO "_law_gcd" "_law_gcd" 1035 377 2 3 635 1042
def akF:Obj:=fO "_law_gcd" "_law_gcd" (top 85) (.str "law_chancehall_k31_whole_mendings_end" 1013) 640
def aiN:Obj:=tN 1048 ["_law_top_here","_law_bottom","_law_common"]
def ak8:Obj:=cO "_law_ratio" "_law_ratio" 1045 382 2 3 642 1051
def ajL:Obj:=fO "_law_ratio" "_law_ratio" (top 86) (.str "law_chancehall_k31_whole_mendings_end" 1013) 647
def agH:Obj:=cP "_law_names" "_law_names" 1054 385 2 3 649 1057
def aj5:Obj:=fO "_law_names" "_law_names" (top 87) (.str "law_chancehall_k31_whole_mendings_end" 1013) 652
def aiz:Obj:=tN 1063 ["_law_cell_here","_law_xs","_law_bottom"]
def akU:Obj:=cO "_law_share" "_law_share" 1060 394 1 3 654 1066
def akg:Obj:=fO "_law_share" "_law_share" (top 88) (.str "law_chancehall_k31_whole_mendings_end" 1013) 659
def ak6:Obj:=tN 1072 ["_law_cell_here","_law_x","_law_y"]
def aif:Obj:=cO "_law_pay" "_law_pay" 1069 398 3 3 661 1075
def ajU:Obj:=fO "_law_pay" "_law_pay" (top 89) (.str "law_chancehall_k31_whole_mendings_end" 1013) 666
def ahQ:Obj:=cP "_law_door" "_law_door" 1078 406 2 3 668 1081
def ale:Obj:=fO "_law_door" "_law_door" (top 90) (.str "law_chancehall_k31_whole_mendings_end" 1013) 671
def ajA:Obj:=cP "_law_doors" "_law_doors" 1084 423 4 3 673 1087
def aie:Obj:=fO "_law_doors" "_law_doors" (top 91) (.str "law_chancehall_k31_whole_mendings_end" 1013) 676
def ain:Obj:=cP "_law_built" "_law_built" 1090 437 3 3 678 1093
def aiy:Obj:=fO "_law_built" "_law_built" (top 92) (.str "law_chancehall_k31_whole_mendings_end" 1013) 681
def ahX:Obj:=cP "_law_hall" "_law_hall" 1096 447 3 3 683 1099
def ahn:Obj:=fO "_law_hall" "_law_hall" (top 93) (.str "law_chancehall_k31_whole_mendings_end" 1013) 686
def ajN:Obj:=tN 1105 ["_law_cell_here","_law_rooms_here","_law_xs","_law_found","_law_k"]
def aj4:Obj:=cO "_law_chosen" "_law_chosen" 1102 454 2 3 688 1110
def akG:Obj:=fO "_law_chosen" "_law_chosen" (top 94) (.str "law_chancehall_k31_whole_mendings_end" 1013) 693
def alc:Obj:=tN 1116 ["_law_share_here","_law_door_here","_law_worths","_law_top_here","_law_bottom","_law_room","_law_chance","_law_part"]
def ahL:Obj:=cO "_law_look" "_law_look" 1113 463 3 3 695 1124
def akx:Obj:=fO "_law_look" "_law_look" (top 95) (.str "law_chancehall_k31_whole_mendings_end" 1013) 700
def ahu:Obj:=cO "_law_below" "_law_below" 1127 473 2 3 702 1132
def ahj:Obj:=fO "_law_below" "_law_below" (top 96) (.str "law_chancehall_k31_whole_mendings_end" 1013) 707
def ahc:Obj:=cO "_law_size" "_law_size" 1135 475 1 3 709 1140
def ajO:Obj:=fO "_law_size" "_law_size" (top 97) (.str "law_chancehall_k31_whole_mendings_end" 1013) 714
def aiZ:Obj:=tN 1146 ["_law_cell_here","_law_many","_law_pay_here","_law_found","_law_k"]
def agx:Obj:=cO "_law_corridor" "_law_corridor" 1143 482 2 3 716 1151
def ajh:Obj:=fO "_law_corridor" "_law_corridor" (top 98) (.str "law_chancehall_k31_whole_mendings_end" 1013) 721
def akc:Obj:=cO "_law_rooms" "_law_rooms" 1154 488 1 3 723 1159
def ahH:Obj:=fO "_law_rooms" "_law_rooms" (top 99) (.str "law_chancehall_k31_whole_mendings_end" 1013) 728
def ahZ:Obj:=cP "_law_start" "_law_start" 1162 493 2 3 730 1165
def ajs:Obj:=fO "_law_start" "_law_start" (top 100) (.str "law_chancehall_k31_whole_mendings_end" 1013) 733
def ag5:Obj:=cO "_law_less" "_law_less" 1168 497 2 3 735 1173
def ahN:Obj:=fO "_law_less" "_law_less" (top 101) (.str "law_chancehall_k31_whole_mendings_end" 1013) 740
def akS:Obj:=tN 1179 ["_law_some","_law_best","_law_one"]
def akJ:Obj:=cO "_law_top" "_law_top" 1176 499 1 3 742 1182
def ahr:Obj:=fO "_law_top" "_law_top" (top 102) (.str "law_chancehall_k31_whole_mendings_end" 1013) 747
def ajS:Obj:=cP "_law_far" "_law_far" 1185 505 2 3 749 1188
def agG:Obj:=fO "_law_far" "_law_far" (top 103) (.str "law_chancehall_k31_whole_mendings_end" 1013) 752
def aiq:Obj:=tN 1194 ["_law_share_here","_law_rooms_here","_law_plan","_law_last","_law_found","_law_k","_law_lack"]
def agD:Obj:=cO "_law_lacks" "_law_lacks" 1191 507 4 3 754 1201
def ak2:Obj:=fO "_law_lacks" "_law_lacks" (top 104) (.str "law_chancehall_k31_whole_mendings_end" 1013) 759
def tr1(P:Params):BT:=nd (boot_o_0 P) (nd (boot_o_1 P) (nd (amF P) (nd (boot_o_7 P) (nd tE (nd q31 (nd fE (nd ajl (n1 (tN 507 ["row","column"]) aiB) (n1 ajx (fT "_law_gcd" "_law_gcd" (top 85)))) (nd tE (n1 (fT "odd_row" "odd_row" (top 47)) fE) (n1 fE fE))) (nd q95 (nd fE (n1 fE (tN 910 ["rooms","numbers","room","name"])) (n1 tE ahQ)) (nd ag9 (n1 ajt ahA) (n1 ako tE)))) (nd q47 (nd (q79 P) (nd agO (n1 ah2 aks) (n1 aji fE)) (nd (tN 444 ["thing","many"]) (n1 fE tE) (n1 tE tE))) (nd (tN 318 ["self","room"]) (nd tE (n1 ai2 (fT "offers_of" "offers_of" (top 80))) (n1 anp ahn)) (nd ag2 (n1 (fT "mended" "mended" (top 57)) (tN 1018 ["_law_script","_law_k"])) (n1 agN (fT "_law_far" "_law_far" (top 103))))))) (nd q23 (nd fE (nd q71 (nd akq (n1 ai3 (am9 P)) (n1 (fT "is_word" "is_word" (top 64)) ak8)) (nd fE (n1 ajg (tN 967 ["self"])) (n1 ajZ (tN 1138 ["_law_cell_here","_law_xs"])))) (nd amQ (nd (tN 393 ["one","other"]) (n1 (fT "reduced" "reduced" (top 42)) tE) (n1 aj1 fE)) (nd tE (n1 fE (akZ P)) (n1 fE fE)))) (nd (q55 P) (nd q87 (nd tE (n1 tE fE) (n1 akN ak6)) (nd tE (n1 (fT "chosen_doors" "chosen_doors" (top 52)) alC) (n1 (fT "__init__" "Sure.__init__" (fU 72 0)) (fT "_law_rooms" "_law_rooms" (top 99))))) (nd am5 (nd (fT "under" "under" (top 21)) (n1 fE am1) (n1 tE tE)) (nd fE (n1 agW tE) (n1 anq agD)))))) (nd o11 (nd (fT "_wall" "_wall" (top 0)) (nd q35 (nd (q67 P) (nd tE (n1 aia al7) (n1 aiG fE)) (nd (fT "total" "total" (top 24)) (n1 fE (cO "size" "Hall.size" 957 342 1 3 574 961)) (n1 agT ahu))) (nd q99 (nd (cO "minus" "minus" 382 58 2 3 158 387) (n1 ag1 agP) (n1 ahI (fT "_law_doors" "_law_doors" (top 91)))) (nd tE (n1 (fT "worths_of" "worths_of" (top 54)) (fT "offers" "Hall.offers" (fU 81 6))) (n1 alE (fT "_law_less" "_law_less" (top 101)))))) (nd fE (nd q83 (nd tE (n1 tE ajj) (n1 (tN 724 ["room"]) akU)) (nd ajY (n1 alb tE) (n1 tE tE))) (nd aki (nd tE (n1 (fT "with_rights" "with_rights" (top 45)) alx) (n1 tE tE)) (nd (fT "row_plus" "row_plus" (top 34)) (n1 fE ahz) (n1 anj fE))))) (nd q27 (nd (q43 P) (nd fE (nd (tN 359 ["top","bottom","common"]) (n1 ajE amj) (n1 fE (fT "_law_names" "_law_names" (top 87)))) (nd (cO "greatest" "greatest" 430 75 1 3 198 436) (n1 (fT "single_rows" "single_rows" (top 49)) ajF) (n1 al6 ajO))) (nd amL (nd ajJ (n1 fE tE) (n1 (anf P) tE)) (nd akV (n1 akn amX) (n1 agE akJ)))) (nd q59 (nd fE (nd (fT "plus" "plus" (top 17)) (n1 (fT "begin_row" "begin_row" (top 40)) aiI) (n1 tE ajU)) (nd tE (n1 fE fE) (n1 (ajV P) fE))) (nd (tN 333 ["thing"]) (nd fE (n1 tE (fT "__init__" "Hall.__init__" (fU 81 0))) (n1 (fT "ways" "Door.ways" (fU 71 1)) (fT "_law_look" "_law_look" (top 95)))) (nd aiM (n1 akQ tE) (lf akH))))))) (nd (boot_o_5 P) (nd (boot_o_9 P) (nd (tN 190 ["k"]) (nd q33 (nd q65 (nd fE (n1 (fT "number_at" "number_at" (top 36)) (aiO P)) (n1 fE akF)) (nd (tN 425 ["fractions","leveled"]) (n1 air tE) (n1 tE tE))) (nd (tN 298 ["room"]) (nd tE (n1 tE (fT "numbers_of" "numbers_of" (top 78))) (n1 (fT "check_pairs" "check_pairs" (top 69)) tE)) (nd fE (n1 tE tE) (n1 (amC P) (tN 1171 ["_law_one","_law_other"]))))) (nd (q49 P) (nd q81 (nd fE (n1 fE tE) (n1 tE tE)) (nd (fT "fits" "fits" (top 27)) (n1 tE (cO "place" "Hall.place" 971 348 2 3 588 976)) (n1 amR agx))) (nd (fT "__init__" "NoPlan.__init__" (fU 8 0)) (nd (cO "over" "over" 398 62 2 3 172 403) (n1 tE ahy) (n1 fE fE)) (nd tE (n1 ahe (fT "_law_cell" "_law_cell" (top 83))) (n1 amD agG))))) (nd tE (nd q41 (nd (q73 P) (nd tE (n1 tE anB) (n1 agA tE)) (nd tE (n1 tE (fT "names" "Hall.names" (fU 81 2))) (n1 ais (fT "_law_size" "_law_size" (top 97))))) (nd tE (nd (fT "times" "times" (top 19)) (n1 ajm aiv) (n1 tE ain)) (nd (fT "lowest" "lowest" (top 32)) (n1 tE ai8) (n1 tE tE)))) (nd q57 (nd q89 (nd (tN 377 ["one","other"]) (n1 ah6 tE) (n1 fE (fT "_law_pay" "_law_pay" (top 89)))) (nd aj7 (n1 akT ak9) (n1 ajM ahH))) (nd tE (nd ajz (n1 agY tE) (n1 (tN 771 ["self"]) alc)) (nd tE (n1 tE aky) (lf tE)))))) (nd o13 (nd q21 (nd (q37 P) (nd q69 (nd (cO "divisor" "divisor" 337 28 2 3 128 345) (n1 fE ai9) (n1 tE tE)) (nd ahf (n1 tE tE) (n1 (tN 783 ["leads","name","pay"]) tE))) (nd amk (nd tE (n1 tE fE) (n1 fE aie)) (nd ak4 (n1 ait akk) (n1 aln ahN)))) (nd q53 (nd (q85 P) (nd (cO "is_ratio" "is_ratio" 365 48 1 3 144 371) (n1 (cO "go_on" "go_on" 528 132 3 3 272 534) alK) (n1 amG tE)) (nd fE (n1 tE (tN 982 ["self","room"])) (n1 (tN 809 ["self","name","pay","room"]) (tN 1157 ["_law_script","_law_xs"])))) (nd (ak0 P) (nd (tN 409 ["one","other"]) (n1 ajy tE) (n1 ahB aj4)) (nd agV (n1 tE fE) (n1 tE tE))))) (nd tE (nd q45 (nd q77 (nd (fT "ratio" "ratio" (top 15)) (n1 (fT "first_from" "first_from" (top 38)) fE) (n1 tE aj5)) (nd tE (n1 ahS fE) (n1 anu fE))) (nd tE (nd fE (n1 tE ajb) (n1 alS (fT "_law_hall" "_law_hall" (top 93)))) (nd fE (n1 tE tE) (n1 (tN 843 ["leads"]) tE)))) (nd (q61 P) (nd tE (nd aiD (n1 aiX tE) (n1 ahd fE)) (nd (fT "behind_door" "behind_door" (top 29)) (n1 tE tE) (n1 amw ahZ))) (nd (fT "is_whole" "is_whole" (top 10)) (nd (cP "level" "level" 416 67 1 3 186 419) (n1 (tN 591 ["end","begins","wide","row"]) ajH) (n1 agX akx)) (nd tE (n1 (fT "wait_of" "wait_of" (top 60)) aiu) (lf (fT "__init__" "Toss.__init__" (fU 74 0)))))))))) (nd (boot_o_2 P) (nd (boot_o_4 P) (nd (boot_o_8 P) (nd fE (nd q32 (nd q64 (nd tE (n1 tE tE) (n1 tE ajP)) (nd fE (n1 (cO "odd_row" "odd_row" 588 171 3 3 315 595) (tN 960 ["self"])) (n1 (tN 778 ["self","room"]) (tN 1130 ["_law_one","_law_other"])))) (nd q96 (nd (tN 385 ["one","other"]) (n1 ajC tE) (n1 fE ale)) (nd tE (n1 akX agZ) (n1 aly fE)))) (nd q48 (nd q80 (nd tE (n1 tE ahm) (n1 ajn aiz)) (nd tE (n1 ajk (fT "place" "Hall.place" (fU 81 3))) (n1 al2 (fT "_law_corridor" "_law_corridor" (top 98))))) (nd tE (nd (fT "over" "over" (top 20)) (n1 akd aht) (n1 tE tE)) (nd ahV (n1 (cP "mended" "mended" 665 211 3 3 365 668) tE) (n1 amH ajS))))) (nd (q24 P) (nd q40 (nd q72 (nd aiJ (n1 aip tE) (n1 (cP "is_word" "is_word" 705 244 1 3 389 708) ajL)) (nd (tN 433 ["fractions","found","one"]) (n1 agB tE) (n1 akb tE))) (nd (alp P) (nd tE (n1 (cP "reduced" "reduced" 561 146 2 3 293 564) (fT "numbered_ways" "numbered_ways" (top 79))) (n1 agI (fT "_law_built" "_law_built" (top 92)))) (nd fE (n1 (tN 659 ["seen","door","most"]) aiT) (n1 (tN 836 ["self","name","pay","pairs"]) akS)))) (nd q56 (nd q88 (nd fE (n1 fE (tN 903 ["share"])) (n1 tE tE)) (nd (fT "check_plan" "check_plan" (top 28)) (n1 ahh akj) (n1 ak3 akc))) (nd amP (nd (cO "under" "under" 406 64 2 3 179 411) (n1 (fT "begins_of" "begins_of" (top 46)) amJ) (n1 fE fE)) (nd (tN 498 ["leveled","step","row"]) (n1 ahG (fT "_law_stream" "_law_stream" (top 84))) (n1 anm ak2)))))) (nd ajK (nd (cO "_wall" "_wall" 187 1 1 3 15 191) (nd q36 (nd q68 (nd (fT "divisor" "divisor" (top 11)) (n1 tE amZ) (n1 agU aiN)) (nd (cO "total" "total" 422 72 1 3 191 427) (n1 akr aiW) (n1 aiL ahj))) (nd alX (nd ahW (n1 akl tE) (n1 tE ajA)) (nd (fT "raised_look" "raised_look" (top 30)) (n1 ajo ahP) (n1 anF ag5)))) (nd q52 (nd q84 (nd (fT "is_ratio" "is_ratio" (top 16)) (n1 (fT "go_on" "go_on" (top 39)) al0) (n1 tE akg)) (nd tE (n1 akK fE) (n1 fE fE))) (nd (tN 323 ["room"]) (nd fE (n1 ahp (al3 P)) (n1 (fT "__init__" "Door.__init__" (fU 71 0)) (fT "_law_chosen" "_law_chosen" (top 94)))) (nd ajQ (n1 (tN 674 ["hall","plan","told","coming"]) tE) (n1 (amS P) aiq))))) (nd q28 (nd q44 (nd q76 (nd tE (n1 tE tE) (n1 (tN 716 ["name","pay"]) agH)) (nd agQ (n1 aiV tE) (n1 aiE tE))) (nd alq (nd tE (n1 (tN 572 ["rows"]) fE) (n1 tE fE)) (nd tE (n1 aj8 alw) (n1 ahb ahr)))) (nd q60 (nd (tN 293 ["self","room"]) (nd (cO "plus" "plus" 374 56 2 3 151 379) (n1 ahF aix) (n1 (fT "check_chance" "check_chance" (top 68)) tE)) (nd fE (n1 ala (tN 990 ["self","room","name"])) (n1 ahl (fT "_law_start" "_law_start" (top 100))))) (nd tE (nd (fT "level" "level" (top 23)) (n1 fE aha) (n1 (cO "ways" "Door.ways" 768 279 1 3 439 772) ahL)) (nd ajR (n1 tE fE) (lf tE))))))) (nd (boot_o_6 P) (nd (boot_o_10 P) (nd tE (nd q34 (nd tE (nd aio (n1 akB akv) (n1 (fT "most_mendings" "most_mendings" (top 61)) tE)) (nd tE (n1 tE (fT "size" "Hall.size" (fU 81 1))) (n1 (fT "chance_to" "Door.chance_to" (fU 71 2)) (fT "_law_below" "_law_below" (top 96))))) (nd (q98 P) (nd (fT "minus" "minus" (top 18)) (n1 (fT "clear_column" "clear_column" (top 41)) akt) (n1 ah3 fE)) (nd aic (n1 fE fE) (n1 tE tE)))) (nd tE (nd q82 (nd (tN 368 ["thing","top","bottom"]) (n1 (tN 531 ["leveled","steps","step"]) (ahO P)) (n1 fE (fT "_law_share" "_law_share" (top 88)))) (nd (cO "fits" "fits" 441 82 2 3 205 446) (n1 (fT "only_answer" "only_answer" (top 50)) agK) (n1 alP ajh))) (nd ajI (nd ahv (n1 fE tE) (n1 (tN 762 ["self","name","pay"]) ajN)) (nd fE (n1 tE ajD) (n1 akE tE))))) (nd fE (nd tE (nd tE (nd fE (n1 fE amn) (n1 tE fE)) (nd (fT "greatest" "greatest" (top 25)) (n1 fE (cO "names" "Hall.names" 964 345 1 3 581 968)) (n1 ane ahc))) (nd am6 (nd (cO "times" "times" 390 60 2 3 165 395) (n1 tE aiR) (n1 am2 aiy)) (nd (cP "lowest" "lowest" 477 100 2 3 231 480) (n1 (fT "better_door" "better_door" (top 56)) akM) (n1 (fT "__init__" "Mixed.__init__" (fU 73 0)) (fT "_law_top" "_law_top" (top 102)))))) (nd q58 (nd tE (nd tE (n1 tE (fT "check_share" "check_share" (top 77))) (n1 (tN 731 ["chance"]) aif)) (nd aju (n1 tE tE) (n1 (tN 816 ["leads"]) tE))) (nd fE (nd tE (n1 agS fE) (n1 tE tE)) (nd (fT "take_step" "take_step" (top 35)) (n1 fE ajd) (lf fE)))))) (nd o14 (nd q22 (nd tE (nd q70 (nd ag7 (n1 (fT "fractions_of" "fractions_of" (top 37)) amM) (n1 fE (fT "_law_ratio" "_law_ratio" (top 86)))) (nd tE (n1 (fT "answer_of" "answer_of" (top 48)) fE) (n1 (ahE P) fE))) (nd aiC (nd fE (n1 fE ahY) (n1 (fT "joined_ways" "joined_ways" (top 70)) tE)) (nd ajT (n1 tE (tN 1002 ["numbers","offered","share"])) (n1 tE tE)))) (nd tE (nd tE (nd akC (n1 ajW tE) (n1 aiF fE)) (nd (tN 452 ["hall","plan","room","thing"]) (n1 fE tE) (n1 tE tE))) (nd agL (nd tE (n1 tE amg) (n1 ai6 akG)) (nd tE (n1 (fT "mendings" "mendings" (top 58)) alg) (n1 alF (fT "_law_lacks" "_law_lacks" (top 104))))))) (nd (q30 P) (nd q46 (nd tE (nd (cO "ratio" "ratio" 356 39 2 3 137 362) (n1 ak1 (fT "__init__" "Even.__init__" (fU 75 0))) (n1 (fT "check_head" "check_head" (top 66)) tE)) (nd fE (n1 tE (tN 974 ["self","name"])) (n1 (amU P) aiZ))) (nd fE (nd (tN 401 ["one","other"]) (n1 (fT "width_of" "width_of" (top 44)) tE) (n1 am7 ahX)) (nd (fT "row_times" "row_times" (top 33)) (n1 fE fE) (n1 (ahT P) fE)))) (nd tE (nd (fT "__init__" "NoRoom.__init__" (fU 7 0)) (nd tE (n1 tE fE) (n1 ah0 (fT "_law_door" "_law_door" (top 90)))) (nd ah9 (n1 (fT "left_rows" "left_rows" (top 53)) (fT "door_at" "Hall.door_at" (fU 81 5))) (n1 amT ajs))) (nd (cO "is_whole" "is_whole" 330 26 1 3 121 334) (nd akY (n1 tE tE) (n1 tE tE)) (nd fE (n1 (cO "wait_of" "wait_of" 683 228 1 3 377 692) tE) (lf ajf))))))))
def S1(w:World)(os:OsState):SharedT:=⟨tr1 w.params,761,{},⟨[]⟩,{},1204,os⟩
noncomputable def e1:Pos:=⟨507,0,514,21⟩
def KH:Params->Frag:=λP=>(
 (nat_lit 2,boot_o_2 P)::(nat_lit 3,wD (dE P "__name__" 165 (.str "law_chancehall_k31_whole_mendings_end" 1013)::dE P "__doc__" 166 .none::dE P "__package__" 167 .none::dE P "__loader__" 168 (.builtin "__main__.__loader__#opaque")::dE P "__spec__" 169 .none::dR P "__annotations__" 170 6::dR P "__builtins__" 171 4::dE P "__file__" 173 (.str "/claim/cut.py" 172)::dE P "__cached__" 174 .none::dR P "_wall" 193 21::dR P "HallError" 213 31::dR P "NoNumber" 229 44::dR P "NoName" 245 56::dR P "NoChance" 261 68::dR P "NoShare" 277 80::dR P "NoRoom" 302 99::dR P "NoPlan" 327 118::dR P "is_whole" 336 127::dR P "divisor" 347 134::dR P "NOUGHT" 352 135::dR P "ONE" 355 136::dR P "ratio" 364 143::dR P "is_ratio" 373 150::dR P "plus" 381 157::dR P "minus" 389 164::dR P "times" 397 171::dR P "over" 405 178::dR P "under" 413 185::dR P "level" 421 190::dR P "total" 429 197::dR P "greatest" 438 204::dR P "fits" 448 211::dR P "check_plan" 458 218::dR P "behind_door" 464 223::dR P "raised_look" 474 230::dR P "lowest" 482 235::dR P "row_times" 488 240::dR P "row_plus" 494 245::dR P "take_step" 503 252::dR P "number_at" 511 259::dR P "fractions_of" 517 264::dR P "first_from" 527 271::dR P "go_on" 536 278::dR P "begin_row" 548 285::dR P "clear_column" 560 292::dR P "reduced" 566 297::dR P "width_of" 575 304::dR P "with_rights" 581 309::dR P "begins_of" 587 314::dR P "odd_row" 597 321::dR P "answer_of" 609 328::dR P "single_rows" 615 333::dR P "only_answer" 626 340::dR P "chosen_doors" 634 345::dR P "left_rows" 647 352::dR P "worths_of" 653 357::dR P "better_door" 664 364::dR P "mended" 670 369::dR P "mendings" 680 376::dR P "wait_of" 694 383::dR P "most_mendings" 700 388::dE P "LONGEST_WORD" 704 (.int 8 703)::dR P "is_word" 710 393::dR P "check_head" 720 400::dR P "check_room_name" 727 407::dR P "check_chance" 734 414::dR P "check_pairs" 740 419::dR P "joined_ways" 746 424::dR P "Door" 793 455::dR P "Sure" 820 476::dR P "Mixed" 847 495::dR P "Toss" 875 514::dR P "Even" 897 531::dR P "check_share" 906 540::dR P "numbers_of" 916 547::dR P "numbered_ways" 927 554::dR P "offers_of" 938 561::dR P "Hall" 1012 616::dR P "_law_cell" 1022 627::dR P "_law_stream" 1034 634::dR P "_law_gcd" 1044 641::dR P "_law_ratio" 1053 648::dR P "_law_names" 1059 653::dR P "_law_share" 1068 660::dR P "_law_pay" 1077 667::dR P "_law_door" 1083 672::dR P "_law_doors" 1089 677::dR P "_law_built" 1095 682::dR P "_law_hall" 1101 687::dR P "_law_chosen" 1112 694::dR P "_law_look" 1126 701::dR P "_law_below" 1134 708::dR P "_law_size" 1142 715::dR P "_law_corridor" 1153 722::dR P "_law_rooms" 1161 729::dR P "_law_start" 1167 734::dR P "_law_less" 1175 741::dR P "_law_top" 1184 748::dR P "_law_far" 1190 753::dR P "_law_lacks" 1203 760::dR P "_law_gone" 1219 767::dR P "law" 1236 774::[]) 102)::(nat_lit 15,tE)::(nat_lit 17,tN 190 ["k"])::(nat_lit 18,tE)::(nat_lit 20,cO "_wall" "_wall" 187 1 1 3 15 191)::(nat_lit 21,q21)::(nat_lit 22,q22)::(nat_lit 29,tE)::(nat_lit 30,q30 P)::(nat_lit 31,q31)::(nat_lit 32,q32)::(nat_lit 35,q35)::(nat_lit 42,tE)::(nat_lit 43,q43 P)::(nat_lit 44,q44)::(nat_lit 47,q47)::(nat_lit 54,tE)::(nat_lit 55,q55 P)::(nat_lit 56,q56)::(nat_lit 59,q59)::(nat_lit 66,tE)::(nat_lit 67,q67 P)::(nat_lit 68,q68)::(nat_lit 71,q71)::(nat_lit 78,tE)::(nat_lit 79,q79 P)::(nat_lit 80,q80)::(nat_lit 83,q83)::(nat_lit 90,tE)::(nat_lit 92,tN 293 ["self","room"])::(nat_lit 93,tE)::(nat_lit 95,q95)::(nat_lit 96,q96)::(nat_lit 97,tN 298 ["room"])::(nat_lit 98,q98 P)::(nat_lit 99,q99)::(nat_lit 102,aiC)::(nat_lit 109,tE)::(nat_lit 111,tN 318 ["self","room"])::(nat_lit 112,tE)::(nat_lit 114,ajI)::(nat_lit 115,aki)::(nat_lit 116,tN 323 ["room"])::(nat_lit 117,ak0 P)::(nat_lit 118,agL)::(nat_lit 121,tE)::(nat_lit 123,tN 333 ["thing"])::(nat_lit 124,tE)::(nat_lit 126,cO "is_whole" "is_whole" 330 26 1 3 121 334)::(nat_lit 127,ajl)::(nat_lit 128,tE)::(nat_lit 130,aio)::(nat_lit 131,tE)::(nat_lit 133,cO "divisor" "divisor" 337 28 2 3 128 345)::(nat_lit 134,ag7)::(nat_lit 135,akq)::(nat_lit 136,aiJ)::(nat_lit 137,tE)::(nat_lit 139,tN 359 ["top","bottom","common"])::(nat_lit 140,tE)::(nat_lit 142,cO "ratio" "ratio" 356 39 2 3 137 362)::(nat_lit 143,agO)::(nat_lit 144,tE)::(nat_lit 146,tN 368 ["thing","top","bottom"])::(nat_lit 147,tE)::(nat_lit 149,cO "is_ratio" "is_ratio" 365 48 1 3 144 371)::(nat_lit 150,akC)::(nat_lit 151,tE)::(nat_lit 153,tN 377 ["one","other"])::(nat_lit 154,tE)::(nat_lit 156,cO "plus" "plus" 374 56 2 3 151 379)::(nat_lit 157,aiD)::(nat_lit 158,tE)::(nat_lit 160,tN 385 ["one","other"])::(nat_lit 161,tE)::(nat_lit 163,cO "minus" "minus" 382 58 2 3 158 387)::(nat_lit 164,ahW)::(nat_lit 165,tE)::(nat_lit 167,tN 393 ["one","other"])::(nat_lit 168,tE)::(nat_lit 170,cO "times" "times" 390 60 2 3 165 395)::(nat_lit 171,ajJ)::(nat_lit 172,tE)::(nat_lit 174,tN 401 ["one","other"])::(nat_lit 175,tE)::(nat_lit 177,cO "over" "over" 398 62 2 3 172 403)::(nat_lit 178,ahv)::(nat_lit 179,tE)::(nat_lit 181,tN 409 ["one","other"])::(nat_lit 182,tE)::(nat_lit 184,cO "under" "under" 406 64 2 3 179 411)::(nat_lit 185,ajz)::(nat_lit 186,tE)::(nat_lit 189,cP "level" "level" 416 67 1 3 186 419)::(nat_lit 190,akY)::(nat_lit 191,tE)::(nat_lit 193,tN 425 ["fractions","leveled"])::(nat_lit 194,tE)::(nat_lit 196,cO "total" "total" 422 72 1 3 191 427)::(nat_lit 197,ahf)::(nat_lit 198,tE)::(nat_lit 200,tN 433 ["fractions","found","one"])::(nat_lit 201,tE)::(nat_lit 203,cO "greatest" "greatest" 430 75 1 3 198 436)::(nat_lit 204,agQ)::(nat_lit 205,tE)::(nat_lit 207,tN 444 ["thing","many"])::(nat_lit 208,tE)::(nat_lit 210,cO "fits" "fits" 441 82 2 3 205 446)::(nat_lit 211,ajY)::(nat_lit 212,tE)::(nat_lit 214,tN 452 ["hall","plan","room","thing"])::(nat_lit 215,tE)::(nat_lit 217,aj7)::(nat_lit 218,aju)::(nat_lit 219,tE)::(nat_lit 222,ah9)::(nat_lit 223,ag9)::(nat_lit 224,tE)::(nat_lit 226,aic)::(nat_lit 227,tE)::(nat_lit 229,ak4)::(nat_lit 230,ajT)::(nat_lit 231,tE)::(nat_lit 234,cP "lowest" "lowest" 477 100 2 3 231 480)::(nat_lit 235,akV)::(nat_lit 236,tE)::(nat_lit 239,ag2)::(nat_lit 240,ahV)::(nat_lit 241,tE)::(nat_lit 244,ajQ)::(nat_lit 245,agV)::(nat_lit 246,tE)::(nat_lit 248,tN 498 ["leveled","step","row"])::(nat_lit 249,tE)::(nat_lit 251,aiM)::(nat_lit 252,ajR)::(nat_lit 253,tE)::(nat_lit 255,tN 507 ["row","column"])::(nat_lit 256,tE)::(nat_lit 258,akB)::(nat_lit 259,aia)::(nat_lit 260,tE)::(nat_lit 263,ai3)::(nat_lit 264,aip)::(nat_lit 265,tE)::(nat_lit 267,ajE)::(nat_lit 268,tE)::(nat_lit 270,ak1)::(nat_lit 271,ah2)::(nat_lit 272,tE)::(nat_lit 274,tN 531 ["leveled","steps","step"])::(nat_lit 275,tE)::(nat_lit 277,cO "go_on" "go_on" 528 132 3 3 272 534)::(nat_lit 278,ajW)::(nat_lit 279,tE)::(nat_lit 281,ah6)::(nat_lit 282,tE)::(nat_lit 284,ahF)::(nat_lit 285,aiX)::(nat_lit 286,tE)::(nat_lit 288,ajC)::(nat_lit 289,tE)::(nat_lit 291,ag1)::(nat_lit 292,akl)::(nat_lit 293,tE)::(nat_lit 296,cP "reduced" "reduced" 561 146 2 3 293 564)::(nat_lit 297,ajm)::(nat_lit 298,tE)::(nat_lit 300,tN 572 ["rows"])::(nat_lit 301,tE)::(nat_lit 303,ai2)::(nat_lit 304,akd)::(nat_lit 305,tE)::(nat_lit 308,ahp)::(nat_lit 309,ajy)::(nat_lit 310,tE)::(nat_lit 313,agY)::(nat_lit 314,agS)::(nat_lit 315,tE)::(nat_lit 317,tN 591 ["end","begins","wide","row"])::(nat_lit 318,tE)::(nat_lit 320,cO "odd_row" "odd_row" 588 171 3 3 315 595)::(nat_lit 321,air)::(nat_lit 322,tE)::(nat_lit 324,akr)::(nat_lit 325,tE)::(nat_lit 327,ajg)::(nat_lit 328,agB)::(nat_lit 329,tE)::(nat_lit 332,aiV)::(nat_lit 333,ahS)::(nat_lit 334,tE)::(nat_lit 336,ajk)::(nat_lit 337,tE)::(nat_lit 339,alb)::(nat_lit 340,akK)::(nat_lit 341,tE)::(nat_lit 344,ahh)::(nat_lit 345,akT)::(nat_lit 346,tE)::(nat_lit 348,ala)::(nat_lit 349,tE)::(nat_lit 351,ajt)::(nat_lit 352,akX)::(nat_lit 353,tE)::(nat_lit 356,ajo)::(nat_lit 357,ait)::(nat_lit 358,tE)::(nat_lit 360,tN 659 ["seen","door","most"])::(nat_lit 361,tE)::(nat_lit 363,akn)::(nat_lit 364,aj8)::(nat_lit 365,tE)::(nat_lit 368,cP "mended" "mended" 665 211 3 3 365 668)::(nat_lit 369,ahe)::(nat_lit 370,tE)::(nat_lit 372,tN 674 ["hall","plan","told","coming"])::(nat_lit 373,tE)::(nat_lit 375,agW)::(nat_lit 376,ahG)::(nat_lit 377,tE)::(nat_lit 379,akQ)::(nat_lit 380,tE)::(nat_lit 382,cO "wait_of" "wait_of" 683 228 1 3 377 692)::(nat_lit 383,ajx)::(nat_lit 384,tE)::(nat_lit 387,aiG)::(nat_lit 388,agU)::(nat_lit 389,tE)::(nat_lit 392,cP "is_word" "is_word" 705 244 1 3 389 708)::(nat_lit 393,agA)::(nat_lit 394,tE)::(nat_lit 396,tN 716 ["name","pay"])::(nat_lit 397,tE)::(nat_lit 399,aji)::(nat_lit 400,ajn)::(nat_lit 401,tE)::(nat_lit 403,tN 724 ["room"])::(nat_lit 404,tE)::(nat_lit 406,aiF)::(nat_lit 407,akN)::(nat_lit 408,tE)::(nat_lit 410,tN 731 ["chance"])::(nat_lit 411,tE)::(nat_lit 413,ahd)::(nat_lit 414,ah0)::(nat_lit 415,tE)::(nat_lit 418,ah3)::(nat_lit 419,ahI)::(nat_lit 420,tE)::(nat_lit 423,aj1)::(nat_lit 424,agI)::(nat_lit 432,tE)::(nat_lit 434,tN 762 ["self","name","pay"])::(nat_lit 435,tE)::(nat_lit 437,ahB)::(nat_lit 438,ai6)::(nat_lit 439,tE)::(nat_lit 441,tN 771 ["self"])::(nat_lit 442,tE)::(nat_lit 444,cO "ways" "Door.ways" 768 279 1 3 439 772)::(nat_lit 445,agX)::(nat_lit 446,tE)::(nat_lit 448,tN 778 ["self","room"])::(nat_lit 449,tE)::(nat_lit 451,agT)::(nat_lit 452,aiL)::(nat_lit 453,tN 783 ["leads","name","pay"])::(nat_lit 454,ahE P)::(nat_lit 455,ajZ)::(nat_lit 456,akb)::(nat_lit 457,ais)::(nat_lit 460,aiE)::(nat_lit 467,tE)::(nat_lit 469,tN 809 ["self","name","pay","room"])::(nat_lit 470,tE)::(nat_lit 472,ak3)::(nat_lit 473,ajM)::(nat_lit 474,tN 816 ["leads"])::(nat_lit 475,ajV P)::(nat_lit 476,ahl)::(nat_lit 479,ako)::(nat_lit 486,tE)::(nat_lit 488,tN 836 ["self","name","pay","pairs"])::(nat_lit 489,tE)::(nat_lit 491,agE)::(nat_lit 492,ahb)::(nat_lit 493,tN 843 ["leads"])::(nat_lit 494,ahT P)::(nat_lit 495,agN)::(nat_lit 498,akE)::(nat_lit 505,tE)::(nat_lit 507,akH)::(nat_lit 508,tE)::(nat_lit 510,ajf)::(nat_lit 511,aiB)::(nat_lit 512,tE)::(nat_lit 513,aiO P)::(nat_lit 514,akv)::(nat_lit 517,ai9)::(nat_lit 524,tE)::(nat_lit 527,aks)::(nat_lit 528,ahm)::(nat_lit 529,tE)::(nat_lit 530,ahO P)::(nat_lit 531,ajj)::(nat_lit 534,tE)::(nat_lit 536,tN 903 ["share"])::(nat_lit 537,tE)::(nat_lit 539,aiI)::(nat_lit 540,aix)::(nat_lit 541,tE)::(nat_lit 543,tN 910 ["rooms","numbers","room","name"])::(nat_lit 544,tE)::(nat_lit 546,akt)::(nat_lit 547,agP)::(nat_lit 548,tE)::(nat_lit 550,ahY)::(nat_lit 551,tE)::(nat_lit 553,aiv)::(nat_lit 554,aiR)::(nat_lit 555,tE)::(nat_lit 557,ajb)::(nat_lit 558,tE)::(nat_lit 560,aht)::(nat_lit 561,ahy)::(nat_lit 569,tE)::(nat_lit 572,aha)::(nat_lit 573,ajH)::(nat_lit 574,tE)::(nat_lit 576,tN 960 ["self"])::(nat_lit 577,tE)::(nat_lit 579,cO "size" "Hall.size" 957 342 1 3 574 961)::(nat_lit 580,aiW)::(nat_lit 581,tE)::(nat_lit 583,tN 967 ["self"])::(nat_lit 584,tE)::(nat_lit 586,cO "names" "Hall.names" 964 345 1 3 581 968)::(nat_lit 587,ajF)::(nat_lit 588,tE)::(nat_lit 590,tN 974 ["self","name"])::(nat_lit 591,tE)::(nat_lit 593,cO "place" "Hall.place" 971 348 2 3 588 976)::(nat_lit 594,agK)::(nat_lit 595,tE)::(nat_lit 597,tN 982 ["self","room"])::(nat_lit 598,tE)::(nat_lit 600,akj)::(nat_lit 601,ak9)::(nat_lit 602,tE)::(nat_lit 604,tN 990 ["self","room","name"])::(nat_lit 605,tE)::(nat_lit 607,ahA)::(nat_lit 608,agZ)::(nat_lit 609,tE)::(nat_lit 612,ahP)::(nat_lit 613,akk)::(nat_lit 614,tN 1002 ["numbers","offered","share"])::(nat_lit 615,akZ P)::(nat_lit 616,aiT)::(nat_lit 617,ai8)::(nat_lit 618,akM)::(nat_lit 621,tE)::(nat_lit 623,tN 1018 ["_law_script","_law_k"])::(nat_lit 624,tE)::(nat_lit 626,ajD)::(nat_lit 627,ahz)::(nat_lit 628,tE)::(nat_lit 630,alg)::(nat_lit 631,tE)::(nat_lit 633,aky)::(nat_lit 634,ajd)::(nat_lit 635,tE)::(nat_lit 637,aiu)::(nat_lit 638,tE)::(nat_lit 640,ajP)::(nat_lit 641,akF)::(nat_lit 642,tE)::(nat_lit 644,aiN)::(nat_lit 645,tE)::(nat_lit 647,ak8)::(nat_lit 648,ajL)::(nat_lit 649,tE)::(nat_lit 652,agH)::(nat_lit 653,aj5)::(nat_lit 654,tE)::(nat_lit 656,aiz)::(nat_lit 657,tE)::(nat_lit 659,akU)::(nat_lit 660,akg)::(nat_lit 661,tE)::(nat_lit 663,ak6)::(nat_lit 664,tE)::(nat_lit 666,aif)::(nat_lit 667,ajU)::(nat_lit 668,tE)::(nat_lit 671,ahQ)::(nat_lit 672,ale)::(nat_lit 673,tE)::(nat_lit 676,ajA)::(nat_lit 677,aie)::(nat_lit 678,tE)::(nat_lit 681,ain)::(nat_lit 682,aiy)::(nat_lit 683,tE)::(nat_lit 686,ahX)::(nat_lit 687,ahn)::(nat_lit 688,tE)::(nat_lit 690,ajN)::(nat_lit 691,tE)::(nat_lit 693,aj4)::(nat_lit 694,akG)::(nat_lit 695,tE)::(nat_lit 697,alc)::(nat_lit 698,tE)::(nat_lit 700,ahL)::(nat_lit 701,akx)::(nat_lit 702,tE)::(nat_lit 704,tN 1130 ["_law_one","_law_other"])::(nat_lit 705,tE)::(nat_lit 707,ahu)::(nat_lit 708,ahj)::(nat_lit 709,tE)::(nat_lit 711,tN 1138 ["_law_cell_here","_law_xs"])::(nat_lit 712,tE)::(nat_lit 714,ahc)::(nat_lit 715,ajO)::(nat_lit 716,tE)::(nat_lit 718,aiZ)::(nat_lit 719,tE)::(nat_lit 721,agx)::(nat_lit 722,ajh)::(nat_lit 723,tE)::(nat_lit 725,tN 1157 ["_law_script","_law_xs"])::(nat_lit 726,tE)::(nat_lit 728,akc)::(nat_lit 729,ahH)::(nat_lit 730,tE)::(nat_lit 733,ahZ)::(nat_lit 734,ajs)::(nat_lit 735,tE)::(nat_lit 737,tN 1171 ["_law_one","_law_other"])::(nat_lit 738,tE)::(nat_lit 740,ag5)::(nat_lit 741,ahN)::(nat_lit 742,tE)::(nat_lit 744,akS)::(nat_lit 745,tE)::(nat_lit 747,akJ)::(nat_lit 748,ahr)::(nat_lit 749,tE)::(nat_lit 752,ajS)::(nat_lit 753,agG)::(nat_lit 754,tE)::(nat_lit 756,aiq)::(nat_lit 757,tE)::(nat_lit 759,agD)::(nat_lit 760,ak2)::(nat_lit 761,tE)::(nat_lit 763,tN 1207 ["_law_share_here","_law_rooms_here","_law_found","_law_at","_law_wait","_law_some","_law_best","_law_room","_law_plan","_law_worths"])::(nat_lit 764,tE)::(nat_lit 766,cO "_law_gone" "_law_gone" 1204 515 5 3 761 1217)::(nat_lit 767,fO "_law_gone" "_law_gone" (top 105) (.str "law_chancehall_k31_whole_mendings_end" 1013) 766)::(nat_lit 768,tE)::(nat_lit 770,tN 1223 ["_law_script","_law_share_here","_law_rooms_here","_law_hall_here","_law_plan","_law_found","_law_wait","_law_last","_law_k","_law_far_here","_law_due"])::(nat_lit 771,tE)::(nat_lit 773,cO "law" "law" 1220 524 1 3 768 1234)::(nat_lit 774,fO "law" "law" (top 106) (.str "law_chancehall_k31_whole_mendings_end" 1013) 773)::([] : List (Nat×Obj)))
noncomputable abbrev asH:List Nat:=[2,3,15,17,18,20,21,22,29,30,31,32,35,42,43,44,47,54,55,56,59,66,67,68,71,78,79,80,83,90,92,93,95,96,97,98,99,102,109,111,112,114,115,116,117,118,121,123,124,126,127,128,130,131,133,134,135,136,137,139,140,142,143,144,146,147,149,150,151,153,154,156,157,158,160,161,163,164,165,167,168,170,171,172,174,175,177,178,179,181,182,184,185,186,189,190,191,193,194,196,197,198,200,201,203,204,205,207,208,210,211,212,214,215,217,218,219,222,223,224,226,227,229,230,231,234,235,236,239,240,241,244,245,246,248,249,251,252,253,255,256,258,259,260,263,264,265,267,268,270,271,272,274,275,277,278,279,281,282,284,285,286,288,289,291,292,293,296,297,298,300,301,303,304,305,308,309,310,313,314,315,317,318,320,321,322,324,325,327,328,329,332,333,334,336,337,339,340,341,344,345,346,348,349,351,352,353,356,357,358,360,361,363,364,365,368,369,370,372,373,375,376,377,379,380,382,383,384,387,388,389,392,393,394,396,397,399,400,401,403,404,406,407,408,410,411,413,414,415,418,419,420,423,424,432,434,435,437,438,439,441,442,444,445,446,448,449,451,452,453,454,455,456,457,460,467,469,470,472,473,474,475,476,479,486,488,489,491,492,493,494,495,498,505,507,508,510,511,512,513,514,517,524,527,528,529,530,531,534,536,537,539,540,541,543,544,546,547,548,550,551,553,554,555,557,558,560,561,569,572,573,574,576,577,579,580,581,583,584,586,587,588,590,591,593,594,595,597,598,600,601,602,604,605,607,608,609,612,613,614,615,616,617,618,621,623,624,626,627,628,630,631,633,634,635,637,638,640,641,642,644,645,647,648,649,652,653,654,656,657,659,660,661,663,664,666,667,668,671,672,673,676,677,678,681,682,683,686,687,688,690,691,693,694,695,697,698,700,701,702,704,705,707,708,709,711,712,714,715,716,718,719,721,722,723,725,726,728,729,730,733,734,735,737,738,740,741,742,744,745,747,748,749,752,753,754,756,757,759,760,761,763,764,766,767,768,770,771,773,774]
end
def qv:Program:=view p [0,2,3,4,5,6,7,8,10,11,13,14,15,16,17,18,19,20,21,23,24,25,27,28,29,30,32,33,34,35,36,37,38,39,40,41,42,44,45,46,47,48,49,50,52,53,54,56,57,58,60,61,63,64,66,67,68,69,70,71,72,73,74,75,77,78,79,80,81,83,84,85,86,87,88,89,90,91,92,93,94,95,96,97,98,99,100,101,102,103,104,105,106]
noncomputable abbrev R:RowW:=PySem.Challenge.rw_chancehall_k31_whole_mendings_end.row.toRowW
def Xt(s:Shared):Bool:=xlAt qv [] s&&recOk R.records s
noncomputable def e:Pos:=⟨524,0,542,15⟩
set_option maxHeartbeats 0
theorem lko:looksOpen PySem.Challenge.rw_chancehall_k31_whole_mendings_end.row.prog=true:=by kernel_rfl
theorem wsd:PySem.Challenge.rw_chancehall_k31_whole_mendings_end.wellSaid=true:=by
 unfold OpenLaw.wellSaid OpenRow.wellSaid OpenRow.partSaid;rw[lko]
 kernel_rfl
theorem asK:∀P,asH=(KH P).map (·.1):=λ_=>by kernel_rfl
theorem pre(w:World):(λos=>topGo treeTable p w 11 ann 12 (S0 w os) (topStub p))=λos=>some (Sa w os,⟨denote treeTable (cE p),cE p,z,B⟩):=by
 rw[Fast.te15667345088766844465,Fast.te14364793385576792824,Fast.te11892475500146522536];kernel_rfl
theorem block(w:World):(λos=>segRun treeTable p w 11 ann 1 1 (Sa w os) (blockOf (behindTheImports p) (env p) (cE p) z B))=λos=>some (.next,(Sb w os).abs,cE p,z):=by
 rw[Fast.te14374325043358763698,Fast.te14364793385576792824];kernel_rfl
theorem aiS(w:World):(λos=>segRunT treeTable p w 11 ann 1 30000 (Sb w os) (piecesOf ((behindTheImports p).take 105) (env p) (cE p) z B))=λos=>some (.next,S1 w os,cE p,e1):=by
 rw[Fast.te10110043849684766642,Fast.te14364793385576792824];kernel_rfl
theorem comb{R S A B C X Y Z:Type _}{o:Option R}{f:R->A}{g:R->B}{k:R->C}{h:R->Option S}{f1:S->X}{f2:S->Y}{f3:S->Z}{a:A}{b:B}{c:C}{x:X}{y:Y}{z:Z}(h1:(o.map λr=>(f r,g r,k r,(h r).map f1))=some (a,b,c,some x))(h2:(o.map λr=>(f r,g r,k r,(h r).map f2))=some (a,b,c,some y))(h3:(o.map λr=>(f r,g r,k r,(h r).map f3))=some (a,b,c,some z)):(o.map λr=>(f r,g r,k r,(h r).map λs=>(f1 s,f2 s,f3 s)))=some (a,b,c,some (x,y,z)):=by
 cases o with
 |none=>cases h1
 |some r =>
  simp only[Option.map_some,Option.some.injEq,Prod.mk.injEq]at h1 h2 h3 ⊢;obtain⟨a1,a2,a3,a4⟩:=h1;obtain⟨_,_,_,b4⟩:=h2;obtain⟨_,_,_,c4⟩:=h3;cases hr:h r with
  |none=>rw[hr]at a4;cases a4
  |some s =>
   rw[hr]at a4 b4 c4;refine⟨a1,a2,a3,?_⟩;simp only[Option.map_some,Option.some.injEq]at a4 b4 c4 ⊢;rw[a4,b4,c4]
theorem amq{R S A B C X Y:Type _}{o:Option R}{f:R->A}{g:R->B}{k:R->C}{h:R->Option S}{f1:S->X}{f2:S->Y}{a:A}{b:B}{c:C}{x:X}{y:Y}(h1:(o.map λr=>(f r,g r,k r,(h r).map f1))=some (a,b,c,some x))(h2:(o.map λr=>(f r,g r,k r,(h r).map f2))=some (a,b,c,some y)):(o.map λr=>(f r,g r,k r,(h r).map λs=>(f1 s,f2 s)))=some (a,b,c,some (x,y)):=by
 cases o with
 |none=>cases h1
 |some r =>
  simp only[Option.map_some,Option.some.injEq,Prod.mk.injEq]at h1 h2 ⊢;obtain⟨a1,a2,a3,a4⟩:=h1;obtain⟨_,_,_,b4⟩:=h2;cases hr:h r with
  |none=>rw[hr]at a4;cases a4
  |some s =>
   rw[hr]at a4 b4;refine⟨a1,a2,a3,?_⟩;simp only[Option.map_some,Option.some.injEq]at a4 b4 ⊢;rw[a4,b4]
theorem sn0(w:World):(λos=>(segRunT treeTable p w 11 ann 1 50000 (S1 w os) (piecesOf ((behindTheImports p).drop 105) (env p) (cE p) e1 B)).map λr=>(r.1,r.2.2.1,r.2.2.2,(topRun treeTable p w 11 ann 2 r.2.1.abs ⟨doneF .next,cE p,e,B⟩).map λs=>(openSeen qv [] (importedModules p.main.body) Xt true s).1))=λ_=>some (.next,cE p,e,some ((openGood qv []).1)):=by
 rw[Fast.te10110043849684766642,Fast.te14364793385576792824,Fast.te14082659384304107361,Fast.te4187177175401517315,Fast.te5923862056798008813];kernel_rfl
theorem sn1(w:World):(λos=>(segRunT treeTable p w 11 ann 1 50000 (S1 w os) (piecesOf ((behindTheImports p).drop 105) (env p) (cE p) e1 B)).map λr=>(r.1,r.2.2.1,r.2.2.2,(topRun treeTable p w 11 ann 2 r.2.1.abs ⟨doneF .next,cE p,e,B⟩).map λs=>(openSeen qv [] (importedModules p.main.body) Xt true s).2))=λ_=>some (.next,cE p,e,some ((openGood qv []).2)):=by
 rw[Fast.te10110043849684766642,Fast.te14364793385576792824,Fast.te14082659384304107361];kernel_rfl
theorem amO(w:World):(λos=>(segRunT treeTable p w 11 ann 1 50000 (S1 w os) (piecesOf ((behindTheImports p).drop 105) (env p) (cE p) e1 B)).map λr=>(r.1,r.2.2.1,r.2.2.2,(topRun treeTable p w 11 ann 2 r.2.1.abs ⟨doneF .next,cE p,e,B⟩).map λs=>openSeen qv [] (importedModules p.main.body) Xt true s))=λ_=>some (.next,cE p,e,some (openGood qv [])):=funext λos=>amq (congrFun (sn0 w) os) (congrFun (sn1 w) os)
theorem al1(w:World):(λos=>(segRunT treeTable p w 11 ann 1 50000 (S1 w os) (piecesOf ((behindTheImports p).drop 105) (env p) (cE p) e1 B)).map λr=>(r.1,r.2.2.1,r.2.2.2,(topRun treeTable p w 11 ann 2 r.2.1.abs ⟨doneF .next,cE p,e,B⟩).map λs=>staticsOk (importedModules p.main.body) (boot_heap w.params) s.heap&&namesBound p s.heap&&gensDone s&&laidKept (boot_heap w.params) s.heap))=λ_=>some (.next,cE p,e,some (true)):=by
 rw[Fast.te10110043849684766642,Fast.te14364793385576792824,Fast.te14082659384304107361];kernel_rfl
theorem alR(w:World):(λos=>(segRunT treeTable p w 11 ann 1 50000 (S1 w os) (piecesOf ((behindTheImports p).drop 105) (env p) (cE p) e1 B)).map λr=>(r.1,r.2.2.1,r.2.2.2,(topRun treeTable p w 11 ann 2 r.2.1.abs ⟨doneF .next,cE p,e,B⟩).map λs=>asH.map s.heap.get?))=λ_=>some (.next,cE p,e,some ((KH w.params).map λp=>some p.2)):=by
 rw[Fast.te10110043849684766642,Fast.te14364793385576792824,Fast.te14082659384304107361];kernel_rfl
theorem big(w:World):(λos=>(segRunT treeTable p w 11 ann 1 50000 (S1 w os) (piecesOf ((behindTheImports p).drop 105) (env p) (cE p) e1 B)).map λr=>(r.1,r.2.2.1,r.2.2.2,(topRun treeTable p w 11 ann 2 r.2.1.abs ⟨doneF .next,cE p,e,B⟩).map λs=>(staticsOk (importedModules p.main.body) (boot_heap w.params) s.heap&&namesBound p s.heap&&gensDone s&&laidKept (boot_heap w.params) s.heap,openSeen qv [] (importedModules p.main.body) Xt true s,asH.map s.heap.get?)))=λ_=>some (.next,cE p,e,some (true,openGood qv [],(KH w.params).map λp=>some p.2)):=funext λos=>comb (congrFun (al1 w) os) (congrFun (amO w) os) (congrFun (alR w) os)
theorem left:LeftO p qv [] Xt (λs=>asH.map s.heap.get?) (λw=>(KH w.params).map λp=>some p.2) 200000 :=
 Ww (boot_open rfl rfl λ_=>rfl) pre block (λw os=>nQ.cutAt (congrFun (aiS w) os) (nQ.last (congrFun (big w) os))) rfl
theorem hX(s:Shared)(h:Xt s=true):XL qv [] (s.heap.nsMap mainGlobals) s.heap:=xl_of s (Bool.and_eq_true_iff.mp h).1
theorem hR(s:Shared)(h:Xt s=true):RecFacts R.records s.heap:=recFacts_of (Bool.and_eq_true_iff.mp h).2
end
end H31
noncomputable section
namespace L2
open PySem PySem.Spec PyProof.Rows
noncomputable abbrev Key:=Sum Int Str
noncomputable def BL:Key->Value->Bool
 |.inl k,v=>Value.isInt k v
 |.inr x,v=>Value.isStrOf x v
noncomputable def anv(w:World):Key->Int
 |.inl k=>hashInt k
 |.inr x=>hashStr w x
theorem fP:∀{k:Key}{v:Value},BL k v=true->(∃i t,k=Sum.inl i/\v=Value.int i t)\/(∃x t,k=Sum.inr x/\v=Value.str x t)
 |.inl i,v,h=>by
  obtain⟨t,e⟩:=Value.isInt_shape (k:=i) (v:=v) h;exact .inl ⟨i,t,rfl,e⟩
 |.inr x,v,h=>by
  obtain⟨t,e⟩:=Value.isStrOf_shape (x:=x) (v:=v) h;exact .inr ⟨x,t,rfl,e⟩
theorem XQ(i:Int)(t:Tok):BL (.inl i) (.int i t)=true:=by simp[BL,Value.isInt]
theorem W6(x:Str)(t:Tok):BL (.inr x) (.str x t)=true:=by simp[BL,Value.isStrOf]
theorem ae4(a b:Int):decide ((Sum.inl a:Key)=Sum.inl b)=(a==b):=by
 by_cases e:a=b
 .subst e;simp
 .have h:¬(Sum.inl a:Key)=Sum.inl b:=λq=>e (Sum.inl.inj q);rw[Zp h];exact(beq_eq_false_iff_ne.mpr e).symm
theorem aeL(a b:Str):decide ((Sum.inr a:Key)=Sum.inr b)=decide (a=b):=by
 by_cases e:a=b
 .subst e;simp
 .have h:¬(Sum.inr a:Key)=Sum.inr b:=λq=>e (Sum.inr.inj q);rw[Zp h,Zp e]
theorem af7(a:Int)(b:Str):decide ((Sum.inl a:Key)=Sum.inr b)=false:=Zp (λq=>nomatch q)
theorem agp(a:Str)(b:Int):decide ((Sum.inr a:Key)=Sum.inl b)=false:=Zp (λq=>nomatch q)
def iV(prog:Program)(w:World):PySem.KeyKind prog w Key where
 is:=BL
 hash:=anv w
 inj:=λv a b ha hb=>by
  rcases fP ha with⟨i,t,rfl,rfl⟩|⟨x,t,rfl,rfl⟩
  .rcases fP hb with⟨j,u,rfl,e⟩|⟨y,u,rfl,e⟩
   .injection e with e1 _;rw[e1]
   .exact nomatch e
  .rcases fP hb with⟨j,u,rfl,e⟩|⟨y,u,rfl,e⟩
   .exact nomatch e
   .injection e with e1 _;rw[e1]
 byValue:=λk v h=>by
  rcases fP h with⟨i,t,rfl,rfl⟩|⟨x,t,rfl,rfl⟩<;>rfl
 pyHash:=λhv h=>by
  rcases fP hv with⟨i,t,rfl,rfl⟩|⟨x,t,rfl,rfl⟩
  .exact wpAny_pyHash_int h
  .exact wpAny_pyHash_str h
 eqBool:=λhu hv h=>by
  rcases fP hu with⟨i,t,rfl,rfl⟩|⟨x,t,rfl,rfl⟩
  .rcases fP hv with⟨j,u,rfl,rfl⟩|⟨y,u,rfl,rfl⟩
   .rw[ae4]at h;exact wpAny_eqBool_int h
   .rw[af7]at h;exact SeqAt.EqAt.int_str i t y u _ _ _ _ h
  .rcases fP hv with⟨j,u,rfl,rfl⟩|⟨y,u,rfl,rfl⟩
   .rw[agp]at h;exact SeqAt.EqAt.str_int x t j u _ _ _ _ h
   .rw[aeL]at h;exact wpAny_eqBool_str h
 «strs»:=λk x t v h=>by
  rcases fP h with⟨i,u,rfl,e⟩|⟨y,u,rfl,e⟩
  .exact nomatch e
  .injection e with e1 _;subst e1;cases v<;>rfl
theorem Q7(prog:Program)(w:World)(i:Int)(t:Tok):(iV prog w).is (.inl i) (.int i t)=true:=XQ i t
theorem Ql(prog:Program)(w:World)(x:Str)(t:Tok):(iV prog w).is (.inr x) (.str x t)=true:=W6 x t
inductive V where
 |non|bl (b:Bool)|int (i:Int)|str (x:Str)|byt (b:Array UInt8)|flt (b:UInt64)|ref (a:Addr)|ty (n:String)
 deriving DecidableEq
noncomputable abbrev Ζ:=List V
def RelV:V->Value->Prop
 |.non,u=>u=Value.none
 |.bl b,u=>u=Value.bool b
 |.int i,u=>∃t,u=Value.int i t
 |.str x,u=>∃t,u=Value.str x t
 |.byt b,u=>∃t,u=Value.bytes b t
 |.flt b,u=>∃t,u=Value.float b t
 |.ref a,u=>u=Value.ref a
 |.ty n,u=>u=Value.type n
abbrev Vals:Ζ->Θ->Prop:=Paired RelV
theorem Vals.length{xs:Ζ}{us:Θ}(r:Vals xs us):xs.length=us.length:=Paired.length r
theorem Vals.get:∀{xs:Ζ}{us:Θ}{i:Nat}{x:V},Vals xs us->xs[i]?=some x->∃u,us[i]?=some u/\RelV x u
 |_,_,_,_,.nil,e=>by simp at e
 |_,_,0,_,.cons r _,e=>by simp at e;subst e;exact⟨_,rfl,r⟩
 |_,_,i+1,x,.cons _ t,e=>by
  obtain⟨u,h1,h2⟩:=Vals.get (i:=i) (x:=x) t (by simpa using e);exact⟨u,by simpa using h1,h2⟩
theorem Vals.set{x:V}{u:Value}(r:RelV x u):∀{xs:Ζ}{us:Θ}(i:Nat),Vals xs us->Vals (xs.set i x) (us.set i u)
 |_,_,_,.nil=>.nil
 |_,_,0,.cons _ t=>.cons r t
 |_,_,i+1,.cons q t=>.cons q (Vals.set r i t)
theorem Vals.append:∀{xs ys:Ζ}{us ws:Θ},Vals xs us->Vals ys ws->Vals (xs++ys) (us++ws)
 |_,_,_,_,.nil,s=>s
 |_,_,_,_,.cons r t,s=>.cons r (Vals.append t s)
theorem Vals.take:∀{xs:Ζ}{us:Θ}(n:Nat),Vals xs us->Vals (xs.take n) (us.take n)
 |_,_,0,_=>.nil
 |_,_,_+1,.nil=>.nil
 |_,_,n+1,.cons r t=>.cons r (Vals.take n t)
theorem Vals.drop:∀{xs:Ζ}{us:Θ}(n:Nat),Vals xs us->Vals (xs.drop n) (us.drop n)
 |_,_,0,r=>r
 |_,_,_+1,.nil=>.nil
 |_,_,n+1,.cons _ t=>Vals.drop n t
def yD:Option V->Ω->Prop
 |some v,some u=>RelV v u
 |none,none=>True
 |_,_=>False
def KV{κ:Type} : List (κ×V)->List (κ×Value)->Prop:=Paired λ(p:κ×V)(q:κ×Value)=>p.1=q.1/\RelV p.2 q.2
noncomputable def kV:Key->V
 |.inl i=>.int i
 |.inr x=>.str x
inductive HO where
  |lst (xs:Ζ)
  |tup (xs:Ζ)
  |dK (kvs:List (Key×V))
  |set (S:Int->Bool) (n:Nat)
  |ins (C dx:Addr) (fs:List (Str×V))
  |own (x:Addr)
  |xd (fs:List (Str×V))
  |met (f x:Addr)
  |rng (lo hi:Int)
  |frz (o:Obj) (u:HO)
  |tbl (ps:Array Value)
  |ext (φ:Heap->Prop)
noncomputable abbrev Hp:=Addr->Option HO
noncomputable def upd(H:Hp)(a:Addr)(o:HO):Hp:=λb=>if b=a then some o else H b
theorem cM{H:Hp}{a:Addr}{o:HO} : upd H a o a=some o:=by unfold upd;rw[ZY rfl]
theorem cF{H:Hp}{a b:Addr}{o:HO}(h:b≠a):upd H a o b=H b:=by unfold upd;rw[ZZ h]
theorem ajr{H:Hp}{a b:Addr}{o u:HO}(h:H a=some o)(h':H b=some u)(d:o≠u):a≠b:=by
 intro e;subst e;rw[h]at h';exact d (Option.some.inj h')
theorem lZ{H:Hp}{a b:Addr}{o:HO}(h:H a=some o)(h':H b=none):a≠b:=by
 intro e;subst e;rw[h]at h';cases h'
section
variable(P:Program)(w:World)
def fZ(H:Hp)(h:Heap)(a:Addr):HO->Prop
 |.lst xs=>xs.length<=sizeLine/\∃(its:Θ)(n:Nat),Vals xs its/\h.get? a=some { cls:=.type "list",data:=.seq its.toArray n }
 |.tup xs=>xs.length<=sizeLine/\∃its:Θ,Vals xs its/\IsTup h a its.toArray
 |.dK kvs=>kvs.length<=sizeLine/\(a==sysModules)=false/\∃vs,KV kvs vs/\h.DictOf (iV P w) a vs
 |.set S n=>h.SetOf (intKind P w) a S n
 |.ins C dx fs=>H dx=some (.own a)/\fs.length<=1000/\dx≠a/\h.get? a=some (instObj C dx) /\
   ∃mA,h.Ns1 dx mA/\(∀f,yD (fs.lookup f) (mA f))/\PySem.Within mA (fs.map (·.1))
 |.own _=>∃o,h.get? a=some o
 |.xd fs=>∃mA,h.Ns1 a mA/\∀f,yD (fs.lookup f) (mA f)
 |.rng lo hi=>∃t u v,h.get? a=some { cls:=.type "range",data:=.fields #[.int lo t,.int hi u,.int 1 v] }
 |.frz o u=>h.get? a=some o/\fZ H h a u
 |.tbl ps=>h.get? a=some { cls:=.none,data:=.fields ps }
 |.met f x=>h.get? a=some (methodObj (.ref f) (.ref x))
 |.ext φ=>φ h/\(∃o,h.get? a=some o)/\∀h1 h2:Heap,φ h1->(∀o,h1.get? a=some o->h2.get? a=some o)->φ h2
def HOk(H:Hp)(h:Heap):Prop:=∀a o,H a=some o->fZ P w H h a o
end
section
variable{P:Program}{w:World}{H H':Hp}{h h':Heap}{a:Addr}{o:HO}
theorem fZ.lt(x:fZ P w H h a o):a<h.objs.size:=by
 cases o with
 |lst xs=>obtain⟨_,_,_,_,e⟩:=x;exact aK e
 |tup xs=>obtain⟨_,_,_,p⟩:=x;exact p.lt
 |dK kvs=>obtain⟨_,_,_,_,o,_,_,e,_⟩:=x;exact aK e
 |set S n=>obtain⟨o,_,_,_,e,_⟩:=x;exact aK e
 |ins C dx fs=>obtain⟨_,_,_,e,_⟩:=x;exact aK e
 |own y=>obtain⟨_,e⟩:=x;exact aK e
 |xd fs=>obtain⟨_,⟨_,_,_,e,_⟩,_⟩:=x;exact aK e
 |rng lo hi=>obtain⟨_,_,_,e⟩:=x;exact aK e
 |frz ob u=>obtain⟨e,_⟩:=x;exact aK e
 |tbl ps=>exact aK (show h.get? a=some _ from x)
 |met f y=>exact aK (show h.get? a=some _ from x)
 |ext φ=>obtain⟨_,⟨_,e⟩,_⟩:=x;exact aK e
theorem fZ.stay(x:fZ P w H h a o)(k:∀b u,(b=a\/H b=some (.own a))->h.get? b=some u->h'.get? b=some u)
 (ho:∀b,H b=some (.own a)->H' b=some (.own a))(ht:∀b xs,H b=some (.tup xs)->H' b=some (.tup xs)):fZ P w H' h' a o:=by
 induction o with
 |lst xs=>obtain⟨z,its,n,r,e⟩:=x;exact⟨z,its,n,r,k _ _ (.inl rfl) e⟩
 |tup xs=>obtain⟨z,its,r,ob,e,c⟩:=x;exact⟨z,its,r,ob,k _ _ (.inl rfl) e,c⟩
 |dK kvs=>obtain⟨z,y,vs,r,ob,es,ep,e,c⟩:=x;exact⟨z,y,vs,r,ob,es,ep,k _ _ (.inl rfl) e,c⟩
 |set S n=>obtain⟨ob,es,ep,t,e,c⟩:=x;exact⟨ob,es,ep,t,k _ _ (.inl rfl) e,c⟩
 |ins C dx fs =>
  obtain⟨d,z,ne,e,mA,⟨od,es,ep,e2,c⟩,r⟩:=x;exact⟨ho _ d,z,ne,k _ _ (.inl rfl) e,mA,⟨od,es,ep,k _ _ (.inr d) e2,c⟩,r⟩
 |own y=>obtain⟨ob,e⟩:=x;exact⟨ob,k _ _ (.inl rfl) e⟩
 |xd fs=>obtain⟨mA,⟨od,es,ep,e,c⟩,r⟩:=x;exact⟨mA,⟨od,es,ep,k _ _ (.inl rfl) e,c⟩,r⟩
 |rng lo hi=>obtain⟨t,u,v,e⟩:=x;exact⟨t,u,v,k _ _ (.inl rfl) e⟩
 |frz ob u ih=>obtain⟨e,q⟩:=x;exact⟨k _ _ (.inl rfl) e,ih q⟩
 |tbl ps =>
  have e:h.get? a=some { cls:=.none,data:=.fields ps }:=x;show h'.get? a=some { cls:=.none,data:=.fields ps };exact k a _ (.inl rfl) e
 |met f y =>
  have e:h.get? a=some (methodObj (.ref f) (.ref y)):=x;show h'.get? a=some (methodObj (.ref f) (.ref y));exact k a _ (.inl rfl) e
 |ext φ=>obtain⟨p,⟨o,e⟩,st⟩:=x;exact⟨st _ _ p λo q=>k _ _ (.inl rfl) q,⟨o,k _ _ (.inl rfl) e⟩,st⟩
theorem HOk.lt(x:HOk P w H h)(e:H a=some o):a<h.objs.size:=(x a o e).lt
theorem HOk.fresh(x:HOk P w H h)(e:h.objs.size<=a):H a=none:=by
 cases q:H a with
 |none=>rfl
 |some u=>exact absurd (aR (x.lt q) e) (X9 _)
theorem HOk.kept(x:HOk P w H h)(k:∀b u,h.get? b=some u->h'.get? b=some u):HOk P w H h':=λa o e =>
 (x a o e).stay (λb u _ q=>k b u q) (λ_ q=>q) λ_ _ q=>q
theorem HOk.laid(x:HOk P w H h)(k:∀b u,h.get? b=some u->h'.get? b=some u)(hp:h.objs.size<=a)(new:fZ P w (upd H a o) h' a o):HOk P w (upd H a o) h':=λb u e=>by
 have hn:=x.fresh hp;by_cases hb:b=a
 .subst hb;rw[cM]at e;cases e;exact new
 .rw[cF hb]at e;exact(x b u e).stay (λc v _ q=>k c v q) (λc q=>by rw[cF (lZ q hn)];exact q) λc xs q=>by rw[cF (lZ q hn)];exact q
end
def Rd(H:Hp)(a:Addr)(u:HO):Prop:=H a=some u\/∃o,H a=some (.frz o u)
theorem Rd.ok{P:Program}{w:World}{H:Hp}{h:Heap}{a:Addr}{u:HO}(r:Rd H a u)(x:HOk P w H h):fZ P w H h a u:=by
 rcases r with r|⟨o,r⟩
 .exact x a u r
 .obtain⟨_,q⟩:=x a _ r;exact q
def Mut:Option HO->Prop
 |some (.lst _)=>True
 |some (.dK _)=>True
 |some (.set _ _)=>True
 |some (.ins _ _ _)=>True
 |some (.ext _)=>True
 |_=>False
section
variable{P:Program}{w:World}{H:Hp}{h h':Heap}{x e:Addr}{o':HO}
theorem HOk.write(ok:HOk P w H h)(mu:Mut (H x))(he:e=x\/H e=some (.own x))(k:∀b u,b≠e->h.get? b=some u->h'.get? b=some u)(hZ:∃u,h'.get? e=some u)
 (new:fZ P w (upd H x o') h' x o'):HOk P w (upd H x o') h':=λb u q=>by
 have ib:∀c y,H c=some (.own y)->c≠x:=λc y r z=>by subst z;rw[r]at mu;exact mu
 have kB:∀c xs,H c=some (.tup xs)->c≠x:=λc xs r z=>by subst z;rw[r]at mu;exact mu
 by_cases hb:b=x
 .subst hb;rw[cM]at q;cases q;exact new
 .rw[cF hb]at q;by_cases hbe:b=e
  .have q':H b=some (.own x):=by
    rcases he with z|z
    .exact absurd (hbe.trans z) hb
    .rw[hbe];exact z
   rw[q]at q';cases q';obtain⟨v,hv⟩:=hZ;exact⟨v,by rw[hbe];exact hv⟩
  .refine(ok b u q).stay (λc v hc r=>k c v ?_ r) (λc r=>by rw[cF (ib c b r)];exact r) λc xs r=>by rw[cF (kB c xs r)];exact r
   rcases hc with rfl|hc
   .exact hbe
   .rintro rfl;rcases he with z|z
    .exact ib c b hc z
    .rw[hc]at z;cases z;exact hb rfl
end
structure Un(fs ex:Ψ)(H H':Hp)(h h':Heap):Prop where
 keep:∀b o,h.get? b=some o->H b=none->b∉fs->b∉ex->h'.get? b=some o
 slot:∀b o,h.get? b=some o->H b=none->b∈fs->b∉ex->∃sl,h'.get? b=some { o with slots:=sl }
 free:∀b o,h.get? b=some o->H b=none->b∉ex->H' b=none
 there:∀b o,h.get? b=some o->b∉ex->∃o',h'.get? b=some o'
 tups:∀b xs,H b=some (.tup xs)->H' b=some (.tup xs)
 frzs:∀b o u,H b=some (.frz o u)->H' b=some (.frz o u)
 tbls:∀b ps,H b=some (.tbl ps)->∃more,H' b=some (.tbl (ps++more))
section
variable{fs fs' ex ex':Ψ}{H H1 H2:Hp}{h h1 h2 h':Heap}{a x e:Addr}{o:HO}
theorem Un.any(u:Un fs ex H H1 h h1){b:Addr}{ob:Obj}(q:h.get? b=some ob)(n:H b=none)(hx:b∉ex):∃sl,h1.get? b=some { ob with slots:=sl }:=by
 by_cases hb:b∈fs
 .exact u.slot b ob q n hb hx
 .exact⟨ob.slots,u.keep b ob q n hb hx⟩
theorem Un.kept(k:∀b u,h.get? b=some u->h'.get? b=some u):Un fs ex H H h h' :=
 ⟨λb ob q _ _ _=>k b ob q,λb ob q _ _ _=>⟨ob.slots,k b ob q⟩,λ_ _ _ n _=>n,λb ob q _=>⟨ob,k b ob q⟩,λ_ _ q=>q,λ_ _ _ q=>q,λ_ ps q=>⟨#[],by rw[q];simp⟩⟩
theorem Un.refl:Un fs ex H H h h:=Un.kept λ_ _ q=>q
theorem Un.laid(k:∀b u,h.get? b=some u->h'.get? b=some u)(hp:h.objs.size<=a)(hn:H a=none):Un fs ex H (upd H a o) h h' where
 keep:=λb u q _ _ _=>k b u q
 slot:=λb u q _ _ _=>⟨u.slots,k b u q⟩
 free:=λb u q n _=>by rw[cF (aQ (aR (aK q) hp))];exact n
 there:=λb u q _=>⟨u,k b u q⟩
 tups:=λb xs q=>by rw[cF (lZ q hn)];exact q
 frzs:=λb u xs q=>by rw[cF (lZ q hn)];exact q
 tbls:=λb ps q=>⟨#[],by rw[cF (lZ q hn),q];simp⟩
theorem Un.write(mu:Mut (H x))(he:e=x\/H e=some (.own x))(k:∀b u,b≠e->h.get? b=some u->h'.get? b=some u)(hZ:∃u,h'.get? e=some u):Un fs ex H (upd H x o) h h':=by
 have hx:∀b,H b=none->b≠x:=λb n z=>by subst z;rw[n]at mu;exact mu
 have hb:∀b,H b=none->b≠e:=λb n z=>by
  subst z;rcases he with r|r
  .exact hx b n r
  .rw[n]at r;cases r
 have hm:∀b u,H b=some u->¬Mut (some u)->b≠x:=λb u q nm z=>by subst z;rw[q]at mu;exact nm mu
 refine⟨λb u q n _ _=>k b u (hb b n) q,λb u q n _ _=>⟨u.slots,k b u (hb b n) q⟩,λb u q n _=>by rw[cF (hx b n)];exact n,λb u q _=>?_,
  λb xs q=>by rw[cF (hm b _ q λz=>z)];exact q,λb u xs q=>by rw[cF (hm b _ q λz=>z)];exact q,λb ps q=>⟨#[],by rw[cF (hm b _ q λz=>z),q];simp⟩⟩
 by_cases hbe:b=e
 .subst hbe;exact hZ
 .exact⟨u,k b u hbe q⟩
end
noncomputable def trk(h:Heap)(H:Hp):Ψ:=(List.range h.objs.size).filter λa=>(H a).isSome
def Lp(h:Heap)(H:Hp):Heap:=PySem.W.hideAll h (trk h H)
theorem WX(h:Heap)(H:Hp):(Lp h H).objs.size=h.objs.size:=PySem.W.hideAll_size _ _
theorem Y9{h:Heap}{H:Hp}{b:Addr}{o:Obj}(e:h.get? b=some o)(n:H b=none):(Lp h H).get? b=some o :=
 PySem.W.hideAll_get _ e λhm=>by
  have q:(H b).isSome=true:=(List.mem_filter.mp hm).2;rw[n]at q;simp at q
theorem acp{h:Heap}{H:Hp}{b:Addr}{o:Obj}(e:(Lp h H).get? b=some o):h.get? b=some o/\H b=none:=by
 have e':h.get? b=some o:=PySem.W.of_hideAll (trk h H) e;refine⟨e',?_⟩;cases q:H b with
 |none=>rfl
 |some x =>
  have hm:b∈trk h H:=List.mem_filter.mpr ⟨List.mem_range.mpr (aK e'),by simp[q]⟩;have z:(Lp h H).get? b=none:=PySem.W.hideAll_none (trk h H) hm;rw[z]at e;cases e
noncomputable def ady(g h:Heap)(L:Addr):Δ:=(List.range h.objs.size).filterMap λa=>if a=L\/(g.get? a).isSome=true then none else(h.get? a).map λo=>(a,o)
def rest(g h:Heap)(L d:Addr):Δ:=(ady g h L).filter λp=>decide (p.1≠d)
structure Mod(K:Frag)(mg:Str->Ω)(base:Heap):Prop where
 kin:K.In base
 glob:base.Ns mainGlobals mg
 blt:∃mb,base.Ns builtinsNs mb/\∀x:Str,x≠"__name__"->mb x=bootBuiltins x
 nolimit:base.NoLimit
structure Cx where
 prog:Program
 w:World
 K:Frag
 mg:Str->Ω
 base:Heap
 A:Around
 N:Φ
 s₀:Shared
 H₀:Hp
 env:Env
 outer:List Env
 stack:List Env
 ex:Ψ
 fn:Str->Bool
 calm:Bool
 pn:Δ
 xe:Ε
noncomputable def frs(l:List Env):Ψ:=l.filterMap (·.frame)
abbrev Cx.fs(X:Cx):Ψ:=frs X.outer
def Vis(sc:Scope)(x:Str):Prop:=sc.names.lookup x=some .local\/sc.names.lookup x=some .cell\/sc.names.lookup x=some .free
def Loc(sc:Scope)(x:Str):Prop:=sc.names.lookup x=some .local\/sc.names.lookup x=some .cell
def Look(env:Env)(h:Heap)(m:Str->Ω)(x:Str)(u:Value):Prop :=
 (env.kindOf x=some .local/\m x=some u)\/((env.kindOf x=some .cell\/env.kindOf x=some .free)/\∃c,env.cells.lookup x=some c/\h.IsCell c (some u))
structure Cx.Ok(X:Cx):Prop where
 mod:Mod X.K X.mg X.base
 kind:X.env.scope.kind=.function
 glob:X.env.globals=mainGlobals
 blt:X.env.builtins=builtinsNs
 above:X.s₀.heap.objs.size<=X.env.locals
 inj:∀x y c,X.env.cells.lookup x=some c->X.env.cells.lookup y=some c->x=y
 has:∀x,(X.env.kindOf x=some .cell\/X.env.kindOf x=some .free)->∃c,X.env.cells.lookup x=some c
 cab:∀x c,X.fn x=true->X.env.cells.lookup x=some c->X.s₀.heap.objs.size<=c
 hd:X.calm=true->X.A.handled=none
 frames:X.A.frames=some X.stack
 stk:X.stack=X.outer\/(X.stack=X.env::X.outer/\X.env.frame=some X.env.locals)
 exf:∀b∈X.ex,b≠X.env.locals/\∀x c,X.env.cells.lookup x=some c->c≠b
 bs:∀b o,X.base.get? b=some o->X.s₀.heap.get? b=some o/\X.H₀ b=none
 bsz:X.base.objs.size<=X.s₀.heap.objs.size
 noex:∀b o,X.base.get? b=some o->b∉X.ex
 exfs:∀b∈X.ex,b∉X.fs
 funs:X.s₀.heap.FunFrames X.base X.outer
 frf:∀b∈X.fs,X.H₀ b=none
structure Inv(X:Cx)(aa:Δ)(σ:List (Option V))(H:Hp)(s:Shared):Prop where
 ok:X.Ok
 os:s.os=X.s₀.os
 bare:AllBare s.gens
 base:Un X.fs X.ex X.H₀ H X.s₀.heap s.heap
 loc:∃m,s.heap.Ns X.env.locals m/\∀(i:Nat)(x:Str)(v:V),X.N[i]?=some x->σ[i]?=some (some v)->Vis X.env.scope x->∃u,RelV v u/\Look X.env s.heap m x u
 cell:∀x c,X.env.cells.lookup x=some c->∃v,s.heap.IsCell c v
 free:H X.env.locals=none
 freeC:∀x c,X.env.cells.lookup x=some c->H c=none
 pin:∀p∈X.pn++aa,s.heap.get? p.1=some p.2/\H p.1=none/\p.1≠X.env.locals/\p.1∉X.fs/\∀v,p.2.data≠.cell v
 hok:HOk X.prog X.w H s.heap
 len:σ.length=X.N.length
section
variable{X:Cx}{aa:Δ}{σ:List (Option V)}{H H':Hp}{s:Shared}{h':Heap}
theorem Cx.Ok.nofr(ok:X.Ok){b:Addr}{o:Obj}(e:X.base.get? b=some o):b∉X.fs:=λhb=>by
 have:=(ok.funs.mem hb).1;rw[e]at this;cases this
theorem Inv.bs(I:Inv X aa σ H s):∀b o,X.base.get? b=some o->s.heap.get? b=some o/\H b=none:=λb o e =>
 ⟨I.base.keep b o (I.ok.bs b o e).1 (I.ok.bs b o e).2 (I.ok.nofr e) (I.ok.noex b o e),I.base.free b o (I.ok.bs b o e).1 (I.ok.bs b o e).2 (I.ok.noex b o e)⟩
theorem Inv.bk(I:Inv X aa σ H s):∀b o,X.base.get? b=some o->s.heap.get? b=some o:=λb o e=>(I.bs b o e).1
theorem Inv.mod(I:Inv X aa σ H s):Mod X.K X.mg X.base:=I.ok.mod
theorem Inv.kIn(I:Inv X aa σ H s):X.K.In s.heap:=I.ok.mod.kin.keeps I.bk
theorem Inv.lt(I:Inv X aa σ H s):X.env.locals<s.heap.objs.size:=by obtain⟨_,hn,_⟩:=I.loc;exact hn.lt
theorem Inv.sz(I:Inv X aa σ H s):X.s₀.heap.objs.size<=s.heap.objs.size:=aL I.ok.above (Y2 I.lt)
theorem Inv.nofs(I:Inv X aa σ H s){a:Addr}(h:s.heap.objs.size<=a):a∉X.fs:=λhb=>by
 obtain⟨_,o,ho,_⟩:=I.ok.funs.mem hb;exact absurd (aR (aK ho) (aL I.sz h)) (X9 _)
theorem Inv.cne(I:Inv X aa σ H s):∀x c,X.env.cells.lookup x=some c->c≠X.env.locals:=λx c e z=>by
 obtain⟨v,o,ho,hd⟩:=I.cell x c e;obtain⟨m,⟨o',es,ep,df,bu,_⟩,_⟩:=I.loc;rw[z,df]at ho;cases ho;rw[bu]at hd;cases hd
theorem Inv.funs(I:Inv X aa σ H s):s.heap.FunFrames X.base X.outer:=by
 have all:∀(l:List Env),(∀b∈frs l,b∈X.fs)->X.s₀.heap.FunFrames X.base l->s.heap.FunFrames X.base l:=by
  intro l
  induction l with
  |nil=>intro _ _;trivial
  |cons env r ih =>
   intro hs hl;obtain⟨hk,⟨L,o,hf,hn,ho,hd⟩,hr⟩:=hl;have hL:L∈X.fs:=hs L (by unfold frs;rw[List.filterMap_cons,hf];exact aO);obtain⟨sl,e⟩:=I.base.slot L o ho (I.ok.frf L hL) hL λz=>I.ok.exfs L z hL;exact⟨hk,⟨L,_,hf,hn,e,hd⟩,ih (λb hb=>hs b (by unfold frs;rw[List.filterMap_cons,hf];exact aJ _ hb)) hr⟩
 exact all X.outer (λ_ hb=>hb) I.ok.funs
theorem Inv.stack(I:Inv X aa σ H s):s.heap.FunFrames X.base X.stack:=by
 rcases I.ok.stk with e|⟨e,hf⟩
 .rw[e];exact I.funs
 .rw[e];obtain⟨m,hn,_⟩:=I.loc;refine .cons (by rw[I.ok.kind];decide) hf hn ?_ I.funs;exact Heap.get?_none_of_le (aL I.ok.bsz I.ok.above)
theorem Inv.stkSub(I:Inv X aa σ H s):∀b∈frs X.stack,b∈X.env.locals::X.fs:=λb hb=>by
 rcases I.ok.stk with e|⟨e,hf⟩
 .rw[e]at hb;exact aJ _ hb
 .rw[e]at hb;unfold frs at hb;rw[List.filterMap_cons,hf]at hb;exact hb
theorem Inv.stkFree(I:Inv X aa σ H s):∀b∈frs X.stack,H b=none:=λb hb=>by
 rcases YU.mp (I.stkSub b hb)with e|hb
 .rw[e];exact I.free
 .obtain⟨_,o,ho,_⟩:=I.ok.funs.mem hb;exact I.base.free b o ho (I.ok.frf b hb) λz=>I.ok.exfs b z hb
theorem Inv.step{g':Array GenState}{t':Nat}{d':Drawn}{ch:Ψ}(I:Inv X aa σ H s)
 (ff:∀b∈ch,(b∈X.ex\/X.s₀.heap.objs.size<=b)/\b≠X.env.locals/\(∀x c,X.env.cells.lookup x=some c->c≠b)/\∀p∈X.pn++aa,p.1≠b)
 (keep:∀b o,b≠X.env.locals->b∉X.fs->b∉ch->s.heap.get? b=some o->H b=none->h'.get? b=some o)
 (slot:∀b o,b≠X.env.locals->b∈X.fs->b∉ch->s.heap.get? b=some o->H b=none->∃sl,h'.get? b=some { o with slots:=sl })(free:∀b o,b∉ch->s.heap.get? b=some o->H b=none->H' b=none)
 (there:∀b o,b∉ch->s.heap.get? b=some o->∃o',h'.get? b=some o')
 (tups:∀b xs,H b=some (.tup xs)->H' b=some (.tup xs))(frzs:∀b o u,H b=some (.frz o u)->H' b=some (.frz o u))(tbls:∀b ps,H b=some (.tbl ps)->∃more,H' b=some (.tbl (ps++more)))
 (ns:∀m,s.heap.Ns X.env.locals m->h'.Ns X.env.locals m)(hok:HOk X.prog X.w H' h')(hg:AllBare g') :
  Inv X aa σ H' { s with heap:=h',gens:=g',drawn:=d',toks:=t' }:=by
 have neL:∀b o,X.s₀.heap.get? b=some o->b≠X.env.locals:=λb o e=>aQ (aR (aK e) I.ok.above);have js:∀b o,X.s₀.heap.get? b=some o->b∉X.ex->b∉ch:=λb o e hx hb=>by
  rcases(ff b hb).1 with z|z
  .exact hx z
  .exact absurd (aR (aK e) z) (X9 _)
 have gf:∀x c,X.env.cells.lookup x=some c->∀v,s.heap.IsCell c v->h'.IsCell c v:=λx c e v hP=>by
  obtain⟨o,ho,hd⟩:=hP;have ik:c∉ch:=λz=>(ff c z).2.2.1 x c e rfl;by_cases hc:c∈X.fs
  .obtain⟨sl,q⟩:=slot c o (I.cne x c e) hc ik ho (I.freeC x c e);exact⟨_,q,hd⟩
  .exact⟨o,keep c o (I.cne x c e) hc ik ho (I.freeC x c e),hd⟩
 refine⟨I.ok,I.os,hg,⟨λb o e n hb hx=>?_,λb o e n hb hx=>?_,λb o e n hx=>?_,λb o e hx=>?_,λb xs e=>tups b xs (I.base.tups b xs e),λb o xs e=>frzs b o xs (I.base.frzs b o xs e),λb ps e=>?_⟩,?_,λx c e=>?_,?_,λx c e=>?_,λp hp=>?_,hok,I.len⟩
 .exact keep b o (neL b o e) hb (js b o e hx) (I.base.keep b o e n hb hx) (I.base.free b o e n hx)
 .obtain⟨sl,e1⟩:=I.base.slot b o e n hb hx;obtain⟨sl',e2⟩:=slot b _ (neL b o e) hb (js b o e hx) e1 (I.base.free b o e n hx);exact⟨sl',e2⟩
 .obtain⟨o',e1⟩:=I.base.there b o e hx;exact free b o' (js b o e hx) e1 (I.base.free b o e n hx)
 .obtain⟨o',e1⟩:=I.base.there b o e hx;exact there b o' (js b o e hx) e1
 .obtain⟨m1,e1⟩:=I.base.tbls b ps e;obtain⟨m2,e2⟩:=tbls b _ e1;exact⟨m1++m2,by rw[e2,Array.append_assoc]⟩
 .obtain⟨m,hn,hl⟩:=I.loc;refine⟨m,ns m hn,λi x v e1 e2 e3=>?_⟩;obtain⟨u,r,l⟩:=hl i x v e1 e2 e3;refine⟨u,r,?_⟩;rcases l with l|⟨k,c,e,z⟩
  .exact .inl l
  .exact .inr ⟨k,c,e,gf x c e _ z⟩
 .obtain⟨v,z⟩:=I.cell x c e;exact⟨v,gf x c e v z⟩
 .obtain⟨m,⟨o,_,_,ho,_⟩,_⟩:=I.loc;exact free _ o (λz=>(ff _ z).2.1 rfl) ho I.free
 .obtain⟨v,o,ho,hd⟩:=I.cell x c e;exact free c o (λz=>(ff c z).2.2.1 x c e rfl) ho (I.freeC x c e)
 .obtain⟨e,n,ne,nf,d⟩:=I.pin p hp;have ik:p.1∉ch:=λz=>(ff p.1 z).2.2.2 p hp rfl;exact⟨keep p.1 p.2 ne nf ik e n,free p.1 p.2 ik e n,ne,nf,d⟩
theorem Inv.un{t':Nat}(I:Inv X aa σ H s)(u:Un X.fs [] H H' s.heap h')(hok:HOk X.prog X.w H' h'):Inv X aa σ H' { s with heap:=h',toks:=t' }:=by
 obtain⟨m,⟨o,es,ep,ho,r⟩,_⟩:=id I.loc;obtain⟨sl,hL⟩:=u.any ho I.free (by simp);exact I.step (g':=s.gens) (d':=s.drawn) (ch:=[]) (λ_ z=>nomatch z) (λb o _ hb _ e n=>u.keep b o e n hb (by simp)) (λb o _ hb _ e n=>u.slot b o e n hb (by simp)) (λb o _ e n=>u.free b o e n (by simp)) (λb o _ e=>u.there b o e (by simp)) u.tups u.frzs u.tbls (λm' hm=>by
  obtain⟨o',mi,mm,df,r'⟩:=hm;rw[ho]at df;cases df;exact⟨_,mi,mm,hL,r'⟩) hok I.bare
theorem Inv.call{g':Array GenState}{t':Nat}{d':Drawn}{ch:Ψ}(I:Inv X aa σ H s)(u:Un (frs X.stack) ch H H' s.heap h')(hok:HOk X.prog X.w H' h')(hg:AllBare g')
 (ff:∀b∈ch,(b∈X.ex\/X.s₀.heap.objs.size<=b)/\b≠X.env.locals/\(∀x c,X.env.cells.lookup x=some c->c≠b)/\∀p∈X.pn++aa,p.1≠b) :
  Inv X aa σ H' { s with heap:=h',gens:=g',drawn:=d',toks:=t' }:=by
 obtain⟨m,⟨o,es,ep,ho,r⟩,_⟩:=id I.loc;obtain⟨sl,hL⟩:=u.any ho I.free λz=>(ff _ z).2.1 rfl;exact I.step (ch:=ch) ff (λb o hL hb hc e n=>u.keep b o e n (λz=>(YU.mp (I.stkSub b z)).elim hL hb) hc) (λb o _ _ hc e n=>u.any e n hc) (λb o hc e n=>u.free b o e n hc) (λb o hc e=>u.there b o e hc) u.tups u.frzs u.tbls (λm' hm=>by
  obtain⟨o',mi,mm,df,r'⟩:=hm;rw[ho]at df;cases df;exact⟨_,mi,mm,hL,r'⟩) hok hg
theorem Inv.turned{t':Nat}{it:Addr}(I:Inv X aa σ H s)(k:∀b o,b≠it->s.heap.get? b=some o->h'.get? b=some o)(hn:H it=none)(hL:it≠X.env.locals)
 (h1:it∈X.ex\/X.s₀.heap.objs.size<=it)(h2:∀x c,X.env.cells.lookup x=some c->c≠it)(h3:∀p∈X.pn++aa,p.1≠it):Inv X aa σ H { s with heap:=h',toks:=t' }:=by
 have ii:∀b u,H b=some u->b≠it:=λb u e z=>by rw[z,hn]at e;cases e
 refine I.step (g':=s.gens) (d':=s.drawn) (ch:=[it]) (λb hb=>?_) (λb o _ _ hc e _=>k b o (λz=>hc (by simp[z])) e) (λb o _ _ hc e _=>⟨o.slots,k b o (λz=>hc (by simp[z])) e⟩) (λ_ _ _ _ n=>n)
  (λb o hc e=>⟨o,k b o (λz=>hc (by simp[z])) e⟩) (λ_ _ e=>e) (λ_ _ _ e=>e) (λb ps e=>⟨#[],by rw[e];simp⟩) (λm hm=>?_) (λb u e=>?_) I.bare
 .have e:b=it:=by simpa using hb
  subst e;exact⟨h1,hL,h2,h3⟩
 .obtain⟨o,es,ep,ho,r⟩:=hm;exact⟨o,es,ep,k _ o (Ne.symm hL) ho,r⟩
 .refine(I.hok b u e).stay (λc v hc q=>k c v ?_ q) (λ_ q=>q) λ_ _ q=>q;rcases hc with z|z
  .rw[z];exact ii b u e
  .exact ii c _ z
theorem Inv.tok(I:Inv X aa σ H s)(t:Nat):Inv X aa σ H { s with toks:=t }:=I.un (h':=s.heap) (t':=t) Un.refl I.hok
theorem Inv.kept{t':Nat}(I:Inv X aa σ H s)(k:∀b u,s.heap.get? b=some u->h'.get? b=some u):Inv X aa σ H { s with heap:=h',toks:=t' }:=I.un (Un.kept k) (I.hok.kept k)
theorem Inv.laid{a:Addr}{o:HO}{t':Nat}(I:Inv X aa σ H s)(k:∀b u,s.heap.get? b=some u->h'.get? b=some u)(hp:s.heap.objs.size<=a)(new:fZ X.prog X.w (upd H a o) h' a o) :
  Inv X aa σ (upd H a o) { s with heap:=h',toks:=t' }:=I.un (Un.laid k hp (I.hok.fresh hp)) (I.hok.laid k hp new)
theorem Inv.write{x e:Addr}{o:HO}{t':Nat}(I:Inv X aa σ H s)(mu:Mut (H x))(he:e=x\/H e=some (.own x))(k:∀b u,b≠e->s.heap.get? b=some u->h'.get? b=some u)(hZ:∃u,h'.get? e=some u)
 (new:fZ X.prog X.w (upd H x o) h' x o):Inv X aa σ (upd H x o) { s with heap:=h',toks:=t' }:=I.un (Un.write mu he k hZ) (I.hok.write mu he k hZ new)
theorem Inv.pins_of{fN:Δ}(I:Inv X aa σ H s)(h:∀p∈fN,s.heap.get? p.1=some p.2/\H p.1=none/\p.1≠X.env.locals/\p.1∉X.fs/\∀v,p.2.data≠.cell v):Inv X fN σ H s :=
 ⟨I.ok,I.os,I.bare,I.base,I.loc,I.cell,I.free,I.freeC,λp hp=>(Y1.mp hp).elim (λz=>I.pin p (UH _ z)) (h p),I.hok,I.len⟩
theorem Rj{N:Φ}(hN:N.Nodup){i j:Nat}{x:Str}(a:N[i]?=some x)(b:N[j]?=some x):i=j:=by
 obtain⟨h1,e1⟩:=ao.mp a;obtain⟨h2,e2⟩:=ao.mp b;exact(List.getElem_inj hN).mp (e1.trans e2.symm)
theorem Xy{M:Model}{A:Around}{E:Ε}{i:Nat}{x:Str}{v:V}{u:Value}{Q:Unit->Shared->Prop}(I:Inv X aa σ H s)(hN:X.N.Nodup)(hi:X.N[i]?=some x)(hx:Loc X.env.scope x)(r:RelV v u)
 (h:∀s',Inv X aa (σ.set i (some v)) H s'->(∃a,Heap.SameBut a s.heap s'.heap/\(a=X.env.locals\/X.env.cells.lookup x=some a))->Q () s')(hf:X.fn x=true\/X.env.scope.names.lookup x=some .local):wpAny M A (storeName X.env x u) Q E s:=by
 obtain⟨m,hn,hl⟩:=id I.loc;have lv:(X.env.scope.kind == .class || (X.env.scope.kind == .module&&X.env.locals != X.env.globals))=false:=by rw[I.ok.kind];rfl
 have hiσ:i<σ.length:=by rw[I.len];exact(ao.mp hi).1
 have cne:=I.cne;have dA:∀{a:Addr}{h':Heap},(∃o,s.heap.get? a=some o/\H a=none)->Heap.SameBut a s.heap h'->HOk X.prog X.w H h':=λ{a h'}ha hs b ob e=>by
  obtain⟨_,_,b9⟩:=ha;refine(I.hok b ob e).stay (λc w' hc q=>(hs.2 c ?_).trans q) (λ_ q=>q) λ_ _ q=>q;rintro rfl;rcases hc with rfl|hc
  .rw[b9]at e;cases e
  .rw[b9]at hc;cases hc
 rcases hx with hk|hk
 .refine wpAny_storeName_local hk hn (λh' hn' hs=>?_) lv;obtain⟨oL,_,_,hoL,_⟩:=id hn;refine h _ ⟨I.ok,I.os,I.bare,⟨λb o e n hb hx=>?_,λb o e n hb hx=>?_,I.base.free,λb o e hx=>?_,I.base.tups,I.base.frzs,I.base.tbls⟩,⟨_,hn',λj y v' e1 e2 e3=>?_⟩,λy c e=>?_,I.free,I.freeC,λp hp=>?_,dA ⟨oL,hoL,I.free⟩ hs,by simpa using I.len⟩ ⟨_,hs,.inl rfl⟩
  .exact(hs.2 b (aQ (aR (aK e) I.ok.above))).trans (I.base.keep b o e n hb hx)
  .obtain⟨sl,e1⟩:=I.base.slot b o e n hb hx;exact⟨sl,(hs.2 b (aQ (aR (aK e) I.ok.above))).trans e1⟩
  .obtain⟨o',e1⟩:=I.base.there b o e hx;exact⟨o',(hs.2 b (aQ (aR (aK e) I.ok.above))).trans e1⟩
  .by_cases hj:j=i
   .subst hj;rw[hi]at e1;cases e1;rw[Tu hiσ]at e2;cases e2;exact⟨u,r,.inl ⟨hk,by simp⟩⟩
   .rw[UP (Ne.symm hj)]at e2;obtain⟨u',r',q⟩:=hl j y v' e1 e2 e3;refine⟨u',r',?_⟩;rcases q with⟨k,e⟩|⟨k,c,e,z⟩
    .refine .inl ⟨k,?_⟩;have:y≠x:=λe=>hj (Rj hN e1 (e ▸ hi));simp[this,e]
    .exact .inr ⟨k,c,e,z.sameBut hs (cne y c e)⟩
  .obtain⟨w',z⟩:=I.cell y c e;exact⟨w',z.sameBut hs (cne y c e)⟩
  .obtain⟨e,n,ne,nf,d⟩:=I.pin p hp;exact⟨(hs.2 p.1 ne).trans e,n,ne,nf,d⟩
 .have iX:X.fn x=true:=by
   rcases hf with z|z
   .exact z
   .rw[z]at hk;cases hk
  obtain⟨c,hc⟩:=I.ok.has x (.inl hk);obtain⟨w',z⟩:=I.cell x c hc;refine wpAny_storeName_cell I.ok.kind hk hc z (λh' dk hs=>?_);obtain⟨oc,hoc,kR⟩:=id z;refine h { s with heap:=h' } ⟨I.ok,I.os,I.bare,⟨λb o e n hb hx=>?_,λb o e n hb hx=>?_,I.base.free,λb o e hx=>?_,I.base.tups,I.base.frzs,I.base.tbls⟩,⟨m,hn.sameBut hs (Ne.symm (cne x c hc)),λj y v' e1 e2 e3=>?_⟩,λy c' e=>?_,I.free,I.freeC,λp hp=>?_,dA ⟨oc,hoc,I.freeC x c hc⟩ hs,by simpa using I.len⟩ ⟨c,hs,.inr hc⟩
  .exact(hs.2 b (aQ (aR (aK e) (I.ok.cab x c iX hc)))).trans (I.base.keep b o e n hb hx)
  .obtain⟨sl,e1⟩:=I.base.slot b o e n hb hx;exact⟨sl,(hs.2 b (aQ (aR (aK e) (I.ok.cab x c iX hc)))).trans e1⟩
  .obtain⟨o',e1⟩:=I.base.there b o e hx;exact⟨o',(hs.2 b (aQ (aR (aK e) (I.ok.cab x c iX hc)))).trans e1⟩
  .by_cases hj:j=i
   .subst hj;rw[hi]at e1;cases e1;rw[Tu hiσ]at e2;cases e2;exact⟨u,r,.inr ⟨.inl hk,c,hc,dk⟩⟩
   .rw[UP (Ne.symm hj)]at e2;obtain⟨u',r',q⟩:=hl j y v' e1 e2 e3;refine⟨u',r',?_⟩;rcases q with q|⟨k,c',e,z'⟩
    .exact .inl q
    .refine .inr ⟨k,c',e,z'.sameBut hs ?_⟩;rintro rfl;exact hj (Rj hN e1 (I.ok.inj _ _ _ e hc ▸ hi))
  .by_cases ka:c'=c
   .subst ka;exact⟨_,dk⟩
   .obtain⟨w2,z2⟩:=I.cell y c' e;exact⟨w2,z2.sameBut hs ka⟩
  .obtain⟨e,n,ne,nf,d⟩:=I.pin p hp;refine⟨(hs.2 p.1 ?_).trans e,n,ne,nf,d⟩;intro q;rw[q,hoc]at e;have q':oc=p.2:=Option.some.inj e;exact d w' (by rw[<- q'];exact kR)
theorem wH{M:Model}{A:Around}{E:Ε}{i:Nat}{x:Str}{v:V}{u:Value}{Q:Unit->Shared->Prop}(I:Inv X aa σ H s)(hN:X.N.Nodup)(hi:X.N[i]?=some x)(hx:Loc X.env.scope x)(r:RelV v u)
 (h:∀s',Inv X aa (σ.set i (some v)) H s'->Q () s')(hf:X.fn x=true\/X.env.scope.names.lookup x=some .local:=by first|exact .inl rfl|exact .inr rfl|assumption):wpAny M A (storeName X.env x u) Q E s :=
 Xy I hN hi hx r (λs' I' _=>h s' I') hf
theorem Inv.call'{s':Shared}{ch:Ψ}(I:Inv X aa σ H s)(ho:s'.os=s.os)(u:Un (frs X.stack) ch H H' s.heap s'.heap)(hok:HOk X.prog X.w H' s'.heap)(hg:AllBare s'.gens)
 (ff:∀b∈ch,(b∈X.ex\/X.s₀.heap.objs.size<=b)/\b≠X.env.locals/\(∀x c,X.env.cells.lookup x=some c->c≠b)/\∀p∈X.pn++aa,p.1≠b):Inv X aa σ H' s':=by
 obtain⟨h',g',d',t',o'⟩:=s';have e:o'=s.os:=ho;subst e;exact I.call (g':=g') (t':=t') (d':=d') u hok hg ff
end
abbrev XK:=Value->Ξ->Hp->Prop
noncomputable abbrev St:=List (Option V)
abbrev VK:=V->Hp->Prop
abbrev TE:=St->Hp->VK->Prop
abbrev TT:=St->Hp->(Bool->Hp->Prop)->Prop
abbrev TA:=St->Hp->(Ζ->Hp->Prop)->Prop
structure Ends where
 nx:St->Hp->Prop
 rt:VK
 bk:St->Hp->Prop:=λ_ _=>False
 ct:St->Hp->Prop:=λ_ _=>False
abbrev TS:=Ends->St->Hp->Prop
def EP(X:Cx)(aa:Δ)(σ:St)(Q:VK)(u:Value)(s':Shared):Prop:=∃v H',Inv X aa σ H' s'/\RelV v u/\Q v H'
def TP(X:Cx)(aa:Δ)(σ:St)(Q:Bool->Hp->Prop)(b:Bool)(s':Shared):Prop:=∃H',Inv X aa σ H' s'/\Q b H'
def AP(X:Cx)(aa:Δ)(σ:St)(Q:Ζ->Hp->Prop)(us:Θ)(s':Shared):Prop:=∃vs H',Inv X aa σ H' s'/\Vals vs us/\Q vs H'
def SP(X:Cx)(aa:Δ)(D:Ends)(f:Flow)(s':Shared):Prop :=
 match f with
 |.next=>∃σ' H',Inv X aa σ' H' s'/\D.nx σ' H'
 |.brk=>∃σ' H',Inv X aa σ' H' s'/\D.bk σ' H'
 |.cont=>∃σ' H',Inv X aa σ' H' s'/\D.ct σ' H'
 |.ret u=>∃v σ' H',Inv X aa σ' H' s'/\RelV v u/\D.rt v H'
def PE(X:Cx)(e:Expr)(t:TE):Prop :=
 ∀(aa:Δ)(s:Shared)(σ:St)(H:Hp)(Q:VK),Inv X aa σ H s->t σ H Q->wpAny (model X.prog X.w) X.A (eval e X.env) (EP X aa σ Q) X.xe s
def PT(X:Cx)(e:Expr)(t:TT):Prop :=
 ∀(aa:Δ)(s:Shared)(σ:St)(H:Hp)(Q:Bool->Hp->Prop),Inv X aa σ H s->t σ H Q->wpAny (model X.prog X.w) X.A (isTrue e X.env (eval e X.env)) (TP X aa σ Q) X.xe s
def PW(X:Cx)(e:Expr)(t:TT):Prop :=
 ∀(ck:Sem Value)(aa:Δ)(s:Shared)(σ:St)(H:Hp)(Q:Bool->Hp->Prop),Inv X aa σ H s->t σ H Q->wpAny (model X.prog X.w) X.A (isTrue e X.env ck) (TP X aa σ Q) X.xe s
theorem PW.pt{X:Cx}{e:Expr}{t:TT}(h:PW X e t):PT X e t:=h _
def PA(X:Cx)(es:List Expr)(t:TA):Prop :=
 ∀(pos:Pos)(aa:Δ)(s:Shared)(σ:St)(H:Hp)(Q:Ζ->Hp->Prop),Inv X aa σ H s->t σ H Q->wpAny (model X.prog X.w) X.A (spliced (backTo pos (starEach es X.env))) (AP X aa σ Q) X.xe s
def PS(X:Cx)(st:Stmt)(t:TS):Prop :=
 ∀(aa:Δ)(s:Shared)(σ:St)(H:Hp)(D:Ends),Inv X aa σ H s->t D σ H->wpAny (model X.prog X.w) X.A (exec st X.env) (SP X aa D) X.xe s
def PSs(X:Cx)(st:List Stmt)(t:TS):Prop :=
 ∀(aa:Δ)(s:Shared)(σ:St)(H:Hp)(D:Ends),Inv X aa σ H s->t D σ H->wpAny (model X.prog X.w) X.A (execs st X.env) (SP X aa D) X.xe s
theorem thn{α:Type}{t:Sem α}{Q Q':α->Shared->Prop}{M:Model}{A:Around}{E:Ε}{s:Shared}(h:wpAny M A t Q E s)(hQ:∀a s,Q a s->Q' a s):wpAny M A t Q' E s:=wpAny_mono h hQ λ_ _ x=>x
section
variable{X:Cx}
def aku(i:Nat):TE:=λσ H Q=>∃v,σ[i]?=some (some v)/\Q v H
def tC(v:V):TE:=λ_ H Q=>Q v H
theorem afQ{i:Nat}{x:Str}{pos:Pos}(hN:X.N[i]?=some x)(hv:Vis X.env.scope x)(hd:(x==("__debug__":Str))=false:=by decide)(be:(x==("__classdict__":Str))=false:=by decide):PE X (.Name x pos) (aku i):=by
 intro aa s σ H Q I h;obtain⟨v,e,h⟩:=h;obtain⟨m,hn,hl⟩:=I.loc;obtain⟨u,r,l⟩:=hl i x v hN e hv;have br:EP X aa σ Q u s:=⟨v,H,I,r,h⟩;rcases l with⟨hk,hm⟩|⟨hk,c,hc,cK⟩
 .exact wpAny_Name (wpAny_loadName_local I.ok.kind hk hn hm br) hd
 .rcases hk with hk|hk
  .exact wpAny_Name (wpAny_loadName_cell I.ok.kind hk hc cK br) hd
  .exact wpAny_Name (wpAny_loadName_free I.ok.kind hk hc cK br be) hd
theorem aeY{i j pos} : PE X (.Constant (.int i) j pos) (tC (.int i)):=λ_ _ _ H _ I h=>wpAny_Constant_int ⟨.int i,H,I.tok _,⟨_,rfl⟩,h⟩
theorem ahg{b j pos} : PE X (.Constant (.bool b) j pos) (tC (.bl b)):=λ_ _ _ H _ I h=>Constant_bool ⟨.bl b,H,I,rfl,h⟩
theorem aeO{j pos} : PE X (.Constant .none j pos) (tC .non):=λ_ _ _ H _ I h=>Constant_none ⟨.non,H,I,rfl,h⟩
theorem afC{x j pos} : PE X (.Constant (.str x) j pos) (tC (.str x)):=λ_ _ _ H _ I h=>Calls.Constant_str ⟨.str x,H,I.tok _,⟨_,rfl⟩,h⟩
def Gl(X:Cx)(x:Str):Prop:=X.env.kindOf x=some .globalImplicit
theorem FN{E:Ε}{aa:Δ}{s:Shared}{σ:St}{H:Hp}{x:Str}{u:Value}{pos:Pos}{Q:Ε}(I:Inv X aa σ H s)(hg:Gl X x)(hm:X.mg x=some u)(h:Q u s)
 (hd:(x==("__debug__":Str))=false:=by decide):wpAny (model X.prog X.w) X.A (eval (.Name x pos) X.env) Q E s :=
 Calls.Name_function_global I.ok.kind hg (Calls.loadGlobal_global (by rw[I.ok.glob];exact I.mod.glob.keeps I.bk) hm h) hd
theorem za{E:Ε}{aa:Δ}{s:Shared}{σ:St}{H:Hp}{x:Str}{u:Value}{pos:Pos}{Q:Ε}(I:Inv X aa σ H s)(hg:Gl X x)(hm:X.mg x=none)(hv:bootBuiltins x=some u)(h:Q u s)
 (hn:x≠"__name__":=by decide)(hd:(x==("__debug__":Str))=false:=by decide):wpAny (model X.prog X.w) X.A (eval (.Name x pos) X.env) Q E s:=by
 obtain⟨mb,h1,h2⟩:=I.mod.blt;exact Calls.Name_function_global I.ok.kind hg (Calls.loadGlobal_builtin (by rw[I.ok.glob];exact I.mod.glob.keeps I.bk) hm (by rw[I.ok.blt];exact h1.keeps I.bk) ((h2 x hn).trans hv) h) hd
theorem U9{x:Str}{v:V}{u:Value}{pos:Pos}(hg:Gl X x)(hm:X.mg x=some u)(r:RelV v u)(hd:(x==("__debug__":Str))=false:=by decide):PE X (.Name x pos) (tC v) :=
 λ_ _ _ H _ I h=>FN I hg hm ⟨v,H,I,r,h⟩ hd
theorem abJ{x:Str}{v:V}{u:Value}{pos:Pos}(hg:Gl X x)(hm:X.mg x=none)(hv:bootBuiltins x=some u)(r:RelV v u)(hn:x≠"__name__":=by decide)(hd:(x==("__debug__":Str))=false:=by decide):PE X (.Name x pos) (tC v) :=
 λ_ _ _ H _ I h=>za I hg hm hv ⟨v,H,I,r,h⟩ hn hd
variable{a b:Expr}{ta tb:TE}{pos:Pos}
def PC(X:Cx)(op:CmpOp)(a b:Expr)(t:TE):Prop :=
 ∀(aa:Δ)(s:Shared)(σ:St)(H:Hp)(Q:VK),Inv X aa σ H s->t σ H Q ->
  wpAny (model X.prog X.w) X.A (eval a X.env) (λv s₁=>wpAny (model X.prog X.w) X.A (eval b X.env) (λu s₂=>wpAny (model X.prog X.w) X.A (compareOp op v u) (EP X aa σ Q) X.xe s₂) X.xe s₁) X.xe s
def tB(t:TE):TT:=λσ H Q=>t σ H λx H1=>∃c,x=.bl c/\Q c H1
theorem aaH{op:CmpOp}{t:TE}(h:PC X op a b t)(h1:behindInMarks op b=false:=by rfl):PT X (.Compare a [op] [b] pos) (tB t):=by
 intro aa s σ H Q I hw;refine wpAny_isTrue_Compare1 (thn (h aa s σ H _ I hw) λv s1 h1=>thn h1 λu s2 h2=>thn h2 λc s3 hP=>?_) h1;obtain⟨x,H1,I1,r1,q1⟩:=hP;obtain⟨d,rfl,q⟩:=q1;cases r1;exact wpAny_truthy_bool ⟨H1,I1,q⟩
variable{tA jn:TT}{rest:List Expr}
def alT(t u:TT):TT:=λσ H Q=>t σ H λc H1=>if c=true then u σ H1 Q else Q false H1
def tOr(t u:TT):TT:=λσ H Q=>t σ H λc H1=>if c=true then Q true H1 else u σ H1 Q
def alz(t:TT):TT:=λσ H Q=>t σ H λc H1=>Q (!c) H1
theorem pw_and1(ha:PT X a tA):PW X (.BoolOp .And [a] pos) tA:=by
 intro wh aa s σ H Q I h;refine isTrue_and (thn (ha aa s σ H Q I h) λc s1 e=>?_);cases c with
 |true=>exact isTrue_and_nil e
 |false=>exact e
theorem pw_or1(ha:PT X a tA):PW X (.BoolOp .Or [a] pos) tA:=by
 intro wh aa s σ H Q I h;refine isTrue_or (thn (ha aa s σ H Q I h) λc s1 e=>?_);cases c with
 |false=>exact isTrue_or_nil e
 |true=>exact e
theorem pw_and(ha:PT X a tA)(hb:PW X (.BoolOp .And (b::rest) pos) jn):PW X (.BoolOp .And (a::b::rest) pos) (alT tA jn):=by
 intro wh aa s σ H Q I h;refine isTrue_and (thn (ha aa s σ H _ I h) λc s1 hP=>?_);obtain⟨H1,I1,q1⟩:=hP;cases c with
 |true=>exact hb wh aa s1 σ H1 Q I1 q1
 |false=>exact⟨H1,I1,q1⟩
theorem pw_or(ha:PT X a tA)(hb:PW X (.BoolOp .Or (b::rest) pos) jn):PW X (.BoolOp .Or (a::b::rest) pos) (tOr tA jn):=by
 intro wh aa s σ H Q I h;refine isTrue_or (thn (ha aa s σ H _ I h) λc s1 hP=>?_);obtain⟨H1,I1,q1⟩:=hP;cases c with
 |true=>exact⟨H1,I1,q1⟩
 |false=>exact hb wh aa s1 σ H1 Q I1 q1
theorem afy(ha:PT X a tA):PT X (.UnaryOp .Not a pos) (alz tA):=by
 intro aa s σ H Q I h;exact isTrue_not (ha aa s σ H (λc H1=>Q (!c) H1) I h)
def ai1(ta tb:TE):TE:=λσ H Q=>ta σ H λx H1=>∃c,x=.bl c/\if c=true then tb σ H1 Q else Q (.bl false) H1
def agJ(ta:TE):TE:=λσ H Q=>ta σ H λx H1=>∃c,x=.bl c/\Q (.bl (!c)) H1
theorem ael{op}{t:TE}(h:PE X a t):PE X (.BoolOp op [a] pos) t:=λaa s σ H Q I hw=>BoolOp_one (h aa s σ H Q I hw)
theorem ae3(ha:PE X a ta)(hb:PE X (.BoolOp .And (b::rest) pos) tb):PE X (.BoolOp .And (a::b::rest) pos) (ai1 ta tb):=by
 intro aa s σ H Q I h;refine BoolOp_and (thn (ha aa s σ H _ I h) λv s1 hP=>?_);obtain⟨x,H1,I1,r1,q1⟩:=hP;obtain⟨c,rfl,q1⟩:=q1;cases r1;refine wpAny_truthy_bool ?_;cases c with
 |true=>exact hb aa s1 σ H1 Q I1 q1
 |false=>exact⟨.bl false,H1,I1,rfl,q1⟩
theorem af8(ha:PE X a ta):PE X (.UnaryOp .Not a pos) (agJ ta):=by
 intro aa s σ H Q I h;refine UnaryOp_ (thn (ha aa s σ H _ I h) λv s1 hP=>?_);obtain⟨x,H1,I1,r1,q1⟩:=hP;obtain⟨c,rfl,q1⟩:=q1;cases r1;exact not_of (wpAny_truthy_bool ⟨.bl (!c),H1,I1,rfl,q1⟩)
def tIf(t:TT)(ta tb:TE):TE:=λσ H Q=>t σ H λc H1=>if c=true then ta σ H1 Q else tb σ H1 Q
theorem aa8{c:Expr}(hc:PT X c tA)(ha:PE X a ta)(hb:PE X b tb):PE X (.IfExp c a b pos) (tIf tA ta tb):=by
 intro aa s σ H Q I h;refine wpAny_IfExp (thn (hc aa s σ H _ I h) λd s1 hP=>?_);obtain⟨H1,I1,q1⟩:=hP;cases d with
 |true=>exact ha aa s1 σ H1 Q I1 q1
 |false=>exact hb aa s1 σ H1 Q I1 q1
end
def SqL(K:Frag)(H:Hp)(a:Addr)(xs:Ζ):Prop :=
 Rd H a (.lst xs) \/
  ∃(o:Obj)(its:Array Value)(n:Nat),K.lookup a=some o/\o.cls=.type "list"/\o.dict=none/\o.data=.seq its n/\its.size<=sizeLine/\Vals xs its.toList
def SqT(K:Frag)(H:Hp)(a:Addr)(xs:Ζ):Prop :=
 Rd H a (.tup xs) \/
  ∃(o:Obj)(its:Array Value)(n:Nat),K.lookup a=some o/\o.cls=.type "tuple"/\o.data=.seq its n/\its.size<=sizeLine/\Vals xs its.toList
noncomputable def amI:Value->Option V
 |.none=>some .non
 |.bool b=>some (.bl b)
 |.int i _=>some (.int i)
 |.str x _=>some (.str x)
 |.bytes b _=>some (.byt b)
 |.float b _=>some (.flt b)
 |.ref a=>some (.ref a)
 |.type n=>some (.ty n)
 |_=>none
theorem RelV.abs{x:V}{u:Value}(r:RelV x u):amI u=some x:=by
 cases x with
 |non=>cases r;rfl
 |bl _=>cases r;rfl
 |int _=>obtain⟨t,rfl⟩:=r;rfl
 |str _=>obtain⟨t,rfl⟩:=r;rfl
 |byt _=>obtain⟨t,rfl⟩:=r;rfl
 |flt _=>obtain⟨t,rfl⟩:=r;rfl
 |ref _=>cases r;rfl
 |ty _=>cases r;rfl
theorem RelV.inj{x y:V}{u:Value}(r:RelV x u)(q:RelV y u):x=y:=Option.some.inj (r.abs.symm.trans q.abs)
theorem Vals.inj:∀{xs ys:Ζ}{us:Θ},Vals xs us->Vals ys us->xs=ys
 |_,_,_,.nil,.nil=>rfl
 |_,_,_,.cons r t,.cons r' t'=>by rw[r.inj r',Vals.inj t t']
section
variable{X:Cx}{aa:Δ}{σ:St}{H:Hp}{s:Shared}{a:Addr}{xs ys:Ζ}
theorem SqL.of{K:Frag}(h:H a=some (.lst xs)):SqL K H a xs:=.inl (.inl h)
theorem SqT.of{K:Frag}(h:H a=some (.tup xs)):SqT K H a xs:=.inl (.inl h)
theorem Inv.list(I:Inv X aa σ H s)(h:SqL X.K H a xs):∃its:Θ,Vals xs its/\PlainL s.heap a its.toArray/\xs.length<=sizeLine:=by
 rcases h with h|⟨o,its,n,hk,hc,hd,hs,hz,r⟩
 .obtain⟨z,its,n,r,e⟩:=h.ok I.hok;exact⟨its,r,⟨_,n,e,rfl,rfl,rfl⟩,z⟩
 .refine⟨its.toList,r,⟨o,n,I.kIn a o hk,hc,hd,by simpa using hs⟩,?_⟩;have e:=r.length;simp only[Array.length_toList]at e;exact aL (WG e) hz
theorem Inv.tuple(I:Inv X aa σ H s)(h:SqT X.K H a xs):∃its:Θ,Vals xs its/\IsTup s.heap a its.toArray/\xs.length<=sizeLine:=by
 rcases h with h|⟨o,its,n,hk,hc,hs,hz,r⟩
 .obtain⟨z,its,r,p⟩:=h.ok I.hok;exact⟨its,r,p,z⟩
 .refine⟨its.toList,r,⟨o,I.kIn a o hk,hc,n,by simpa using hs⟩,?_⟩;have e:=r.length;simp only[Array.length_toList]at e;exact aL (WG e) hz
theorem Inv.list_inj(I:Inv X aa σ H s)(h:SqL X.K H a xs)(h':SqL X.K H a ys):xs=ys:=by
 obtain⟨its,r,⟨o,n,e,_,_,d⟩,_⟩:=I.list h;obtain⟨its',r',⟨o',n',e',_,_,d'⟩,_⟩:=I.list h';rw[e]at e';cases e';rw[d]at d';injection d' with d1 _;have:its=its':=by simpa using ZH Array.toList d1
 subst this;exact r.inj r'
end
noncomputable abbrev Cx.wish(X:Cx)(E:Ε):Cx:={ X with xe:=E }
noncomputable abbrev Cx.nox(X:Cx):Cx:=X.wish λ_ _=>False
theorem Cx.Ok.wish{X:Cx}(ok:X.Ok)(E:Ε):(X.wish E).Ok :=
 ⟨ok.mod,ok.kind,ok.glob,ok.blt,ok.above,ok.inj,ok.has,ok.cab,ok.hd,ok.frames,ok.stk,ok.exf,ok.bs,ok.bsz,ok.noex,ok.exfs,ok.funs,ok.frf⟩
theorem Cx.Ok.unwish{X:Cx}{E:Ε}(ok:(X.wish E).Ok):X.Ok :=
 ⟨ok.mod,ok.kind,ok.glob,ok.blt,ok.above,ok.inj,ok.has,ok.cab,ok.hd,ok.frames,ok.stk,ok.exf,ok.bs,ok.bsz,ok.noex,ok.exfs,ok.funs,ok.frf⟩
section
variable{X:Cx}{aa:Δ}{σ:St}{H:Hp}{s:Shared}{E:Ε}
theorem Inv.wish(I:Inv X aa σ H s)(E:Ε):Inv (X.wish E) aa σ H s:=⟨I.ok.wish E,I.os,I.bare,I.base,I.loc,I.cell,I.free,I.freeC,I.pin,I.hok,I.len⟩
theorem Inv.unwish(I:Inv (X.wish E) aa σ H s):Inv X aa σ H s:=⟨I.ok.unwish,I.os,I.bare,I.base,I.loc,I.cell,I.free,I.freeC,I.pin,I.hok,I.len⟩
theorem SP.unwish{D:Ends}{f:Flow}{s':Shared}(h:SP (X.wish E) aa D f s'):SP X aa D f s':=by
 cases f with
 |next=>obtain⟨σ',H',I,q⟩:=h;exact⟨σ',H',I.unwish,q⟩
 |brk=>obtain⟨σ',H',I,q⟩:=h;exact⟨σ',H',I.unwish,q⟩
 |cont=>obtain⟨σ',H',I,q⟩:=h;exact⟨σ',H',I.unwish,q⟩
 |ret u=>obtain⟨v,σ',H',I,r,q⟩:=h;exact⟨v,σ',H',I.unwish,r,q⟩
theorem PSs.nox{st:List Stmt}{t:TS}(h:PSs X.nox st t):PSs X st t:=λaa s σ H D I hw =>
 wpAny_mono (h aa s σ H D (I.wish _) hw) (λ_ _ q=>q.unwish) λ_ _ z=>False.elim z
end
section
variable{X:Cx}{st:Stmt}{rest:List Stmt}{t u:TS}{e:Expr}{te:TE}{pos:Pos}
def ahK:TS:=λD σ H=>D.nx σ H
def agF(t u:TS):TS:=λD σ H=>t { D with nx:=u D } σ H
theorem abE:PSs X [] ahK:=λ_ _ σ H _ I h=>wpAny_execs_nil ⟨σ,H,I,h⟩
theorem aaj(h1:PS X st t)(h2:PSs X rest u):PSs X (st::rest) (agF t u):=by
 intro aa s σ H D I h;refine wpAny_execs_cons (thn (h1 aa s σ H { D with nx:=u D } I h) λf s1 q=>?_);cases f with
 |next =>
  obtain⟨σ',H',I',q⟩:=q;exact h2 aa s1 σ' H' D I' q
 |ret v=>exact q
 |brk=>exact q
 |cont=>exact q
theorem abl(h1:PS X st t):PSs X [st] t:=by
 intro aa s σ H D I h;refine wpAny_execs_cons (thn (h1 aa s σ H D I h) λf s1 q=>?_);cases f with
 |next=>exact wpAny_execs_nil q
 |ret v=>exact q
 |brk=>exact q
 |cont=>exact q
theorem Inv.quiet{aa:Δ}{σ:St}{H:Hp}{s:Shared}(I:Inv X aa σ H s):interactive X.env=false:=by simp[interactive,I.ok.kind]
def ah1(te:TE):TS:=λD σ H=>te σ H λ_ H1=>D.nx σ H1
theorem xO(he:PE X e te)(hs:swapsWith e none pos.line X.env=pure false:=by rfl):PS X (.Expr e pos) (ah1 te):=by
 intro aa s σ H D I h;exact wpAny_Expr_any (thn (he aa s σ H _ I h) λv s1 hP=>by obtain⟨x,H1,I1,r1,q1⟩:=hP;exact⟨σ,H1,I1,q1⟩) I.quiet hs
def aml(te:TE):TS:=λD σ H=>te σ H D.rt
theorem S_(he:PE X e te):PS X (.Return (some e) pos) (aml te):=by
 intro aa s σ H D I h;exact wpAny_Return_some (thn (he aa s σ H _ I h) λv s1 hP=>by obtain⟨x,H1,I1,r1,q1⟩:=hP;exact⟨x,σ,H1,I1,r1,q1⟩)
def alr(c:TT)(t u:TS):TS:=λD σ H=>c σ H λb H1=>if b=true then t D σ H1 else u D σ H1
theorem ai7{c:Expr}{a b:List Stmt}{tc:TT}(hc:PT X c tc)(ha:PSs X a t)(hb:PSs X b u):PS X (.If c a b pos) (alr tc t u):=by
 intro aa s σ H D I h;refine wpAny_If (thn (hc aa s σ H _ I h) λd s1 hP=>?_);obtain⟨H1,I1,q1⟩:=hP;cases d with
 |true=>exact ha aa s1 σ H1 D I1 q1
 |false=>exact hb aa s1 σ H1 D I1 q1
def afL:TS:=λ_ _ _=>False
theorem aaw:PS X st afL:=λ_ _ _ _ _ _ h=>h.elim
end
abbrev TG:=V->St->Hp->(St->Hp->Prop)->Prop
abbrev TGs:=Ζ->St->Hp->(St->Hp->Prop)->Prop
def PG(X:Cx)(gm:Expr)(t:TG):Prop :=
 ∀(aa:Δ)(s:Shared)(σ:St)(H:Hp)(v:V)(u:Value)(Q:St->Hp->Prop),Inv X aa σ H s->RelV v u->t v σ H Q ->
  wpAny (model X.prog X.w) X.A (assign gm X.env u) (λ_ s'=>∃σ' H',Inv X aa σ' H' s'/\Q σ' H') X.xe s
def PGs(X:Cx)(ts:List Expr)(t:TGs):Prop :=
 ∀(aa:Δ)(s:Shared)(σ:St)(H:Hp)(vs:Ζ)(us:Θ)(Q:St->Hp->Prop),Inv X aa σ H s->Vals vs us->t vs σ H Q ->
  wpAny (model X.prog X.w) X.A (assignInOrder ((assignEach ts X.env).map (·.2)) us) (λ_ s'=>∃σ' H',Inv X aa σ' H' s'/\Q σ' H') X.xe s
abbrev afG:=V->V->V->Hp->(Hp->Prop)->Prop
def ajp(X:Cx)(t:afG):Prop :=
 ∀(aa:Δ)(s:Shared)(σ:St)(H:Hp)(o i v:V)(ov iv u:Value)(Q:Hp->Prop),Inv X aa σ H s->RelV o ov->RelV i iv->RelV v u->t o i v H Q ->
  wpAny (model X.prog X.w) X.A (setItem ov iv u) (λ_ s'=>∃H',Inv X aa σ H' s'/\Q H') X.xe s
abbrev TIp:=V->V->Hp->VK->Prop
def PIp(X:Cx)(op:Operator)(t:TIp):Prop :=
 ∀(aa:Δ)(s:Shared)(σ:St)(H:Hp)(x y:V)(v u:Value)(Q:VK),Inv X aa σ H s->RelV x v->RelV y u->t x y H Q ->
  wpAny (model X.prog X.w) X.A (inplaceOp op v u) (EP X aa σ Q) X.xe s
section
variable{X:Cx}{pos:Pos}
def yR(i:Nat):TG:=λv σ H Q=>Q (σ.set i (some v)) H
theorem lM{i:Nat}{x:Str}(hN:X.N.Nodup)(hi:X.N[i]?=some x)(hx:Loc X.env.scope x)(hf:X.fn x=true\/X.env.scope.names.lookup x=some .local:=by first|exact .inl rfl|exact .inr rfl|assumption):PG X (.Name x pos) (yR i):=by
 intro aa s σ H v u Q I r h;exact wpAny_assign_Name (wH I hN hi hx r (λs' I'=>⟨_,H,I',h⟩) hf)
def alB:TGs:=λvs σ H Q=>vs=[]/\Q σ H
def aiA(t:TG)(u:TGs):TGs:=λvs σ H Q=>∃v r,vs=v::r/\t v σ H λσ' H'=>u r σ' H' Q
theorem abx:PGs X [] alB:=by
 intro aa s σ H vs us Q I r h;obtain⟨e,h⟩:=h;subst e;cases r;exact assignInOrder_nil ⟨σ,H,I,h⟩
theorem YZ{e:Expr}{es:List Expr}{t:TG}{u:TGs}(h1:PG X e t)(h2:PGs X es u)
 (hs:(assignEach (e::es) X.env).map (·.2)=assign e X.env::(assignEach es X.env).map (·.2):=by rfl):PGs X (e::es) (aiA t u):=by
 intro aa s σ H vs us Q I r h;obtain⟨v,vr,e1,h⟩:=h;subst e1;cases r with
 |cons r rr =>
  rw[hs];refine assignInOrder_cons (thn (h1 aa s σ H _ _ _ I r h) λ_ s1 hP=>?_);obtain⟨σ1,H1,I1,q1⟩:=hP;exact h2 aa s1 σ1 H1 _ _ Q I1 rr q1
def anw(K:Frag)(n:Nat)(t:TGs):TG:=λv σ H Q=>∃a xs,v=.ref a/\SqT K H a xs/\xs.length=n/\t xs σ H Q
theorem aeW{es:List Expr}{k:Nat}{t:TGs}{n:Nat}(hc:X.calm=true)(h:PGs X es t)
 (hn:(assignEach es X.env).length=n:=by rfl)(b8:(assignEach es X.env).findIdx? (·.1)=none:=by rfl):PG X (.Tuple es k pos) (anw X.K n t):=by
 intro aa s σ H v u Q I r hw;obtain⟨a,xs,e1,hq,hl,hw⟩:=hw;subst e1;cases r;obtain⟨its,rv,ht,hz⟩:=I.tuple hq;refine assign_Tuple_tuple (I.ok.hd hc) ht (by simp[hn,<- hl,rv.length]) b8 λh' hx=>?_;have I1:Inv X aa σ H { s with heap:=h' }:=I.kept (t':=s.toks) λb o e=>hx b o (aQ (aK e)) e;exact h aa _ σ H xs _ Q I1 (by simpa using rv) hw
def alI(to ti:TE)(t:afG):TG:=λv σ H Q=>to σ H λo H1=>ti σ H1 λi H2=>t o i v H2 λH3=>Q σ H3
theorem Yy{o i:Expr}{to ti:TE}{t:afG}(ho:PE X o to)(hi:PE X i ti)(hs:ajp X t)
 (ha:∀v,assign (.Subscript o i pos) X.env v=(do
   let ov <- holding [v] (eval o X.env)
   let iv <- holding [v,ov] (eval i X.env)
   standAt pos
   holding [v,ov,iv] (setItem ov iv v)
   release [v,ov,iv] []):=by intro _;rfl):PG X (.Subscript o i pos) (alI to ti t):=by
 intro aa s σ H v u Q I r h;rw[ha];refine ZU (wpAny_holding (thn (ho aa s σ H _ I h) λov s1 hP=>?_));obtain⟨x,H1,I1,r1,q1⟩:=hP;refine ZU (wpAny_holding (thn (hi aa s1 σ H1 _ I1 q1) λiv s2 hP=>?_));obtain⟨y,H2,I2,r2,q2⟩:=hP;refine ZU (wpAny_standAt (ZU (wpAny_holding (thn (hs aa s2 σ H2 x y v ov iv u _ I2 r1 r2 r q2) λ_ s3 hP=>?_))));obtain⟨H3,I3,q3⟩:=hP;exact wpAny_release ⟨σ,H3,I3,q3⟩
def acQ(te:TE)(g:TG):TS:=λD σ H=>te σ H λx H1=>g x σ H1 D.nx
theorem S6{tg e:Expr}{te:TE}{g:TG}(he:PE X e te)(hg:PG X tg g)(hs:swapsWithSole [tg] e pos.line X.env=pure false:=by rfl)(hw:swappedStores [tg] e X.env=pure none:=by rfl)
 (h1:(assignEach [tg] X.env).map (·.2)=[assign tg X.env]:=by rfl):PS X (.Assign [tg] e pos) (acQ te g):=by
 intro aa s σ H D I h;refine wpAny_Assign_stores (thn (he aa s σ H _ I h) λv s1 hP=>?_) hs hw;obtain⟨x,H1,I1,r1,q1⟩:=hP;rw[h1];exact thn (hg aa s1 σ H1 x v _ I1 r1 q1) λ_ s2 q=>q
theorem aaW{i:Nat}{x:Str}{e:Expr}{te:TE}{bo:Pos}(hN:X.N.Nodup)(hi:X.N[i]?=some x)(hx:Loc X.env.scope x)(he:PE X e te)(hs:swapsWith e (some (.Name x bo)) pos.line X.env=pure false:=by rfl)(hf:X.fn x=true\/X.env.scope.names.lookup x=some .local:=by first|exact .inl rfl|exact .inr rfl|assumption) :
  PS X (.Assign [.Name x bo] e pos) (acQ te (yR i)):=by
 intro aa s σ H D I h;refine wpAny_Assign_Name (thn (he aa s σ H _ I h) λv s1 hP=>?_) hs;obtain⟨y,H1,I1,r1,q1⟩:=hP;exact wH I1 hN hi hx r1 (λs2 I2=>⟨_,H1,I2,q1⟩) hf
def al8(i j:Nat)(ta:TA):TS:=λD σ H=>ta σ H λvs H1=>∃v w,vs=[v,w]/\D.nx ((σ.set i (some v)).set j (some w)) H1
theorem agg{i j:Nat}{x y:Str}{a b:Expr}{ta:TA}{px py pt:Pos}{kt k2 pt2}(hc:X.calm=true)(hN:X.N.Nodup)(hi:X.N[i]?=some x)(hj:X.N[j]?=some y)(hV:i≠j)
 (hx:X.env.scope.names.lookup x=some .local)(hy:X.env.scope.names.lookup y=some .local)(ha:PA X [a,b] ta)
 (hw:swappedStores [.Tuple [.Name x px,.Name y py] kt pt] (.Tuple [a,b] k2 pt2) X.env=pure (some [x,y]))
 (hs:swapsWithSole [.Tuple [.Name x px,.Name y py] kt pt] (.Tuple [a,b] k2 pt2) pos.line X.env=pure false:=by rfl) :
  PS X (.Assign [.Tuple [.Name x px,.Name y py] kt pt] (.Tuple [a,b] k2 pt2) pos) (al8 i j ta):=by
 intro aa s σ H D I h;rw[exec_Assign_arm];refine ZU (wpAny_standAt ?_);rw[hs];refine ZU (ZT ?_);rw[ZZ (by decide)];refine ZU (Tuple_ (thn (ha _ aa s σ H _ I h) λus s1 hP=>?_));obtain⟨vs,H1,I1,r1,q1⟩:=hP;obtain⟨v,w,e1,q1⟩:=q1;subst e1;obtain⟨u1,u2,rfl,rv,eR⟩ : ∃u1 u2,us=[u1,u2]/\RelV v u1/\RelV w u2:=by
  cases r1 with
  |cons p q =>
   cases q with
   |cons p' q' =>
    cases q';exact⟨_,_,rfl,p,p'⟩
 refine wpAny_newObj_type ?_ (by show 2<=sizeLine;decide);have I2:Inv X aa σ H1 { s1 with heap:=s1.heap.push { cls:=.type "tuple",data:=.seq [u1,u2].toArray } }:=I1.kept (t':=s1.toks) λb o e=>aH _ e;rw[hw];refine ZU (ZT ?_);show wpAny (model X.prog X.w) X.A (do rule "assign.swapped-stores"; let items <- unpackItems (.ref s1.heap.objs.size) 2 none;assignInOrder [λv=>bindName X.env y v,λv=>bindName X.env x v] items.reverse;pure Flow.next) _ _ _;refine ZU (wpAny_rule (ZU (unpackItems_tuple (items:=#[u1,u2]) (I.ok.hd hc) (IsTup.new s1.heap _) λh' g9=>?_)));have I3:=I2.kept (h':=h') (t':=s1.toks) λb o e=>g9 b o (aQ (aK e)) e;show wpAny _ _ (assignInOrder [λv=>bindName X.env y v,λv=>bindName X.env x v] [u2,u1] >>= λ_=>pure Flow.next) _ _ _;refine ZU (assignInOrder_cons (wpAny_bindName (wH I3 hN hj (.inl hy) eR (λs2 I4=>?_) (.inr hy))));refine assignInOrder_cons (wpAny_bindName (wH I4 hN hi (.inl hx) rv (λs3 I5=>assignInOrder_nil (ZT ?_)) (.inr hx)));rw[List.set_comm _ _ (Ne.symm hV)]at I5;exact⟨_,H1,I5,q1⟩
def amK(i:Nat)(te:TE)(ti:TIp):TS:=λD σ H=>∃x,σ[i]?=some (some x)/\te σ H λy H1=>ti x y H1 λz H2=>D.nx (σ.set i (some z)) H2
theorem aaS{i:Nat}{x:Str}{e:Expr}{te:TE}{op:Operator}{ti:TIp}{bo:Pos}(hN:X.N.Nodup)(hi:X.N[i]?=some x)(hx:Loc X.env.scope x)(he:PE X e te)(ho:PIp X op ti)(hf:X.fn x=true\/X.env.scope.names.lookup x=some .local:=by first|exact .inl rfl|exact .inr rfl|assumption) :
  PS X (.AugAssign (.Name x bo) op e pos) (amK i te ti):=by
 intro aa s σ H D I h;obtain⟨v,e1,h⟩:=h;obtain⟨m,hn,hl⟩:=I.loc;have vis:Vis X.env.scope x:=by rcases hx with k|k;exact .inl k;exact .inr (.inl k)
 obtain⟨u,r,l⟩:=hl i x v hi e1 vis;refine wpAny_AugAssign_Name ?_;have go:wpAny (model X.prog X.w) X.A (eval e X.env) (λw s₂=>wpAny (model X.prog X.w) X.A (inplaceOp op u w) (λr s₃=>wpAny (model X.prog X.w) X.A (storeName X.env x r) (λ_=>SP X aa D .next) X.xe s₃) X.xe s₂) X.xe s:=by
  refine thn (he aa s σ H _ I h) λw s1 hP=>?_;obtain⟨y,H1,I1,r1,q1⟩:=hP;refine thn (ho aa s1 σ H1 v y u w _ I1 r r1 q1) λz s2 hP=>?_;obtain⟨zv,H2,I2,r2,q2⟩:=hP;exact wH I2 hN hi hx r2 (λs3 I3=>⟨_,H2,I3,q2⟩) hf
 rcases l with⟨hk,hm⟩|⟨hk,c,hc,cK⟩
 .exact wpAny_loadName_local I.ok.kind hk hn hm go
 .rcases hk with hk|hk
  .exact wpAny_loadName_cell I.ok.kind hk hc cK go
  .rcases hx with k|k
   .have:X.env.scope.names.lookup x=some .free:=hk;rw[k]at this;cases this
   .have:X.env.scope.names.lookup x=some .free:=hk;rw[k]at this;cases this
def ipI(f:Int->Int->Int):TIp:=λx y H Q=>∃i j,x=.int i/\y=.int j/\Q (.int (f i j)) H
theorem aaD:PIp X .Add (ipI λi j=>i+j):=by
 intro aa s σ H x y v u Q I r1 r2 h;obtain⟨i,j,e1,e2,q⟩:=h;subst e1;subst e2;obtain⟨t,rfl⟩:=r1;obtain⟨t',rfl⟩:=r2;exact iadd_int ⟨.int _,H,I.tok _,⟨_,rfl⟩,q⟩
end
section
variable{X:Cx}{pos:Pos}
def af3(c:TT)(tb:TS):TS:=λD σ H=>∃W:Nat->St->Hp->Prop,(∃m,W m σ H)/\∀m σ H,W m σ H ->
 c σ H λb H1=>if b=true then ∃N:St->Hp->Prop,(∀σ' H',N σ' H'->∃m',m'<m/\W m' σ' H')/\tb { D with nx:=N,ct:=N,bk:=D.nx } σ H1 else D.nx σ H1
theorem Ye{c:Expr}{b6:List Stmt}{tc:TT}{tb:TS}(hp:PassesOwn (model X.prog X.w) X.A X.env X.xe)(hc:PT X c tc)(hb:PSs X b6 tb):PS X (.While c b6 [] pos) (af3 tc tb):=by
 intro aa s σ H D I h;obtain⟨W,⟨m0,w0⟩,eQ⟩:=h;refine wpAny_While (codeAny_whileLoop (λn s'=>∃σ' H',Inv X aa σ' H' s'/\W n σ' H') ?_ m0 ⟨σ,H,I,w0⟩);rintro n s1 ⟨σ1,H1,I1,w1⟩;refine wpAny_passesOwn hp (thn (hc aa s1 σ1 H1 _ I1 (eQ n σ1 H1 w1)) λb s2 hP=>?_);obtain⟨H2,I2,q2⟩:=hP;cases b with
 |true =>
  obtain⟨N,hN,q2⟩:=q2;rw[ZY rfl];refine wpAny_passesOwn hp (thn (hb aa s2 σ1 H2 _ I2 q2) λf s3 q3=>?_);cases f with
  |next =>
   obtain⟨σ3,H3,I3,n3⟩:=q3;obtain⟨m',hm,w3⟩:=hN σ3 H3 n3;exact⟨m',hm,σ3,H3,I3,w3⟩
  |cont =>
   obtain⟨σ3,H3,I3,n3⟩:=q3;obtain⟨m',hm,w3⟩:=hN σ3 H3 n3;exact⟨m',hm,σ3,H3,I3,w3⟩
  |brk=>exact q3
  |ret v=>exact q3
 |false =>
  rw[ZZ bw];exact wpAny_execs_nil ⟨σ1,H2,I2,q2⟩
end
structure It where
 go:Nat->Hp->Prop
 yld:Nat->Hp->V->Hp->Prop
 stop:Nat->Hp->Prop
def Ew(X:Cx)(aa:Δ)(H:Hp)(b:Addr):Prop :=
 H b=none/\b≠X.env.locals/\b∉X.fs/\(b∈X.ex\/X.s₀.heap.objs.size<=b)/\(∀x c,X.env.cells.lookup x=some c->c≠b)/\∀p∈X.pn++aa,p.1≠b
theorem Inv.fpOk{X:Cx}{aa:Δ}{σ:St}{H H':Hp}{s:Shared}{b:Addr}(I:Inv X aa σ H s)(hb:s.heap.objs.size<=b)(hn:H' b=none):Ew X aa H' b:=by
 refine⟨hn,UT (aR I.lt hb),I.nofs hb,.inr (aL I.sz hb),λx c e z=>?_,λp hp z=>?_⟩
 .obtain⟨v,q⟩:=I.cell x c e;exact absurd (aR q.lt (by rw[z];exact hb)) (X9 _)
 .exact absurd (aR (aK (I.pin p hp).1) (by rw[z];exact hb)) (X9 _)
structure Turn(P:Program)(w:World)(K:Frag)(tg:Expr)(J:It)(fp:Ψ)(it:Addr)(tn:Nat->Heap->Prop):Prop where
 mem:it∈fp
 obj:∀i h,tn i h->∀b∈fp,∃o,h.get? b=some o/\∀v,o.data≠.cell v
 keep:∀i h h',tn i h->(∀b∈fp,∀o,h.get? b=some o->h'.get? b=some o)->tn i h'
 item:∀(X:Cx),X.prog=P->X.w=w->X.K=K->X.calm=true->∀(i:Nat)(aa:Δ)(s:Shared)(σ:St)(H:Hp)(E:Ε),Inv X aa σ H s->(∀b∈fp,Ew X aa H b)->tn i s.heap->J.go i H ->
  wpAny (model P w) X.A (pyNext (.ref it)) (λr s1=>∃u,r=some u /\
   wpAny (model P w) X.A (letOwnedTupleGo tg (.ref it) u) (λ_ s2=>∃x H',Inv X aa σ H' s2/\RelV x u/\J.yld i H x H'/\tn (i+1) s2.heap/\∀b∈fp,H' b=none) E s1) E s
 done:∀(X:Cx),X.prog=P->X.w=w->X.K=K->X.calm=true->∀(i:Nat)(aa:Δ)(s:Shared)(σ:St)(H:Hp)(E:Ε),Inv X aa σ H s->(∀b∈fp,Ew X aa H b)->tn i s.heap->J.stop i H ->
  wpAny (model P w) X.A (pyNext (.ref it)) (λr s1=>r=none/\Inv X aa σ H s1) E s
 self:∀(A:Around)(i:Nat)(s:Shared)(Q:Ε)(E:Ε),tn i s.heap->Q (.ref it) s->wpAny (model P w) A (pyIter (.ref it)) Q E s
abbrev TI:=St->Hp->(It->Hp->Prop)->Prop
def PIE(X:Cx)(aa:Δ)(σ:St)(tg:Expr)(R:It->Hp->Prop)(kH:Value)(s2:Shared):Prop :=
 ∃(it:Addr)(fp:Ψ)(tn:Nat->Heap->Prop)(J:It)(H':Hp),kH=.ref it/\Inv X aa σ H' s2/\Turn X.prog X.w X.K tg J fp it tn/\tn 0 s2.heap/\(∀b∈fp,Ew X aa H' b)/\R J H'
def PI(X:Cx)(tg iter:Expr)(wi:TI):Prop :=
 ∀(aa:Δ)(s:Shared)(σ:St)(H:Hp)(R:It->Hp->Prop),Inv X aa σ H s->wi σ H R ->
  wpAny (model X.prog X.w) X.A (eval iter X.env) (λv s1=>wpAny (model X.prog X.w) X.A (pyIter v) (PIE X aa σ tg R) X.xe s1) X.xe s
theorem V9{M:Model}{A:Around}{E:Ε}{s:Shared}{tg:Expr}{it:Addr}{u:Value}{o:Obj}{n:String}{vs:Array Value}{Q:Unit->Shared->Prop}(ho:s.heap.get? it=some o)(hc:o.cls=.type n)(hd:o.data=.fields vs)
   (hn : ["enumerate","zip","dict_itemiterator","dict_reverseitemiterator","odict_iterator","itertools.zip_longest","itertools.pairwise"].contains n=false)(hQ:Q () s):wpAny M A (letOwnedTupleGo tg (.ref it) u) Q E s:=by
  unfold letOwnedTupleGo;cases tg<;>first
    |exact ZT hQ
    |(cases u<;>first
        |exact ZT hQ
        | (refine ZU (wpAny_load ho ?_)
           rw[hc,hd];show wpAny M A (if(["enumerate","zip","dict_itemiterator","dict_reverseitemiterator","odict_iterator","itertools.zip_longest","itertools.pairwise"].contains n&&vs[0]?==some (rawInt _))=true then _ else _) Q E s;rw[ZZ (by intro h;rw[hn,Bool.false_and]at h;cases h)];exact ZT hQ))
noncomputable def Itl(K:Frag)(a:Addr):It :=
 ⟨λi H=>∃xs x,SqL K H a xs/\xs[i]?=some x,λi H x H'=>H'=H/\∀xs,SqL K H a xs->xs[i]?=some x,λi H=>∃xs,SqL K H a xs/\xs.length<=i⟩
noncomputable def Itr(lo:Int)(n:Nat):It:=⟨λi _=>i<n,λi H x H'=>H'=H/\x=.int (lo+i),λi _=>n<=i⟩
theorem Xj{P:Program}{w:World}{K:Frag}{tg:Expr}(a it:Addr):Turn P w K tg (Itl K a) [it] it (λi h=>h.IsListIter it a i) where
 mem:=by simp
 obj:=λi h st b hb=>by
  have e:b=it:=by simpa using hb
  subst e;obtain⟨o,e,c,d⟩:=st;exact⟨o,e,λv z=>by rw[d]at z;cases z⟩
 keep:=λi h h' st k=>st.at λo e=>k it (by simp) o e
 item:=by
  intro X hP hw hK hc i aa s σ H E I hf st hg;subst hP hw hK;obtain⟨xs,x,hq,hx⟩:=hg;obtain⟨its,rv,p,hz⟩:=I.list hq;obtain⟨u,hu,ru⟩:=rv.get hx;obtain⟨f0,f1,f2,f3,f4,f5⟩:=hf it (by simp);refine wpAny_pyNext_list_item st p.isList (x:=u) (by simpa using hu) λh' du sb=>?_;have I1:Inv X aa σ H { s with heap:=h' }:=I.turned (t':=s.toks) (λb o hb e=>(sb.2 b hb).trans e) f0 f1 f3 f4 f5;obtain⟨o,e,c,d⟩:=id du;exact⟨u,rfl,V9 (s:={ s with heap:=h' }) e c d (by decide) ⟨x,H,I1,ru,⟨rfl,λys hy=>by rw[I.list_inj hy hq];exact hx⟩,du,λb hb=>(hf b hb).1⟩⟩
 done:=by
  intro X hP hw hK hc i aa s σ H E I hf st hg;subst hP hw hK;obtain⟨xs,hq,hx⟩:=hg;obtain⟨its,rv,p,hz⟩:=I.list hq;obtain⟨f0,f1,f2,f3,f4,f5⟩:=hf it (by simp);have hl:=rv.length;exact wpAny_pyNext_list_end (I.ok.hd hc) st p.isList (by simp;lia) λh' eb=>⟨rfl,I.turned (t':=s.toks) (λb o hb e=>eb b o hb e) f0 f1 f3 f4 f5⟩
 self:=λ_ _ _ _ _ st h=>wpAny_pyIter_listiter st h
theorem TV{P:Program}{w:World}{K:Frag}{tg:Expr}(it:Addr)(lo:Int)(n:Nat):Turn P w K tg (Itr lo n) [it] it (λi h=>IsRangeIter h it (lo+(i:Nat)*1) ((n:Int)-(i:Nat)) 1) where
 mem:=by simp
 obj:=λi h st b hb=>by
  have e:b=it:=by simpa using hb
  subst e;exact⟨_,st,λv z=>by
   have z':Data.fields _=Data.cell v:=z;cases z'⟩
 keep:=λi h h' st k=>k it (by simp) _ st
 item:=by
  intro X hP hw hK hc i aa s σ H E I hf st hg;subst hP hw hK;obtain⟨f0,f1,f2,f3,f4,f5⟩:=hf it (by simp);have W:=Walks.range (prog:=X.prog) (w:=X.w) (I.ok.hd hc) it lo 1 n;refine W.item i s _ _ hg st λv h' tk hv du kk=>?_;obtain⟨t,rfl⟩:=hv;have I1:Inv X aa σ H { s with heap:=h',toks:=tk }:=I.turned (λb o hb e=>kk b o (by simpa using hb) e) f0 f1 f3 f4 f5;refine⟨_,rfl,V9 (s:={ s with heap:=h',toks:=tk }) (n:="range_iterator") du rfl rfl (by decide) ⟨.int (lo+i),H,I1,⟨t,?_⟩,⟨rfl,rfl⟩,du,λb hb=>(hf b hb).1⟩⟩;rw[Q1]
 done:=by
  intro X hP hw hK hc i aa s σ H E I hf st hg;subst hP hw hK;obtain⟨f0,f1,f2,f3,f4,f5⟩:=hf it (by simp);exact wpAny_pyNext_range_end (I.ok.hd hc) st (by have:n<=i:=hg;lia) λh' eb=>⟨rfl,I.turned (t':=s.toks) (λb o hb e=>eb b o hb e) f0 f1 f3 f4 f5⟩
 self:=λ_ _ _ _ _ st h=>wpAny_pyIter_rangeiter st h
section
variable{X:Cx}{tg:Expr}
def akW(K:Frag)(tl:TE):TI:=λσ H R=>tl σ H λx H1=>∃a,x=.ref a/\(∃xs,SqL K H1 a xs)/\R (Itl K a) H1
theorem acN{l:Expr}{tl:TE}(hl:PE X l tl):PI X tg l (akW X.K tl):=by
 intro aa s σ H R I h;refine thn (hl aa s σ H _ I h) λv s1 hP=>?_;obtain⟨x,H1,I1,r1,q1⟩:=hP;obtain⟨a,e,⟨xs,hq⟩,q⟩:=q1;subst e;cases r1;obtain⟨its,rv,p,hz⟩:=I1.list hq;refine wpAny_pyIter_list p.isList ?_;refine⟨s1.heap.objs.size,[s1.heap.objs.size],_,_,H1,rfl,I1.kept (t':=s1.toks) λb o e=>aH _ e,Xj a _,⟨_,aW _ rfl,rfl,rfl⟩,λb hb=>?_,q⟩;have e:b=s1.heap.objs.size:=by simpa using hb
 subst e;exact I1.fpOk (aG _) (I1.hok.fresh (aG _))
theorem RB{aa:Δ}{σ:St}{H:Hp}{s:Shared}{R:It->Hp->Prop}{E:Ε}{lo hi:Int}{t u v:Tok}{tk:Nat}(I:Inv X aa σ H s)(h1 : -(2^62)<=lo)(h2:lo<2^62)(h3 : -(2^62)<=hi)(h4:hi<2^62)
 (q:R (Itr lo (hi-lo).toNat) H):wpAny (model X.prog X.w) X.A (pyIter (.ref s.heap.objs.size)) (PIE X aa σ tg R) E { s with heap:=s.heap.push { cls:=.type "range",data:=.fields #[.int lo t,.int hi u,.int 1 v] },toks:=tk }:=by
 refine wpAny_pyIter_range (IsRange.new ..) (small_one h1 h2 h3 h4) ?_;have I1:Inv X aa σ H { s with heap:=s.heap.push { cls:=.type "range",data:=.fields #[.int lo t,.int hi u,.int 1 v] },toks:=tk }:=I.kept λb o e=>aH _ e;refine⟨(s.heap.push { cls:=.type "range",data:=.fields #[.int lo t,.int hi u,.int 1 v] }).objs.size,[(s.heap.push { cls:=.type "range",data:=.fields #[.int lo t,.int hi u,.int 1 v] }).objs.size],_,_,H,rfl,
  I1.kept (t':=tk) λb o e=>aH _ e,TV _ lo (hi-lo).toNat,?_,λb hb=>?_,q⟩
 .have e1:lo+((0:Nat):Int)*1=lo:=by simp
  have e2:(((hi-lo).toNat:Nat):Int)-((0:Nat):Int)=Builtin.Range.rangeSize lo hi 1:=by rw[rangeSize_one];split<;>lia
  show IsRangeIter _ _ (lo+((0:Nat):Int)*1) ((((hi-lo).toNat:Nat):Int)-((0:Nat):Int)) 1;rw[e1,e2];exact aW _ rfl
 .have e:b=(s.heap.push { cls:=.type "range",data:=.fields #[.int lo t,.int hi u,.int 1 v] }).objs.size:=by simpa using hb
  subst e;exact I1.fpOk (aG _) (I1.hok.fresh (aG _))
def aik(ta:TA):TI:=λσ H R=>ta σ H λvs H1=>∃j:Int,vs=[.int j]/\-(2^62)<=j/\j<2^62/\R (Itr 0 j.toNat) H1
def akz(ta:TA):TI:=λσ H R=>ta σ H λvs H1=>∃i j:Int,vs=[.int i,.int j]/\(-(2^62)<=i/\i<2^62/\-(2^62)<=j/\j<2^62)/\R (Itr i (j-i).toNat) H1
theorem Xq{a:Expr}{ta:TA}{p pos:Pos}(hg:Gl X "range")(hm:X.mg "range"=none)(ha:PA X [a] ta)(hs:starEach [a] X.env=[(false,eval a X.env)]:=by rfl):PI X tg (.Call (.Name "range" p) [a] [] pos) (aik ta):=by
 intro aa s σ H R I h;refine Call_ (za I hg hm boot_range (PyProof.Rows.callWith_type1 (thn (ha pos aa s σ H _ I h) λus s1 hP=>?_) hs rfl));obtain⟨vs,H1,I1,r1,q1⟩:=hP;obtain⟨j,e,q1,q2,q⟩:=q1;subst e;cases r1 with
 |cons r rr =>
  cases rr;obtain⟨t,rfl⟩:=r;exact call_range_1 (RB I1 (XY (by decide)) (Q2 (by decide)) q1 q2 (by simpa using q))
theorem Xv{a b:Expr}{ta:TA}{p pos:Pos}(hg:Gl X "range")(hm:X.mg "range"=none)(ha:PA X [a,b] ta)(hs:starEach [a,b] X.env=[(false,eval a X.env),(false,eval b X.env)]:=by rfl)(eJ:starEach [b] X.env=[(false,eval b X.env)]:=by rfl) :
  PI X tg (.Call (.Name "range" p) [a,b] [] pos) (akz ta):=by
 intro aa s σ H R I h;refine Call_ (za I hg hm boot_range (PyProof.Rows.callWith_type1 (thn (ha pos aa s σ H _ I h) λus s1 hP=>?_) (by rw[hs,eJ]) (by rw[eJ];rfl)));obtain⟨vs,H1,I1,r1,q1⟩:=hP;obtain⟨i,j,e,⟨q1,q2,q3,q4⟩,q⟩:=q1;subst e;cases r1 with
 |cons r rr =>
  cases rr with
  |cons r' rr =>
   cases rr;obtain⟨t,rfl⟩:=r;obtain⟨t',rfl⟩:=r';exact call_range_2 (RB I1 q1 q2 q3 q4 q)
def anc(wi:TI)(g:TG)(tb:TS):TS:=λD σ H=>wi σ H λJ H1=>∃W:Nat->Nat->St->Hp->Prop,(∃m,W 0 m σ H1)/\∀i m σ H,W i m σ H ->
 (J.stop i H/\D.nx σ H)\/(J.go i H/\∃N:St->Hp->Prop,(∀σ' H',N σ' H'->∃m',m'<m/\W (i+1) m' σ' H')/\∀x H',J.yld i H x H'->g x σ H' λσ2 H2=>tb { D with nx:=N,ct:=N,bk:=D.nx } σ2 H2)
noncomputable def Ik(fp:Ψ)(h:Heap):Δ:=fp.filterMap λb=>(h.get? b).map λo=>(b,o)
theorem qg{fp:Ψ}{h:Heap}{b:Addr}{o:Obj}(hb:b∈fp)(e:h.get? b=some o):(b,o)∈Ik fp h:=List.mem_filterMap.mpr ⟨b,hb,by rw[e];rfl⟩
theorem W5{fp:Ψ}{h:Heap}{p:Addr×Obj}(hp:p∈Ik fp h):p.1∈fp/\h.get? p.1=some p.2:=by
 obtain⟨b,hb,e⟩:=List.mem_filterMap.mp hp;cases q:h.get? b with
 |none=>rw[q]at e;cases e
 |some o =>
  rw[q]at e;have e':(b,o)=p:=Option.some.inj e;subst e';exact⟨hb,q⟩
theorem Inv.pinned{aa:Δ}{σ:St}{H:Hp}{s:Shared}{fp:Ψ}(I:Inv X aa σ H s)(hf:∀b∈fp,Ew X aa H b)(ho:∀b∈fp,∃o,s.heap.get? b=some o/\∀v,o.data≠.cell v):Inv X (aa++Ik fp s.heap) σ H s :=
 I.pins_of λp hp=>(Y1.mp hp).elim (λz=>I.pin p (aP _ z)) λz=>by
  obtain⟨hb,e⟩:=W5 z;obtain⟨f0,f1,f2,_⟩:=hf p.1 hb;obtain⟨o,e',d⟩:=ho p.1 hb;rw[e]at e';cases e';exact⟨e,f0,f1,f2,d⟩
theorem Inv.unpinned{aa pl:Δ}{σ:St}{H:Hp}{s:Shared}(I:Inv X (aa++pl) σ H s):Inv X aa σ H s:=I.pins_of λp hp=>I.pin p (aP _ (UH _ hp))
theorem aeR{iter:Expr}{b6:List Stmt}{wi:TI}{g:TG}{tb:TS}{pos:Pos}(hp:PassesOwn (model X.prog X.w) X.A X.env X.xe)(hc:X.calm=true)(hi:PI X tg iter wi)(hg:PG X tg g)(hb:PSs X b6 tb)
 (hs:∀x,foldedSetIterable iter X.env x=pure x:=by intro _;rfl):PS X (.For tg iter b6 [] pos) (anc wi g tb):=by
 intro aa s σ H D I h;refine wpAny_For (thn (hi aa s σ H _ I h) λv s1 h1=>thn h1 λkH s2 h2=>?_) hs;obtain⟨it,fp,tn,J,H2,e,I2,T,fF,f2,W,⟨m0,w0⟩,eQ⟩:=h2;subst e

 have gp:∀{H':Hp},(∀b∈fp,H' b=none)->∀b∈fp,Ew X aa H' b:=λhn b hb=>⟨hn b hb,(f2 b hb).2⟩;refine codeAny_forLoop_any (λn s'=>∃i σ' H',Inv X aa σ' H' s'/\tn i s'.heap/\(∀b∈fp,H' b=none)/\W i n σ' H') ?_ m0 ⟨0,σ,H2,I2,fF,λb hb=>(f2 b hb).1,w0⟩;rintro n s3 ⟨i,σ3,H3,I3,g5,fr3,w3⟩;rcases eQ i n σ3 H3 w3 with⟨stop,qn⟩|⟨go,N,hN,step⟩
 .refine wpAny_passesOwn hp (thn (T.done X rfl rfl rfl hc i aa s3 σ3 H3 X.xe I3 (gp fr3) g5 stop) λr s4 hP=>?_);obtain⟨hr,I4⟩:=hP;subst hr;exact wpAny_execs_nil ⟨σ3,H3,I4,qn⟩
 .refine wpAny_passesOwn hp (thn (T.item X rfl rfl rfl hc i aa s3 σ3 H3 X.xe I3 (gp fr3) g5 go) λr s4 hP=>?_);obtain⟨u,hr,h4⟩:=hP;subst hr;refine wpAny_passesOwn hp (thn h4 λ_ s5 hP=>?_);obtain⟨x,H5,I5,r5,y5,ko,fr5⟩:=hP;have I5':=I5.pinned (gp fr5) (T.obj _ _ ko);refine wpAny_passesOwn hp (thn (hg _ s5 σ3 H5 x u _ I5' r5 (step x H5 y5)) λ_ s6 hP=>?_);obtain⟨σ6,H6,I6,q6⟩:=hP;refine wpAny_passesOwn hp (thn (hb _ s6 σ6 H6 _ I6 q6) λf s7 q7=>?_);have again:∀{σ7:St}{H7:Hp},Inv X (aa++Ik fp s5.heap) σ7 H7 s7->N σ7 H7->∃m,m<n/\∃i σ' H',Inv X aa σ' H' s7/\tn i s7.heap/\(∀b∈fp,H' b=none)/\W i m σ' H':=λ{σ7 H7}I7 n7=>by
   obtain⟨m',hm,w7⟩:=hN σ7 H7 n7;refine⟨m',hm,i+1,σ7,H7,I7.unpinned,T.keep _ _ _ ko λb hb o e=>(I7.pin (b,o) (aP _ (aP _ (qg hb e)))).1,λb hb=>?_,w7⟩;obtain⟨o,e,d⟩:=T.obj _ _ ko b hb;exact(I7.pin (b,o) (aP _ (aP _ (qg hb e)))).2.1
  cases f with
  |next=>obtain⟨σ7,H7,I7,n7⟩:=q7;exact again I7 n7
  |cont=>obtain⟨σ7,H7,I7,n7⟩:=q7;exact again I7 n7
  |brk=>obtain⟨σ7,H7,I7,q7⟩:=q7;exact⟨σ7,H7,I7.unpinned,q7⟩
  |ret v=>obtain⟨x7,σ7,H7,I7,r7,q7⟩:=q7;exact⟨x7,σ7,H7,I7.unpinned,r7,q7⟩
end
abbrev R2:=V->V->Hp->VK->Prop
def OpR(X:Cx)(f:Value->Value->Sem Value)(r:R2):Prop :=
 ∀(aa:Δ)(s:Shared)(σ:St)(H:Hp)(x y:V)(v u:Value)(Q:VK),Inv X aa σ H s->RelV x v->RelV y u->r x y H Q ->
  wpAny (model X.prog X.w) X.A (f v u) (EP X aa σ Q) X.xe s
def UnR(X:Cx)(f:Value->Sem Value)(r:V->Hp->VK->Prop):Prop :=
 ∀(aa:Δ)(s:Shared)(σ:St)(H:Hp)(x:V)(v:Value)(Q:VK),Inv X aa σ H s->RelV x v->r x H Q ->
  wpAny (model X.prog X.w) X.A (f v) (EP X aa σ Q) X.xe s
def jt(X:Cx)(f:Value)(r:Ζ->Hp->VK->Prop):Prop :=
 ∀(aa:Δ)(s:Shared)(σ:St)(H:Hp)(xs:Ζ)(us:Θ)(Q:VK),Inv X aa σ H s->Vals xs us->r xs H Q ->
  wpAny (model X.prog X.w) X.A (call f us) (EP X aa σ Q) X.xe s
def alV(X:Cx)(r:V->Hp->(Bool->Hp->Prop)->Prop):Prop :=
 ∀(aa:Δ)(s:Shared)(σ:St)(H:Hp)(x:V)(v:Value)(Q:Bool->Hp->Prop),Inv X aa σ H s->RelV x v->r x H Q ->
  wpAny (model X.prog X.w) X.A (truthy v) (TP X aa σ Q) X.xe s
def tOp(r:R2)(ta tb:TE):TE:=λσ H Q=>ta σ H λx H1=>tb σ H1 λy H2=>r x y H2 Q
def tUn(r:V->Hp->VK->Prop)(ta:TE):TE:=λσ H Q=>ta σ H λx H1=>r x H1 Q
def rI(C:Int->Int->Prop)(g:Int->Int->V):R2:=λx y H Q=>∃i j,x=.int i/\y=.int j/\C i j/\Q (g i j) H
def rI0(g:Int->Int->V):R2:=λx y H Q=>∃i j,x=.int i/\y=.int j/\Q (g i j) H
def rU(g:Int->V):V->Hp->VK->Prop:=λx H Q=>∃i,x=.int i/\Q (g i) H
section
variable{X:Cx}{a b c:Expr}{ta tb tc:TE}{pos:Pos}
theorem afv(ha:PE X a ta)(hb:PE X b tb){aa:Δ}{s:Shared}{σ:St}{H:Hp}{R:V->V->Hp->Prop}(I:Inv X aa σ H s)
 (h:ta σ H λx H1=>tb σ H1 λy H2=>R x y H2){Q:Ε}{f:Value->Value->Sem Value}
 (hf:∀v u s2 x y H2,Inv X aa σ H2 s2->RelV x v->RelV y u->R x y H2->wpAny (model X.prog X.w) X.A (f v u) Q X.xe s2) :
  wpAny (model X.prog X.w) X.A (eval a X.env) (λv s₁=>wpAny (model X.prog X.w) X.A (eval b X.env) (λu s₂=>wpAny (model X.prog X.w) X.A (f v u) Q X.xe s₂) X.xe s₁) X.xe s:=by
 refine thn (ha aa s σ H _ I h) λv s1 hP=>?_;obtain⟨x,H1,I1,r1,q1⟩:=hP;refine thn (hb aa s1 σ H1 _ I1 q1) λu s2 hP=>?_;obtain⟨y,H2,I2,r2,q2⟩:=hP;exact hf v u s2 x y H2 I2 r1 r2 q2
theorem aho{op:Operator}{r:R2}(ho:OpR X (binaryOp op) r)(ha:PE X a ta)(hb:PE X b tb):PE X (.BinOp a op b pos) (tOp r ta tb):=by
 intro aa s σ H Q I h;exact wpAny_BinOp (afv ha hb I h λv u s2 x y H2 I2 rx ry q=>ho aa s2 σ H2 x y v u Q I2 rx ry q)
theorem ahk{op:UnaryOp}{r:V->Hp->VK->Prop}(ho:UnR X (unaryOp op) r)(ha:PE X a ta):PE X (.UnaryOp op a pos) (tUn r ta):=by
 intro aa s σ H Q I h;exact UnaryOp_ (thn (ha aa s σ H _ I h) λv s1 hP=>by obtain⟨x,H1,I1,r1,q1⟩:=hP;exact ho aa s1 σ H1 x v Q I1 r1 q1)
theorem Ab{op:Operator}{r:R2}(ho:OpR X (inplaceOp op) r){aa:Δ}{s:Shared}{σ:St}{H:Hp}{x y:V}{v u:Value}{Q:VK}(I:Inv X aa σ H s)
 (rx:RelV x v)(ry:RelV y u)(q:r x y H Q):wpAny (model X.prog X.w) X.A (inplaceOp op v u) (EP X aa σ Q) X.xe s:=ho aa s σ H x y v u Q I rx ry q
theorem opI{f:Value->Value->Sem Value}{C:Int->Int->Prop}{g:Int->Int->Int}
 (rule:∀(i j:Int)(t u:Tok)(s:Shared)(Q:Ε)(E:Ε),C i j->Q (.int (g i j) s.toks) { s with toks:=s.toks+1 }->wpAny (model X.prog X.w) X.A (f (.int i t) (.int j u)) Q E s) :
  OpR X f (rI C λi j=>.int (g i j)):=by
 intro aa s σ H x y v u Q I rx ry h;obtain⟨i,j,rfl,rfl,hc,q⟩:=h;obtain⟨t,rfl⟩:=rx;obtain⟨t',rfl⟩:=ry;exact rule i j t t' s _ _ hc ⟨.int (g i j),H,I.tok _,⟨_,rfl⟩,q⟩
theorem ah8{f:Value->Value->Sem Value}{g:Int->Int->Int}
 (rule:∀(i j:Int)(t u:Tok)(s:Shared)(Q:Ε)(E:Ε),Q (.int (g i j) s.toks) { s with toks:=s.toks+1 }->wpAny (model X.prog X.w) X.A (f (.int i t) (.int j u)) Q E s) :
  OpR X f (rI0 λi j=>.int (g i j)):=by
 intro aa s σ H x y v u Q I rx ry h;obtain⟨i,j,rfl,rfl,q⟩:=h;obtain⟨t,rfl⟩:=rx;obtain⟨t',rfl⟩:=ry;exact rule i j t t' s _ _ ⟨.int (g i j),H,I.tok _,⟨_,rfl⟩,q⟩
theorem acv{f:Value->Value->Sem Value}{g:Int->Int->Bool}
 (rule:∀(i j:Int)(t u:Tok)(s:Shared)(Q:Ε)(E:Ε),Q (.bool (g i j)) s->wpAny (model X.prog X.w) X.A (f (.int i t) (.int j u)) Q E s) :
  OpR X f (rI0 λi j=>.bl (g i j)):=by
 intro aa s σ H x y v u Q I rx ry h;obtain⟨i,j,rfl,rfl,q⟩:=h;obtain⟨t,rfl⟩:=rx;obtain⟨t',rfl⟩:=ry;exact rule i j t t' s _ _ ⟨.bl (g i j),H,I,rfl,q⟩
def akI(i j:Int):Prop:=0<=j/\j<=1000000/\i.natAbs<2^64
def acy(i j:Int):Prop:=(-(2^64)<i/\i<2^64)\/(-(2^64)<j/\j<2^64)
theorem acy.ok{i j:Int}(h:acy i j):IntMulOk i j:=by
 rcases h with⟨h1,h2⟩|⟨h1,h2⟩
 .exact .of_left (intBits_le_64 h1 h2)
 .exact .of_right (intBits_le_64 h1 h2)
theorem afP:OpR X (binaryOp .Add) (rI0 λi j=>.int (i+j)):=ah8 λ_ _ _ _ _ _ _ q=>add_int q
theorem ago:OpR X (binaryOp .Sub) (rI0 λi j=>.int (i-j)):=ah8 λ_ _ _ _ _ _ _ q=>sub_int q
theorem aeu:OpR X (binaryOp .Mult) (rI acy λi j=>.int (i*j)):=opI λ_ _ _ _ _ _ _ hc q=>mul_int q hc.ok
theorem afc:OpR X (binaryOp .Mod) (rI (λ_ j=>0<j) λi j=>.int (i%j)):=opI λi j _ _ _ _ _ hc q=>by
 have h1:(0:Int)<j:=hc;exact mod_int' (WS hc) (by rw[Int.fmod_eq_emod_of_nonneg i (XY hc)];exact q)
theorem afl:OpR X (binaryOp .Pow) (rI akI λi j=>.int (i^j.toNat)):=opI λ_ _ _ _ _ _ _ hc q=>pow_int_small hc.1 hc.2.1 hc.2.2 q
theorem unI{f:Value->Sem Value}{g:Int->Int}
 (rule:∀(i:Int)(t:Tok)(s:Shared)(Q:Ε)(E:Ε),Q (.int (g i) s.toks) { s with toks:=s.toks+1 }->wpAny (model X.prog X.w) X.A (f (.int i t)) Q E s) :
  UnR X f (rU λi=>.int (g i)):=by
 intro aa s σ H x v Q I rx h;obtain⟨i,rfl,q⟩:=h;obtain⟨t,rfl⟩:=rx;exact rule i t s _ _ ⟨.int (g i),H,I.tok _,⟨_,rfl⟩,q⟩
theorem afB:UnR X (unaryOp .USub) (rU λi=>.int (-i)):=unI λ_ _ _ _ _ q=>neg_int q
end
noncomputable def acu:V->V->Bool
 |.non,.non=>true|.non,.int _=>true|.int _,.non=>true|.non,.bl _=>true|.bl _,.non=>true|.non,.str _=>true|.str _,.non=>true
 |.int _,.int _=>true|.bl _,.bl _=>true|.str _,.str _=>true|.byt _,.byt _=>true
 |.int _,.str _=>true|.str _,.int _=>true|.bl _,.str _=>true|.str _,.bl _=>true
 |_,_=>false
def rEq:R2:=λx y H Q=>acu x y=true/\Q (.bl (decide (x=y))) H
def rNe:R2:=λx y H Q=>acu x y=true/\Q (.bl (!decide (x=y))) H
theorem V7{i j:Int} : decide (V.int i=V.int j)=(i==j):=by
 rw[Bool.eq_iff_iff];simp
theorem aa1{i j:Bool} : decide (V.bl i=V.bl j)=(i==j):=by
 rw[Bool.eq_iff_iff];simp
theorem Vf{i j:Str} : decide (V.str i=V.str j)=(i==j):=by
 rw[Bool.eq_iff_iff];simp
theorem Vt{i j:Array UInt8} : decide (V.byt i=V.byt j)=(i.toList==j.toList):=by
 rw[Bool.eq_iff_iff];cases i;cases j;simp
section
variable{X:Cx}{a b c:Expr}{ta tb tc:TE}{pos:Pos}
theorem cX{aa:Δ}{σ:St}{H:Hp}{s:Shared}{Q:VK}{k k':Bool}(I:Inv X aa σ H s)(q:Q (.bl k) H)(e:k=k'):EP X aa σ Q (.bool k') s:=by
 subst e;exact⟨.bl k,H,I,rfl,q⟩
theorem ahC:OpR X (compareOp .Eq) rEq:=by
 intro aa s σ H x y v u Q I rx ry h;obtain⟨hs,q⟩:=h;cases x with
 |non =>
  cases rx;cases y with
  |non=>cases ry;exact PySem.EqNone.eq_none_none (cX I q (by simp))
  |bl j=>cases ry;exact PySem.EqNone.eq_none_bool (cX I q (by simp))
  |int j=>obtain⟨t',rfl⟩:=ry;exact PySem.EqNone.eq_none_int (cX I q (by simp))
  |str j=>obtain⟨t',rfl⟩:=ry;exact PySem.EqNone.eq_none_str (cX I q (by simp))
  |_=>exact absurd (show false=true from hs) bw
 |bl i =>
  cases rx;cases y with
  |non=>cases ry;exact PySem.EqNone.eq_bool_none (cX I q (by simp))
  |bl j=>cases ry;exact eq_bool (cX I q aa1)
  |str j=>obtain⟨t',rfl⟩:=ry;exact PySem.EqMixed.eq_bool_str (cX I q (by simp))
  |_=>exact absurd (show false=true from hs) bw
 |int i =>
  obtain⟨t,rfl⟩:=rx;cases y with
  |non=>cases ry;exact PySem.EqNone.eq_int_none (cX I q (by simp))
  |int j=>obtain⟨t',rfl⟩:=ry;exact eq_int (cX I q V7)
  |str j=>obtain⟨t',rfl⟩:=ry;exact PySem.EqMixed.eq_int_str (cX I q (by simp))
  |_=>exact absurd (show false=true from hs) bw
 |str i =>
  obtain⟨t,rfl⟩:=rx;cases y with
  |non=>cases ry;exact PySem.EqNone.eq_str_none (cX I q (by simp))
  |bl j=>cases ry;exact PySem.EqMixed.eq_str_bool (cX I q (by simp))
  |int j=>obtain⟨t',rfl⟩:=ry;exact PySem.EqMixed.eq_str_int (cX I q (by simp))
  |str j=>obtain⟨t',rfl⟩:=ry;exact eq_str (cX I q Vf)
  |_=>exact absurd (show false=true from hs) bw
 |byt i =>
  obtain⟨t,rfl⟩:=rx;cases y with
  |byt j=>obtain⟨t',rfl⟩:=ry;exact PySem.W.eq_bytes (cX I q Vt)
  |_=>exact absurd (show false=true from hs) bw
 |_=>cases y<;>exact absurd (show false=true from hs) bw
theorem ake:OpR X (compareOp .NotEq) rNe:=by
 intro aa s σ H x y v u Q I rx ry h;obtain⟨hs,q⟩:=h;cases x with
 |non =>
  cases rx;cases y with
  |non=>cases ry;exact PySem.EqNone.ne_none_none (cX I q (by simp))
  |bl j=>cases ry;exact PySem.EqNone.ne_none_bool (cX I q (by simp))
  |int j=>obtain⟨t',rfl⟩:=ry;exact PySem.EqNone.ne_none_int (cX I q (by simp))
  |str j=>obtain⟨t',rfl⟩:=ry;exact PySem.EqNone.ne_none_str (cX I q (by simp))
  |_=>exact absurd (show false=true from hs) bw
 |bl i =>
  cases rx;cases y with
  |non=>cases ry;exact PySem.EqNone.ne_bool_none (cX I q (by simp))
  |bl j=>cases ry;exact ne_bool (cX I q (ZH not aa1))
  |str j=>obtain⟨t',rfl⟩:=ry;exact PySem.EqMixed.ne_bool_str (cX I q (by simp))
  |_=>exact absurd (show false=true from hs) bw
 |int i =>
  obtain⟨t,rfl⟩:=rx;cases y with
  |non=>cases ry;exact PySem.EqNone.ne_int_none (cX I q (by simp))
  |int j=>obtain⟨t',rfl⟩:=ry;exact ne_int (cX I q (ZH not V7))
  |str j=>obtain⟨t',rfl⟩:=ry;exact PySem.EqMixed.ne_int_str (cX I q (by simp))
  |_=>exact absurd (show false=true from hs) bw
 |str i =>
  obtain⟨t,rfl⟩:=rx;cases y with
  |non=>cases ry;exact PySem.EqNone.ne_str_none (cX I q (by simp))
  |bl j=>cases ry;exact PySem.EqMixed.ne_str_bool (cX I q (by simp))
  |int j=>obtain⟨t',rfl⟩:=ry;exact PySem.EqMixed.ne_str_int (cX I q (by simp))
  |str j=>obtain⟨t',rfl⟩:=ry;exact ne_str (cX I q (ZH not Vf))
  |_=>exact absurd (show false=true from hs) bw
 |byt i =>
  obtain⟨t,rfl⟩:=rx;cases y with
  |byt j=>obtain⟨t',rfl⟩:=ry;exact PySem.W.ne_bytes (cX I q (ZH not Vt))
  |_=>exact absurd (show false=true from hs) bw
 |_=>cases y<;>exact absurd (show false=true from hs) bw
theorem agy:OpR X (compareOp .Lt) (rI0 λi j=>.bl (decide (i<j))):=acv λ_ _ _ _ _ _ _ q=>lt_int q
theorem aiQ:OpR X (compareOp .LtE) (rI0 λi j=>.bl (decide (i<=j))):=acv λ_ _ _ _ _ _ _ q=>le_int q
theorem ag0:OpR X (compareOp .Gt) (rI0 λi j=>.bl (decide (j<i))):=acv λ_ _ _ _ _ _ _ q=>gt_int q
theorem ald:OpR X (compareOp .GtE) (rI0 λi j=>.bl (decide (j<=i))):=acv λ_ _ _ _ _ _ _ q=>ge_int q
theorem afi:OpR X (compareOp .Is) (λx y H Q=>y=.non/\Q (.bl (decide (x=.non))) H):=by
 intro aa s σ H x y v u Q I rx ry h;obtain⟨rfl,q⟩:=h;cases ry;refine is_none_gen (cX I q ?_);cases x<;>first
  |(cases rx;rfl)
  |(obtain⟨t,rfl⟩:=rx;rfl)
theorem acw:OpR X (compareOp .IsNot) (λx y H Q=>y=.non/\Q (.bl (!decide (x=.non))) H):=by
 intro aa s σ H x y v u Q I rx ry h;obtain⟨rfl,q⟩:=h;cases ry;refine isnot_none_gen (cX I q ?_);cases x<;>first
  |(cases rx;rfl)
  |(obtain⟨t,rfl⟩:=rx;rfl)
theorem aa9(b:Expr){op:CmpOp}(h:op≠.In:=by decide)(h2:op≠.NotIn:=by decide):behindInMarks op b=false:=by
 have e1:(op==CmpOp.In)=false:=by cases op<;>first|rfl|exact absurd rfl h
 have e2:(op==CmpOp.NotIn)=false:=by cases op<;>first|rfl|exact absurd rfl h2
 cases b<;>simp[behindInMarks,e1,e2]
theorem abO{op:CmpOp}{r:R2}(ho:OpR X (compareOp op) r)(ha:PE X a ta)(hb:PE X b tb)(hm:behindInMarks op b=false):PE X (.Compare a [op] [b] pos) (tOp r ta tb):=by
 intro aa s σ H Q I h;exact wpAny_Compare1 (afv ha hb I h λv u s2 x y H2 I2 rx ry q=>ho aa s2 σ H2 x y v u Q I2 rx ry q) hm
def adZ(t:TE):TT:=λσ H Q=>t σ H λx H'=>∃k,x=.bl k/\Q k H'
theorem acA{op:CmpOp}{r:R2}(ho:OpR X (compareOp op) r)(ha:PE X a ta)(hb:PE X b tb)(hm:behindInMarks op b=false):PT X (.Compare a [op] [b] pos) (adZ (tOp r ta tb)):=by
 intro aa s σ H Q I h;refine wpAny_isTrue_Compare1 (thn (ha aa s σ H _ I h) λv s1 ⟨x,H1,I1,r1,q1⟩=>thn (hb aa s1 σ H1 _ I1 q1) λu s2 ⟨y,H2,I2,r2,q2⟩ =>
  thn (ho aa s2 σ H2 x y v u _ I2 r1 r2 q2) λc s3 ⟨z,H3,I3,r3,k,e,q3⟩=>?_) hm
 subst e;cases r3;exact wpAny_truthy_bool ⟨H3,I3,q3⟩
def Ua(r r':R2)(ta tb tc:TE):TE:=λσ H Q=>ta σ H λx H1=>tb σ H1 λy H2=>r x y H2 λz H3=>∃k,z=.bl k /\
 (if k=true then tc σ H3 λw' H4=>r' y w' H4 Q else Q (.bl false) H3)
theorem Zo{op dq:CmpOp}{r r':R2}(ho:OpR X (compareOp op) r)(df:OpR X (compareOp dq) r')(ha:PE X a ta)(hb:PE X b tb)(hc:PE X c tc)
 (hm:lastMarks [op,dq] [b,c]=false:=by with_unfolding_all rfl):PE X (.Compare a [op,dq] [b,c] pos) (Ua r r' ta tb tc):=by
 intro aa s σ H Q I h;refine Compare_chain (thn (ha aa s σ H _ I h) λv s1 ⟨x,H1,I1,r1,q1⟩=>chain_link (thn (hb aa s1 σ H1 _ I1 q1) λu s2 ⟨y,H2,I2,r2,q2⟩ =>
  thn (ho aa s2 σ H2 x y v u _ I2 r1 r2 q2) λd s3 ⟨z,H3,I3,r3,k,e,q3⟩=>?_)) hm
 subst e;cases r3;refine wpAny_truthy_bool ?_;cases k with
 |false=>exact ite_ff ⟨.bl false,H3,I3,rfl,q3⟩
 |true=>exact ite_tt (chain_last (thn (hc aa s3 σ H3 _ I3 q3) λw' s4 hP=>by obtain⟨z',H4,I4,r4,q4⟩:=hP;exact df aa s4 σ H4 y z' u w' Q I4 r2 r4 q4))
theorem ZC{op dq:CmpOp}{r r':R2}(ho:OpR X (compareOp op) r)(df:OpR X (compareOp dq) r')(ha:PE X a ta)(hb:PE X b tb)(hc:PE X c tc)
 (hm:lastMarks [op,dq] [b,c]=false:=by with_unfolding_all rfl):PT X (.Compare a [op,dq] [b,c] pos) (adZ (Ua r r' ta tb tc)):=by
 intro aa s σ H Q I h;refine isTrue_chain (thn (ha aa s σ H _ I h) λv s1 ⟨x,H1,I1,r1,q1⟩=>test_link (thn (hb aa s1 σ H1 _ I1 q1) λu s2 ⟨y,H2,I2,r2,q2⟩ =>
  thn (ho aa s2 σ H2 x y v u _ I2 r1 r2 q2) λd s3 ⟨z,H3,I3,r3,k,e,q3⟩=>?_)) hm
 subst e;cases r3;refine wpAny_truthy_bool ?_;cases k with
 |false =>
  obtain⟨k',e',q'⟩:=q3;cases e';exact ite_ff ⟨H3,I3,q'⟩
 |true =>
  refine ite_tt (test_last (thn (hc aa s3 σ H3 _ I3 q3) λw' s4 ⟨z',H4,I4,r4,q4⟩=>thn (df aa s4 σ H4 y z' u w' _ I4 r2 r4 q4) λd' s5 hP=>?_));obtain⟨z2,H5,I5,r5,k2,e2,q5⟩:=hP;subst e2;cases r5;exact wpAny_truthy_bool ⟨H5,I5,q5⟩
def aje(K:Frag)(x:V)(H:Hp)(k:Bool):Prop :=
 match x with
 |.non=>k=false
 |.bl b=>k=b
 |.int i=>k=(i != 0)
 |.str y=>y.length<=sizeLine/\k=((y.length:Int) != 0)
 |.byt y=>y.size<=sizeLine/\k=((y.size:Int) != 0)
 |.ref p=>(∃xs,SqL K H p xs/\k = !xs.isEmpty)\/(∃xs,SqT K H p xs/\k = !xs.isEmpty)\/∃kvs,H p=some (.dK kvs)/\k = !kvs.isEmpty
 |_=>False
theorem Ut{κ:Type}{kvs:List (κ×V)}{vs:List (κ×Value)}(r:KV kvs vs):(!vs.isEmpty) = !kvs.isEmpty:=by
 cases r<;>rfl
theorem HD{xs:Ζ}{its:Θ}(r:Vals xs its):(!its.toArray.isEmpty) = !xs.isEmpty:=by
 cases r<;>simp
theorem wW:(sizeLine:Nat)<2^63:=by rw[sizeLine_eq];decide
theorem aee:alV X (λx H Q=>∃k,aje X.K x H k/\Q k H):=by
 intro aa s σ H x v Q I rx h;obtain⟨k,e,q⟩:=h;have hl:=wW;have hs:sizeLine=16777216:=sizeLine_eq;cases x with
 |non =>
  cases rx;have e':k=false:=e;subst e';exact truthy_none ⟨H,I,q⟩
 |bl b =>
  cases rx;have e':k=b:=e;subst e';exact wpAny_truthy_bool ⟨H,I,q⟩
 |int i =>
  obtain⟨t,rfl⟩:=rx;have e':k=(i != 0):=e;subst e';exact PySem.P.truthy_int ⟨H,I,q⟩
 |str y =>
  obtain⟨t,rfl⟩:=rx;obtain⟨hy,e'⟩ : y.length<=sizeLine/\k=((y.length:Int) != 0):=e;subst e';exact PySem.P.truthy_str (by lia) ⟨H,I.tok _,q⟩
 |byt y =>
  obtain⟨t,rfl⟩:=rx;obtain⟨hy,e'⟩ : y.size<=sizeLine/\k=((y.size:Int) != 0):=e;subst e';exact PySem.W.truthy_bytes (aL hy (by decide)) ⟨H,I.tok _,q⟩
 |ref p =>
  cases rx;have e':(∃xs,SqL X.K H p xs/\k = !xs.isEmpty)\/(∃xs,SqT X.K H p xs/\k = !xs.isEmpty)\/∃kvs,H p=some (.dK kvs)/\k = !kvs.isEmpty:=e;rcases e' with⟨xs,hx,e'⟩|⟨xs,hx,e'⟩|⟨kvs,hx,e'⟩
  .subst e';obtain⟨its,r,pl,hz⟩:=I.list hx;have aI:=r.length;exact wpAny_truthy_list pl.isList (by simp only[aX];lia) ⟨H,I.tok _,by rw[HD r];exact q⟩
  .subst e';obtain⟨its,r,pl,hz⟩:=I.tuple hx;have aI:=r.length;exact truthy_tuple pl (by simp only[aX];lia) ⟨H,I.tok _,by rw[HD r];exact q⟩
  .subst e';obtain⟨hz,hS,vs,r,m⟩ : kvs.length<=sizeLine/\(p==sysModules)=false/\∃vs,KV kvs vs/\s.heap.DictOf (iV X.prog X.w) p vs:=I.hok p _ hx;have aI:kvs.length=vs.length:=Paired.length r;exact wpAny_truthy_dict hS m (by lia) ⟨H,I.tok _,by rw[Ut r];exact q⟩
 |_=>exact(show False from e).elim
theorem aaN(ha:PE X a ta)(he:∀ck,isTrue a X.env ck=(do let v <- ck;standAt a.pos;holding [v] (truthy v))) :
  PT X a (λσ H Q=>ta σ H λx H'=>∃k,aje X.K x H' k/\Q k H'):=by
 intro aa s σ H Q I h;exact isTrue_plain (thn (ha aa s σ H _ I h) λv s1 hP=>by obtain⟨x,H1,I1,r1,q1⟩:=hP;exact aee aa s1 σ H1 x v Q I1 r1 q1) (he _)
theorem Ul:OpR X (binaryOp .Add) (λx y H Q=>∃i j,x=.str i/\y=.str j/\i.length+j.length<=sizeLine/\Q (.str (i++j)) H):=by
 intro aa s σ H x y v u Q I rx ry h;obtain⟨i,j,rfl,rfl,hz,q⟩:=h;obtain⟨t,rfl⟩:=rx;obtain⟨t',rfl⟩:=ry;exact add_str (λt' tk=>⟨.str (i++j),H,I.tok _,⟨_,rfl⟩,q⟩) hz
theorem vals1{x:V}{us:Θ}(r:Vals [x] us):∃u,us=[u]/\RelV x u:=by
 cases r with
 |cons r1 r2=>cases r2;exact⟨_,rfl,r1⟩
theorem aaY:jt X (.builtin "abs") (λxs H Q=>∃i,xs=[.int i]/\Q (.int (if i<0 then -i else i)) H):=by
 intro aa s σ H xs us Q I r h;obtain⟨i,rfl,q⟩:=h;obtain⟨u,rfl,t,rfl⟩:=vals1 r;exact call_abs_int λu tk=>⟨.int (if i<0 then -i else i),H,I.tok _,⟨_,rfl⟩,q⟩
theorem WM:jt X (.type "int") (λxs H Q=>(∃i,xs=[.int i]/\Q (.int i) H)\/∃k,xs=[.bl k]/\Q (.int (if k then 1 else 0)) H):=by
 intro aa s σ H xs us Q I r h;rcases h with⟨i,rfl,q⟩|⟨k,rfl,q⟩
 .obtain⟨u,rfl,t,rfl⟩:=vals1 r;exact call_int_int ⟨.int i,H,I,⟨_,rfl⟩,q⟩
 .obtain⟨u,rfl,r1⟩:=vals1 r;cases r1;exact call_int_bool ⟨.int (if k then 1 else 0),H,I.tok _,⟨_,rfl⟩,q⟩
end
structure SX(h:Heap)(x dx C:Addr)(mA:Str->Ω):Prop where
 obj:h.get? x=some (instObj C dx)
 ns:h.Ns1 dx mA
 ne:dx≠x
theorem Xd{h:Heap}{dx:Addr}{mA:Str->Ω}(n:h.Ns1 dx mA):∃od,h.get? dx=some od/\∀name,lookIn name od=some (mA name):=by
 obtain⟨o,es,ep,ho,hd,hk,_,hm⟩:=n;refine⟨o,ho,λname=>?_⟩;have e:=hm name;unfold nsFind findBy at e;rw[<- Array.find?_toList]at e;unfold lookIn;rw[hd];dsimp only;split
 .rename_i y q
  rw[q]at e;exact ZH some e
 .rename_i q
  rw[q]at e;have a:es.toList.any (·.refKey)=false:=by
   rw[List.any_eq_false];intro y hy;obtain⟨z,t,gN⟩:=hk y (Array.mem_toList_iff.mp hy);simp[DictEntry.refKey,gN]
  have a':¬es.toList.any (·.refKey)=true:=by rw[a];exact bw
  rw[ZZ a'];exact ZH some e
theorem SX.look{h:Heap}{x dx C:Addr}{mA:Str->Ω}(I:SX h x dx C mA):∃od,PySem.W.InstAt h x (instObj C dx) C (some od)/\∀name,lookIn name od=some (mA name) :=
 let⟨od,ho,hl⟩:=Xd I.ns
 ⟨od,⟨I.obj,rfl,rfl,ho⟩,hl⟩
section
variable{prog:Program}{w:World}{A:Around}{E:Ε}{s:Shared}{K:Frag}{x dx C f:Addr}{mA:Str->Ω}{name:Str}{v:Value}
theorem get_map{mh:Bool}{Q:Ε}(X:K.In s.heap)(I:SX s.heap x dx C mA)(hg:plainGet K C name=true)(hh:hasDictIn K C=true)
 (ha:findIn K (.ref C) name=some none)(hv:mA name=some v)(kM:handedIn v=true)(h:Q v { s with toks:=s.toks+1 }) :
  wpAny (model prog w) A (getAttr (.ref x) name mh) Q E s:=by
 obtain⟨od,J,hl⟩:=I.look;exact PySem.W.get_value X J (plainGet_of hg).1 (PySem.W.findObj_own hh ha rfl (by rw[hl,hv])) kM h
theorem aar{pl:Sem Bool}{Q:Value×Θ->Shared->Prop}(X:K.In s.heap)(I:SX s.heap x dx C mA)(hg:plainGet K C name=true)
 (hf:findIn K (.ref C) name=some (some (.ref f)))(ht:isFn K (.ref f)=true)(hv:mA name=none)(h:Q (.ref f,[.ref x]) s) :
  wpAny (model prog w) A (getMethod (.ref x) name pl) Q E s:=by
 obtain⟨od,J,hl⟩:=I.look;exact PySem.W.method_fn X J (plainGet_of hg).1 (plainGet_of hg).2 hf (beq_iff_eq.mp ht) (by show(lookIn name od).map (·.isSome)=some false;rw[hl,hv];rfl) h
theorem acS{ns:Φ}{Q:Unit->Shared->Prop}(X:K.In s.heap)(I:SX s.heap x dx C mA)
 (hs:findIn K (.ref C) "__setattr__"=some (some (.builtin "object.__setattr__")))(hp:plainOver K C=true)(ht:takerIn K C name=some none)(hh:hasDictIn K C=true)
 (hw:PySem.Within mA ns)(hsz:ns.length<=sizeLine)
 (h:∀h',SX h' x dx C (λy=>if y=name then some v else mA y)->Heap.SameBut dx s.heap h'->Q () { s with heap:=h',toks:=s.toks+2 }) :
  wpAny (model prog w) A (setAttr (.ref x) name v) Q E s:=by
 obtain⟨od,J,hl⟩:=I.look;refine PySem.W.set_plain X J hs (PySem.W.osa_open (s:={ s with toks:=s.toks+1 }) (r:=none) X J hp ht λb=>?_);obtain⟨cd,hc,bu⟩:=PySem.W.any_some hh;have hx:s.heap.get? x=some ⟨.ref C,some dx,.plain,#[]⟩:=I.obj;refine ZU (ZT (ZU (ZU (wpAny_loadPart hx (ZU (PySem.W.Looks.here (s:={ s with toks:=s.toks+1 }) (PySem.W.looks_clsIn X hc) ?_))))));rw[bu];refine ZT (a:=some dx) (ZU (ZT (ZU ?_)));refine wpAny_nsSet1 (s:={ s with toks:=s.toks+1 }) I.ns λh' hJ eJ=>?_;obtain⟨oD,esD,epD,hoD,hdD,hcD⟩:=hJ.count (PySem.Within.cons name v hw);refine ZU (wpAny_lookBehind hoD (by rw[hdD];exact pastItsLine_dict (aL hcD (by rw[List.length_cons];exact Nat.succ_le_succ hsz))) ?_);exact ZT (h _ ⟨(eJ.2 _ (Ne.symm I.ne)).trans I.obj,hJ,I.ne⟩ eJ)
theorem Yb{R:Result->Shared->Prop}{vs:Θ}{kw:List (Str×Value)}(X:K.In s.heap)(hm:makesIn K C=true)
 (hi:findIn K (.ref C) "__init__"=some (some (.ref f)))(hf:PySem.W.typeIn K (.ref f)=some (.type "function"))
 (h:codeAny (model prog w) (A.under (.builtin "type.__call__" ⟨.ref C::vs,kw⟩)) (.call (.ref f) ⟨.ref (s.heap.objs.size+1)::vs,kw⟩) (PySem.W.InitBack (s.heap.objs.size+1) R)
   { s with heap:=(s.heap.push emptyDict).push (instObj C s.heap.objs.size) }) :
  codeAny (model prog w) A (.call (.ref C) ⟨vs,kw⟩) R s:=by
 obtain⟨hh,g,d,t,os⟩:=s;exact PySem.W.make_core (PySem.W.makes_of X hm) (PySem.W.looks_findIn X hi) (λself=>PySem.W.bind_fn X self hf) (.inl rfl) h
end
noncomputable def uT(f:Str)(v:V):List (Str×V)->List (Str×V)
 |[]=>[(f,v)]
 |(g,x)::r=>if g=f then(g,v)::r else(g,x)::uT f v r
theorem Ej(f g:Str)(v:V):∀fs:List (Str×V),(uT f v fs).lookup g=if g=f then some v else fs.lookup g
 |[]=>by
  show List.lookup g [(f,v)]=_;by_cases h:g=f
  .have hb:(g==f)=true:=beq_iff_eq.mpr h;simp only[List.lookup,hb,ZY h]
  .have hb:(g==f)=false:=beq_eq_false_iff_ne.mpr h;simp only[List.lookup,hb,ZZ h]
 |(k,x)::r=>by
  have ih:=Ej f g v r;rw[show uT f v ((k,x)::r)=(if k=f then(k,v)::r else(k,x)::uT f v r)from rfl];by_cases hk:k=f
  .rw[ZY hk];by_cases h:g=k
   .have hb:(g==k)=true:=beq_iff_eq.mpr h;simp only[List.lookup,hb,ZY (h.trans hk)]
   .have hb:(g==k)=false:=beq_eq_false_iff_ne.mpr h;simp only[List.lookup,hb,ZZ (λe:g=f=>h (e.trans hk.symm))]
  .rw[ZZ hk];by_cases h:g=k
   .have hb:(g==k)=true:=beq_iff_eq.mpr h;simp only[List.lookup,hb,ZZ (λe:g=f=>hk (h.symm.trans e))]
   .have hb:(g==k)=false:=beq_eq_false_iff_ne.mpr h;simp only[List.lookup,hb];exact ih
theorem Dc(f:Str)(v:V):∀fs:List (Str×V),f∈(uT f v fs).map (·.1)/\∀g,g∈fs.map (·.1)->g∈(uT f v fs).map (·.1)
 |[]=>⟨by simp[uT],λg h=>by simp at h⟩
 |(k,x)::r=>by
  obtain⟨i1,i2⟩:=Dc f v r;rw[show uT f v ((k,x)::r)=(if k=f then(k,v)::r else(k,x)::uT f v r)from rfl];by_cases hk:k=f
  .rw[ZY hk];subst hk;exact⟨by simp,λg h=>by simpa using h⟩
  .rw[ZZ hk];refine⟨?_,λg h=>?_⟩
   .rw[List.map_cons];exact aJ _ i1
   .rw[List.map_cons]at h ⊢;rcases YU.mp h with e|e
    .exact YU.mpr (.inl e)
    .exact aJ _ (i2 g e)
theorem Ef(f:Str)(v:V):∀fs:List (Str×V),(uT f v fs).length<=fs.length+1
 |[]=>by simp[uT]
 |(k,x)::r=>by
  have ih:=Ef f v r;rw[show uT f v ((k,x)::r)=(if k=f then(k,v)::r else(k,x)::uT f v r)from rfl];by_cases hk:k=f
  .rw[ZY hk,List.length_cons,List.length_cons];exact Xs _
  .rw[ZZ hk,List.length_cons,List.length_cons];exact Nat.succ_le_succ ih
theorem yD.some_of{v:V}{o:Ω}(r:yD (some v) o):∃u,o=some u/\RelV v u:=by
 cases o with
 |none=>exact(show False from r).elim
 |some u=>exact⟨u,rfl,r⟩
theorem yD.none_of{o:Ω}(r:yD none o):o=none:=by
 cases o with
 |none=>rfl
 |some u=>exact(show False from r).elim
theorem Wz{v:V}{u:Value}(r:RelV v u):handedIn u=true:=by
 cases v with
 |non=>cases(show u=Value.none from r);rfl
 |bl b=>cases(show u=Value.bool b from r);rfl
 |int i=>obtain⟨t,e⟩:=(show ∃t,u=Value.int i t from r);cases e;rfl
 |str x=>obtain⟨t,e⟩:=(show ∃t,u=Value.str x t from r);cases e;rfl
 |byt b=>obtain⟨t,e⟩:=(show ∃t,u=Value.bytes b t from r);cases e;rfl
 |flt b=>obtain⟨t,e⟩:=(show ∃t,u=Value.float b t from r);cases e;rfl
 |ref a=>cases(show u=Value.ref a from r);rfl
 |ty n=>cases(show u=Value.type n from r);rfl
section
variable{P:Program}{w:World}{H H':Hp}{h h':Heap}{a C dx:Addr}{fs fs':List (Str×V)}
theorem Gu(hok:HOk P w H h)(e:H a=some (.ins C dx fs)):∃mA,SX h a dx C mA/\(∀f,yD (fs.lookup f) (mA f))/\PySem.Within mA (fs.map (·.1))/\fs.length<=1000/\H dx=some (.own a):=by
 obtain⟨d,z,ne,ob,mA,n,r,q⟩:=(show fZ P w H h a (.ins C dx fs)from hok a _ e);exact⟨mA,⟨ob,n,ne⟩,r,q,z,d⟩
end
structure Cls(K:Frag)(C:Addr):Prop where
 pg:plainGet K C Str.empty=true
 hd:hasDictIn K C=true
 po:plainOver K C=true
 sa:findIn K (.ref C) "__setattr__"=some (some (.builtin "object.__setattr__"))
theorem Cls.get{K:Frag}{C:Addr}(c:Cls K C)(f:Str):plainGet K C f=true:=c.pg
def cA(K:Frag)(C:Addr)(f:Str):Prop:=findIn K (.ref C) f=some none
theorem cA.taker{K:Frag}{C:Addr}{f:Str}(n:cA K C f):takerIn K C f=some none:=by
 unfold takerIn;rw[show findIn K (.ref C) f=some none from n]
 rfl
structure Meth(K:Frag)(C:Addr)(m:Str)(f:Addr):Prop where
 at_:findIn K (.ref C) m=some (some (.ref f))
 fn:isFn K (.ref f)=true
 kp:keepIn K (.ref f)=true
section
variable{X:Cx}{aa:Δ}{σ:St}{H:Hp}{s:Shared}{a C dx:Addr}{fs:List (Str×V)}{f:Str}{v:V}{A:Around}{E:Ε}
theorem T9{b:Bool}{Q:Ε}(I:Inv X aa σ H s)(e:H a=some (.ins C dx fs))(c:Cls X.K C)(n:cA X.K C f)(l:fs.lookup f=some v)
 (h:∀u s',Inv X aa σ H s'->RelV v u->Q u s'):wpAny (model X.prog X.w) A (getAttr (.ref a) f b) Q E s:=by
 obtain⟨mA,O,r,_,_,_⟩:=Gu I.hok e;obtain⟨u,hu,ru⟩:=yD.some_of (v:=v) (o:=mA f) (by rw[<- l];exact r f);exact get_map I.kIn O (c.get f) c.hd n hu (Wz ru) (h u _ (I.tok _) ru)
theorem HY{m:Str}{g:Addr}{pl:Sem Bool}{Q:Value×Θ->Shared->Prop}(I:Inv X aa σ H s)(e:H a=some (.ins C dx fs))(c:Cls X.K C)(k:Meth X.K C m g)(l:fs.lookup m=none)
 (h:Q (.ref g,[.ref a]) s):wpAny (model X.prog X.w) A (getMethod (.ref a) m pl) Q E s:=by
 obtain⟨mA,O,r,_,_,_⟩:=Gu I.hok e;have hn:mA m=none:=yD.none_of (by rw[<- l];exact r m);exact aar I.kIn O (c.get m) k.at_ k.fn hn h
theorem S9{y:V}{u:Value}{Q:Unit->Shared->Prop}(I:Inv X aa σ H s)(e:H a=some (.ins C dx fs))(c:Cls X.K C)(n:cA X.K C f)(hl:fs.length<1000)(ry:RelV y u)
 (h:∀s',Inv X aa σ (upd H a (.ins C dx (uT f y fs))) s'->Q () s'):wpAny (model X.prog X.w) A (setAttr (.ref a) f u) Q E s:=by
 obtain⟨mA,O,r,wi,_,ho⟩:=Gu I.hok e;have hz:(fs.map (·.1)).length<=sizeLine:=by rw[ak,sizeLine_eq];exact aL (Y2 hl) (by decide)
 refine acS I.kIn O c.sa c.po n.taker c.hd wi hz λh' O' sb=>h _ ?_;have hd:∃o,h'.get? dx=some o:=by obtain⟨o,_,_,e',_⟩:=O'.ns;exact⟨o,e'⟩
 refine I.write (x:=a) (e:=dx) (by rw[e];exact True.intro) (.inr ho) (λb q hb z=>(sb.2 b hb).trans z) hd ?_;refine⟨by rw[cF O.ne];exact ho,?_,O.ne,O'.obj,_,O'.ns,λg=>?_,λg hg=>?_⟩
 .have:=Ef f y fs;lia
 .show yD ((uT f y fs).lookup g) (if g=f then some u else mA g);rw[Ej];by_cases q:g=f
  .rw[ZY q,ZY q];exact ry
  .rw[ZZ q,ZZ q];exact r g
 .by_cases q:g=f
  .rw[q];exact(Dc f y fs).1
  .refine(Dc f y fs).2 g (wi g λz=>hg ?_);show(if g=f then some u else mA g)=none;rw[ZZ q];exact z
theorem Inv.made(I:Inv X aa σ H s):Inv X aa σ (upd (upd H s.heap.objs.size (.own (s.heap.objs.size+1))) (s.heap.objs.size+1) (.ins C s.heap.objs.size []))
  { s with heap:=(s.heap.push emptyDict).push (instObj C s.heap.objs.size) }:=by
 have e1:(s.heap.push emptyDict).get? s.heap.objs.size=some emptyDict:=aW s.heap rfl;have e2:((s.heap.push emptyDict).push (instObj C s.heap.objs.size)).get? (s.heap.objs.size+1)=some (instObj C s.heap.objs.size):=by
  have:=aW (s.heap.push emptyDict) (o:=instObj C s.heap.objs.size) rfl;rwa[Heap.size_push]at this
 have e3:(s.heap.push emptyDict).Ns s.heap.objs.size (λ_=>none):=⟨emptyDict,#[],_,e1,rfl,(λe he=>absurd he (by simp)),λ_=>rfl⟩;have I1:=I.laid (a:=s.heap.objs.size) (o:=.own (s.heap.objs.size+1)) (h':=s.heap.push emptyDict) (t':=s.toks) (λb u q=>aH _ q) (aG _) ⟨_,e1⟩;refine I1.laid (a:=s.heap.objs.size+1) (o:=.ins C s.heap.objs.size []) (t':=s.toks) (λb u q=>aH _ q) (WG (Heap.size_push _ _)) ?_;have ne:s.heap.objs.size≠s.heap.objs.size+1:=aQ (X1 _);refine⟨by rw[cF ne,cM],aZ _,ne,e2,λ_=>none,(Heap.Ns1.of_empty e3).at λo q=>aH _ q,λ_=>True.intro,λy hy=>absurd rfl hy⟩
theorem abd{prog:Program}{w:World}{env:Env}{e:Expr}{f:Str}{pos:Pos}{s:Shared}{Q:Ε}(hb:attributeBase e f env (eval e env)=eval e env)
 (h:wpAny (model prog w) A (eval e env) (λo s₁=>wpAny (model prog w) A (getAttr o f true) Q E s₁) E s):wpAny (model prog w) A (eval (.Attribute e f pos) env) Q E s :=
 Attribute_any_ h (by rw[arm_eval_Attribute,hb])
end
def al4(K:Frag)(ta:TE)(f:Str):TE:=λσ H Q=>ta σ H λx H1=>∃a C dx fs v,x=.ref a/\H1 a=some (.ins C dx fs)/\Cls K C/\cA K C f/\fs.lookup f=some v/\Q v H1
def amr(K:Frag)(ta tv:TE)(f:Str):TS:=λD σ H=>tv σ H λy H1=>ta σ H1 λx H2=>∃a C dx fs,x=.ref a/\H2 a=some (.ins C dx fs)/\Cls K C/\cA K C f/\fs.length<1000 /\
 D.nx σ (upd H2 a (.ins C dx (uT f y fs)))
section
variable{X:Cx}{o e az:Expr}{f:Str}{pos bo ay:Pos}{ta tv:TE}
theorem aao(he:PE X e ta)(hb:attributeBase e f X.env (eval e X.env)=eval e X.env):PE X (.Attribute e f pos) (al4 X.K ta f):=by
 intro aa s σ H Q I h;refine abd hb (thn (he aa s σ H _ I h) λu s1 h=>?_);obtain⟨x,H1,I1,rx,a,C,dx,fs,v,rfl,ea,c,n,l,q⟩:=h;obtain rfl:u=Value.ref a:=rx;exact T9 I1 ea c n l λu' s2 I2 ru=>⟨v,H1,I2,ru,q⟩
theorem afI(ha:PE X o ta)(hv:PE X az tv)(hs:swapsWith az (some (.Attribute o f bo)) pos.line X.env=pure false):PS X (.Assign [.Attribute o f bo] az pos) (amr X.K ta tv f):=by
 intro aa s σ H D I h;refine plainObj_wpAny_Assign_Attribute (thn (hv aa s σ H _ I h) λu s1 ⟨y,H1,I1,ry,q⟩=>thn (ha aa s1 σ H1 _ I1 q) λov s2 h=>?_) hs;obtain⟨x,H2,I2,rx,a,C,dx,fs,rfl,ea,c,n,l,q2⟩:=h;obtain rfl:ov=Value.ref a:=rx;exact S9 I2 ea c n l ry λs3 I3=>⟨σ,_,I3,q2⟩
end
section
variable{X:Cx}{aa:Δ}{σ:St}{H:Hp}{s:Shared}{A:Around}{E:Ε}{Q:Ε}{c:Value}{b:Bool}
inductive Dj(K:Frag)(H:Hp):V->Value->Prop where
 |non:Dj K H .non (.type "NoneType")
 |bl (x:Bool):Dj K H (.bl x) (.type "bool")
 |int (i:Int):Dj K H (.int i) (.type "int")
 |str (x:Str):Dj K H (.str x) (.type "str")
 |flt (x:UInt64):Dj K H (.flt x) (.type "float")
 |lst {a:Addr}{xs:Ζ} (e:H a=some (.lst xs)):Dj K H (.ref a) (.type "list")
 |frz {a:Addr}{o:Obj}{xs:Ζ} (e:H a=some (.frz o (.lst xs))):Dj K H (.ref a) (.type "list")
 |tup {a:Addr}{xs:Ζ} (e:H a=some (.tup xs)):Dj K H (.ref a) (.type "tuple")
 |dK {a:Addr}{kvs:List (Key×V)} (e:H a=some (.dK kvs)):Dj K H (.ref a) (.type "dict")
 |ins {a C dx:Addr}{fs:List (Str×V)} (e:H a=some (.ins C dx fs)) (cl:Cls K C) (ha:findIn K (.ref C) "__class__"=some (some (.builtin "object.__class__")))
   (hn:specialIn K (.builtin "object.__class__") "__get__"=some (some (.builtin "getset_descriptor.__get__"))) (htk:PySem.W.takesIn K (.builtin "object.__class__")=some true)
   (hm:mroIn K C (.type "object")=some true):Dj K H (.ref a) (.ref C)
theorem Xp{x:V}{u t:Value}(I:Inv X aa σ H s)(rx:RelV x u)(ty:Dj X.K H x t)(e:kitOne X.K t c=some b)(h:∀tk,Q (.bool b) { s with toks:=tk }) :
  wpAny (model X.prog X.w) A (call (.builtin "isinstance") [u,c]) Q E s:=by
 cases ty with
 |non=>cases(show u=Value.none from rx);exact kia_one PySem.W.kitx_none I.kIn True.intro e (λz=>nomatch z) h
 |bl y=>cases(show u=Value.bool y from rx);exact kia_one PySem.W.kitx_bool I.kIn True.intro e (λz=>nomatch z) h
 |int i=>obtain⟨t,q⟩:=(show ∃t,u=Value.int i t from rx);cases q;exact kia_one PySem.W.kitx_int I.kIn True.intro e (λz=>nomatch z) h
 |str y=>obtain⟨t,q⟩:=(show ∃t,u=Value.str y t from rx);cases q;exact kia_one PySem.W.kitx_str I.kIn True.intro e (λz=>nomatch z) h
 |flt y=>obtain⟨t,q⟩:=(show ∃t,u=Value.float y t from rx);cases q;exact kia_one PySem.W.kitx_float I.kIn True.intro e (λz=>nomatch z) h
 |@lst a xs ea =>
  cases(show u=Value.ref a from rx);obtain⟨_,_,n,_,h1⟩:=(show fZ X.prog X.w H s.heap a (.lst xs)from I.hok a _ ea);exact kia_one kitx_list I.kIn ⟨_,h1,rfl⟩ e (λz=>nomatch z) h
 |@frz a ob xs ea =>
  cases(show u=Value.ref a from rx);obtain⟨_,_,_,n,_,h1⟩:=(show fZ X.prog X.w H s.heap a (.frz ob (.lst xs))from I.hok a _ ea);exact kia_one kitx_list I.kIn ⟨_,h1,rfl⟩ e (λz=>nomatch z) h
 |@tup a xs ea =>
  cases(show u=Value.ref a from rx);obtain⟨_,_,_,p⟩:=(show fZ X.prog X.w H s.heap a (.tup xs)from I.hok a _ ea);obtain⟨o,h1,h2,_⟩:=p;exact kia_one kitx_tuple I.kIn ⟨o,h1,h2⟩ e (λz=>nomatch z) h
 |@dK a kvs ea =>
  cases(show u=Value.ref a from rx);obtain⟨_,_,vs,_,p⟩:=(show fZ X.prog X.w H s.heap a (.dK kvs)from I.hok a _ ea);obtain⟨o,es,ep,h1,h2,_⟩:=p;exact kia_one PySem.W.kitx_dict I.kIn ⟨o,h1,h2.1⟩ e (λz=>nomatch z) h
 |@ins a C dx fs ea cl ha hn htk hm =>
  cases(show u=Value.ref a from rx);obtain⟨mA,O,_⟩:=Gu I.hok ea;obtain⟨od,J,_⟩:=O.look;exact kia_one (PySem.W.kitx_own (cl.get _) cl.hd ha hn htk hm) I.kIn J e (λz=>nomatch z) h
end
structure fD(k:Nat)(A:Around):Prop where
 hd:A.handled=none
 dp:A.depth+3*k+5<recursionLimit
 un:A.units+16*k+200<cLine
theorem fD.mono{j k:Nat}{A:Around}(r:fD k A)(h:j<=k):fD j A:=⟨r.hd,by have:=r.dp;lia,by have:=r.un;lia⟩
theorem fD.md{k n:Nat}{A:Around}(h:fD n A)(e:k<=n:=by decide):fD k A:=h.mono e
theorem fD.deeper{k:Nat}{A:Around}(r:fD (k+1) A)(env:Env):fD k (A.deeper env) :=
 ⟨r.hd,by have:=r.dp;show A.depth+1+3*k+5<_;lia,by have:=r.un;show A.units+3+16*k+200<_;lia⟩
theorem U3{A:Around}{C:Addr}{us:Θ}{kw:List (Str×Value)} : (A.under (.builtin "type.__call__" ⟨.ref C::us,kw⟩)).depth=A.depth+1:=by
 first|rfl|simp[Around.under,Code.weight,Code.isCreation,Code.isGuard,Code.isCaller,Code.frames,Code.isFrame,guardIds]
theorem Ux{A:Around}{C:Addr}{us:Θ}{kw:List (Str×Value)} : (A.under (.builtin "type.__call__" ⟨.ref C::us,kw⟩)).units=A.units+1:=by
 first|rfl|simp[Around.under,Code.cUnits,Code.frames,Code.isFrame]
theorem fD.make{k:Nat}{A:Around}(r:fD (k+1) A)(C:Addr)(us:Θ)(kw:List (Str×Value)):fD k (A.under (.builtin "type.__call__" ⟨.ref C::us,kw⟩)) :=
 ⟨r.hd,by have:=r.dp;rw[U3];lia,by have:=r.un;rw[Ux];lia⟩
theorem fD.depth{k:Nat}{A:Around}(r:fD k A):A.depth<recursionLimit:=by have:=r.dp;lia
theorem fD.units{k:Nat}{A:Around}(r:fD k A):A.units+64<cLine:=by have:=r.un;lia
def aer:TA:=λ_ H Q=>Q [] H
def akL(ta:TE)(tr:TA):TA:=λσ H Q=>ta σ H λx H1=>tr σ H1 λxs H2=>Q (x::xs) H2
section
variable{X:Cx}{e:Expr}{es:List Expr}{te:TE}{t:TA}{pos:Pos}
theorem La:PA X [] aer:=λ_ _ _ _ H Q I h=>Calls.spliced_nil ⟨[],H,I,.nil,h⟩
theorem oF(ha:PE X e te)(hr:PA X es t)(hs:starEach (e::es) X.env=(false,eval e X.env)::starEach es X.env:=by rfl):PA X (e::es) (akL te t):=by
 intro pos aa s σ H Q I h;rw[hs];show wpAny _ _ (spliced ((false,eval e X.env)::backTo pos (starEach es X.env))) _ _ s;refine Calls.spliced_cons (thn (ha aa s σ H _ I h) λu s1 hP=>?_);obtain⟨x,H1,I1,r1,q1⟩:=hP;exact thn (hr pos aa s1 σ H1 _ I1 q1) λus s2 hP=>by obtain⟨xs,H2,I2,r2,q2⟩:=hP;exact⟨x::xs,H2,I2,.cons r1 r2,q2⟩
def am4(t:TA):TE:=λσ H Q=>t σ H λxs H1=>xs.length<=sizeLine/\∀p,H1 p=none->Q (.ref p) (upd H1 p (.tup xs))
def ang(t:TA):TE:=λσ H Q=>t σ H λxs H1=>xs.length<=sizeLine/\∀p,H1 p=none->Q (.ref p) (upd H1 p (.lst xs))
theorem afr{x1}(h:PA X es t):PE X (.Tuple es x1 pos) (am4 t):=by
 intro aa s σ H Q I hq;refine wpAny_Tuple_spliced (thn (h pos aa s σ H _ I hq) λus s1 ⟨xs,H1,I1,r,z,q⟩=>⟨by rw[<- r.length];exact z,?_⟩);have hf:H1 s1.heap.objs.size=none:=I1.hok.fresh (aG _);refine⟨.ref s1.heap.objs.size,upd H1 s1.heap.objs.size (.tup xs),I1.laid (t':=s1.toks) (λb u e=>aH _ e) (aG _) ?_,rfl,q _ hf⟩;exact⟨z,us,r,⟨_,aW _ rfl,rfl,_,rfl⟩⟩
theorem aeJ(h:PA X es t):PE X (.List es pos) (ang t):=by
 intro aa s σ H Q I hq;refine wpAny_List_spliced (thn (h pos aa s σ H _ I hq) λus s1 ⟨xs,H1,I1,r,z,q⟩=>⟨by rw[<- r.length];exact z,?_⟩);have hf:H1 s1.heap.objs.size=none:=I1.hok.fresh (aG _);refine⟨.ref s1.heap.objs.size,upd H1 s1.heap.objs.size (.lst xs),I1.laid (t':=s1.toks) (λb u e=>aH _ e) (aG _) ?_,rfl,q _ hf⟩;exact⟨z,us,0,r,aW _ rfl⟩
end
abbrev Sp:=Ζ->Hp->VK->XK->Prop
abbrev CXT:=List Env->Hp->Shared->XK->Value->Shared->Prop
structure Ru(P:Program)(w:World)(K:Frag)(mg:Str->Ω)(base:Heap)(A:Around)(outer:List Env)(s:Shared)(H:Hp):Prop where
 frames:A.frames=some outer
 mod:Mod K mg base
 bs:∀b o,base.get? b=some o->s.heap.get? b=some o/\H b=none
 bsz:base.objs.size<=s.heap.objs.size
 funs:s.heap.FunFrames base outer
 frf:∀b∈frs outer,H b=none
 hok:HOk P w H s.heap
 bare:AllBare s.gens
def CE(outer:List Env)(P:Program)(w:World)(H:Hp)(s:Shared)(Q:VK)(u:Value)(s':Shared):Prop :=
 ∃v H',s'.os=s.os/\AllBare s'.gens/\Un (frs outer) [] H H' s.heap s'.heap/\HOk P w H' s'.heap/\RelV v u/\Q v H'
def CR(CX:CXT)(outer:List Env)(P:Program)(w:World)(H:Hp)(s:Shared)(Q:VK)(E:XK)(r:Result)(s':Shared):Prop :=
 match r with
 |.ok (.ret u)=>CE outer P w H s Q u s'
 |.ok _=>False
 |.error e=>CX outer H s E e s'
structure cj(P:Program)(w:World)(K:Frag)(mg:Str->Ω)(base:Heap)(CX:CXT)(k:Nat)(f:Addr)(fd:FuncData)(ps:Φ)(sp:Sp):Prop where
 len:∀vs H Q E,sp vs H Q E->vs.length=ps.length
 run:∀(A:Around)(outer:List Env)(s:Shared)(H:Hp)(args:Args)(us:Θ)(vs:Ζ)(Q:VK)(E:XK),fD k A->Ru P w K mg base A outer s H->BindsTo s fd args (ps.zip us)->Vals vs us->sp vs H Q E ->
  codeAny (model P w) A (.call (.ref f) args) (CR CX outer P w H s Q E) s
theorem cj.imp{P:Program}{w:World}{K:Frag}{mg:Str->Ω}{base:Heap}{CX:CXT}{k:Nat}{f:Addr}{fd:FuncData}{ps:Φ}{sp sp':Sp}(F:cj P w K mg base CX k f fd ps sp)
 (h:∀vs H Q E,sp' vs H Q E->sp vs H Q E):cj P w K mg base CX k f fd ps sp' :=
 ⟨λvs H Q E q=>F.len vs H Q E (h _ _ _ _ q),λA outer s H args us vs Q E hr he hb hv hs=>F.run A outer s H args us vs Q E hr he hb hv (h _ _ _ _ hs)⟩
theorem Ru.make{P:Program}{w:World}{K:Frag}{mg:Str->Ω}{base:Heap}{A:Around}{outer:List Env}{s:Shared}{H:Hp}(e:Ru P w K mg base A outer s H)(C:Addr)(us:Θ)(kw:List (Str×Value)) :
  Ru P w K mg base (A.under (.builtin "type.__call__" ⟨.ref C::us,kw⟩)) outer s H:=⟨by first|exact e.frames|(simpa[Around.under,Code.envs,Code.isFrame,pushEnvs]using e.frames),e.mod,e.bs,e.bsz,e.funs,e.frf,e.hok,e.bare⟩
section
variable{X:Cx}{aa:Δ}{σ:St}{H:Hp}{s s':Shared}
theorem Inv.env0(I:Inv X aa σ H s):Ru X.prog X.w X.K X.mg X.base X.A X.stack s H :=
 ⟨I.ok.frames,I.ok.mod,I.bs,aL I.ok.bsz I.sz,I.stack,I.stkFree,I.hok,I.bare⟩
theorem Inv.after{Q:VK}{u:Value}(I:Inv X aa σ H s)(h:CE X.stack X.prog X.w H s Q u s'):EP X aa σ Q u s':=by
 obtain⟨v,H',os,bare,un,hok,r,q⟩:=h;obtain⟨hh,g,d,t,os'⟩:=s';obtain rfl:os'=s.os:=os;exact⟨v,H',I.call (h':=hh) (g':=g) (d':=d) (t':=t) (ch:=[]) un hok bare (λb z=>absurd z (by simp)),r,q⟩
end
def ag4(sp:Sp)(c5:Ζ)(E:XK)(t:TA):TE:=λσ H Q=>t σ H λvs H1=>sp (vs++c5) H1 Q E
def ad7(C:Addr)(m:Str)(sp:Sp)(c5:Ζ)(E:XK)(ta:TE)(t:TA):TE:=λσ H Q=>ta σ H λx H1=>∃a dx fs,x=.ref a/\H1 a=some (.ins C dx fs)/\fs.lookup m=none /\
 t σ H1 λvs H2=>sp (x::(vs++c5)) H2 Q E
def aiU(C:Addr)(sp:Sp)(c5:Ζ)(E:XK)(t:TA):TE:=λσ H Q=>t σ H λvs H1=>∀x dx,H1 x=none->H1 dx=none->dx≠x ->
 sp (.ref x::(vs++c5)) (upd (upd H1 dx (.own x)) x (.ins C dx [])) (λv H2=>v=.non/\Q (.ref x) H2) E
def Binds(K:Frag)(fd:FuncData)(ps:Φ)(ds:Θ):Prop :=
 ∀(s:Shared)(us:Θ),K.In s.heap->(us++ds).length=ps.length->BindsTo s fd ⟨us,[]⟩ (ps.zip (us++ds))
theorem Binds.all{K:Frag}{fd:FuncData}{ps:Φ}(h:∀us:Θ,us.length=ps.length->bindArgs fd ⟨us,[]⟩=pure (ps.zip us)):Binds K fd ps []:=λs us _ hl=>by
 rw[List.append_nil]at hl ⊢;exact .of_eq (h us hl)
def Passes(CX:CXT)(X:Cx)(E:XK):Prop:=∀(aa:Δ)(σ:St)(H:Hp)(s:Shared)(e:Value)(s':Shared),Inv X aa σ H s->CX X.stack H s E e s'->X.xe e s'
section
variable{X:Cx}{CX:CXT}{k:Nat}{f C:Addr}{fd:FuncData}{ps:Φ}{sp:Sp}{c5:Ζ}{ds:Θ}{E:XK}{x m:Str}{p pos am:Pos}{e o:Expr}{es:List Expr}{ta:TE}{t:TA}
theorem Mw{aa:Δ}{σ:St}{H:Hp}{s:Shared}{Q:VK}{us:Θ}{vs:Ζ}(F:cj X.prog X.w X.K X.mg X.base CX k f fd ps sp)(hr:fD k X.A)(hb:Binds X.K fd ps ds)(hd:Vals c5 ds)(hx:Passes CX X E)
 (I:Inv X aa σ H s)(r:Vals vs us)(h:sp (vs++c5) H Q E):wpAny (model X.prog X.w) X.A (call (.ref f) us) (EP X aa σ Q) X.xe s:=by
 have r2:Vals (vs++c5) (us++ds):=r.append hd;have hl:(us++ds).length=ps.length:=by rw[<- r2.length];exact F.len _ _ _ _ h
 refine wpAny_call (codeAny_mono (F.run X.A X.stack s H ⟨us,[]⟩ (us++ds) (vs++c5) Q E hr I.env0 (hb s us I.kIn hl) r2 h) λr s' hq=>?_);cases r with
 |error e=>exact hx aa σ H s e s' I hq
 |ok fl =>
  cases fl with
  |ret u=>exact I.after hq
  |next=>exact False.elim hq
  |brk=>exact False.elim hq
  |cont=>exact False.elim hq
theorem abr(F:cj X.prog X.w X.K X.mg X.base CX k f fd ps sp)(hr:fD k X.A)(hg:Gl X x)(hm:X.mg x=some (.ref f))(hk:keepIn X.K (.ref f)=true)(hb:Binds X.K fd ps ds)(hd:Vals c5 ds)(hx:Passes CX X E)
 (ha:PA X (e::es) t)(cc:(x==("__debug__":Str))=false:=by decide)(he:starEach (e::es) X.env=(false,eval e X.env)::starEach es X.env:=by rfl)(bg:(backTo pos (starEach es X.env)).any (·.1)=false:=by rfl) :
  PE X (.Call (.Name x p) (e::es) [] pos) (ag4 sp c5 E t):=by
 intro aa s σ H Q I h;refine wpAny_Call_Name_kw (FN I hg hm ?_ cc);refine callWith_K (h₀:=X.base) I.ok.mod.kin hk (thn (ha pos aa s σ H _ I h) λus s1 ⟨vs,H1,I1,r,q⟩=>⟨I1.kIn,?_⟩) he bg;exact Mw F hr hb hd hx I1 r q
theorem abH{pl:Sem Bool}(he:PE X o ta)(c:Cls X.K C)(hm:Meth X.K C m f)(F:cj X.prog X.w X.K X.mg X.base CX k f fd ps sp)(hr:fD k X.A)(hb:Binds X.K fd ps ds)(hd:Vals c5 ds)(hx:Passes CX X E)(ha:PA X (e::es) t)
 (b8:starEach (e::es) X.env=(false,eval e X.env)::starEach es X.env:=by rfl)(bg:(backTo pos (starEach es X.env)).any (·.1)=false:=by rfl)
 (ht:eval (.Call (.Attribute o m am) (e::es) [] pos) X.env=(do
   let ov <- eval o X.env
   standAt am.atName
   let(f,first) <- holding [ov] (getMethod ov m pl)
   callWith pos f first (backTo pos (starEach (e::es) X.env)) (backToKw pos (keywordEach [] X.env))):=by rfl) :
  PE X (.Call (.Attribute o m am) (e::es) [] pos) (ad7 C m sp c5 E ta t):=by
 intro aa s σ H Q I h;refine methodCall_KW (pl:=pl) (thn (he aa s σ H _ I h) λu s1 hP=>?_) ht;obtain⟨x,H1,I1,rx,a,dx,fs,ex,ea,l,q⟩:=hP;subst ex;obtain rfl:u=Value.ref a:=rx;refine HY I1 ea c hm l ?_;refine callWith_K (first:=[.ref a]) (h₀:=X.base) I.ok.mod.kin hm.kp (thn (ha pos aa s1 σ H1 _ I1 q) λus s2 ⟨vs,H2,I2,r,q2⟩=>⟨I2.kIn,?_⟩) b8 bg;exact Mw (us:=.ref a::us) (vs:=.ref a::vs) F hr hb hd hx I2 (.cons rfl r) q2
theorem Yc{pl:Sem Bool}(he:PE X o ta)(c:Cls X.K C)(hm:Meth X.K C m f)(F:cj X.prog X.w X.K X.mg X.base CX k f fd ps sp)(hr:fD k X.A)(hb:Binds X.K fd ps ds)(hd:Vals c5 ds)(hx:Passes CX X E)
 (ht:eval (.Call (.Attribute o m am) [] [] pos) X.env=(do
   let ov <- eval o X.env
   standAt am.atName
   let(f,first) <- holding [ov] (getMethod ov m pl)
   callWith pos f first (backTo pos (starEach [] X.env)) (backToKw pos (keywordEach [] X.env))):=by rfl) :
  PE X (.Call (.Attribute o m am) [] [] pos) (ad7 C m sp c5 E ta aer):=by
 intro aa s σ H Q I h;refine methodCall_KW (pl:=pl) (thn (he aa s σ H _ I h) λu s1 hP=>?_) ht;obtain⟨x,H1,I1,rx,a,dx,fs,ex,ea,l,q⟩:=hP;subst ex;obtain rfl:u=Value.ref a:=rx;refine HY I1 ea c hm l ?_;exact PySem.W.callWith_K0 (first:=[.ref a]) I1.kIn hm.kp (Mw (us:=[.ref a]) (vs:=[.ref a]) F hr hb hd hx I1 (.cons rfl .nil) q)
structure Mk(K:Frag)(C f:Addr):Prop where
 makes:makesIn K C=true
 init:findIn K (.ref C) "__init__"=some (some (.ref f))
 fn:isFn K (.ref f)=true
 kp:keepIn K (.ref C)=true
theorem Zf{aa:Δ}{σ:St}{H:Hp}{s:Shared}{Q:VK}{us:Θ}{vs:Ζ}(M:Mk X.K C f)(F:cj X.prog X.w X.K X.mg X.base CX k f fd ps sp)(hr:fD (k+1) X.A)(hb:Binds X.K fd ps ds)(hd:Vals c5 ds)
 (hx:Passes CX X E)(I:Inv X aa σ H s)(r:Vals vs us)
 (h:∀x dx,H x=none->H dx=none->dx≠x->sp (.ref x::(vs++c5)) (upd (upd H dx (.own x)) x (.ins C dx [])) (λv H2=>v=.non/\Q (.ref x) H2) E) :
  wpAny (model X.prog X.w) X.A (call (.ref C) us) (EP X aa σ Q) X.xe s:=by
 have hq:=h (s.heap.objs.size+1) s.heap.objs.size (I.hok.fresh (Xs _)) (I.hok.fresh (aG _)) (aQ (X1 _));have I2:=Inv.made (C:=C) I;have r2:Vals (V.ref (s.heap.objs.size+1)::(vs++c5)) (Value.ref (s.heap.objs.size+1)::(us++ds)):=.cons rfl (r.append hd);have hl:(Value.ref (s.heap.objs.size+1)::us++ds).length=ps.length:=by
  have e:=r2.length;rw[F.len _ _ _ _ hq]at e;exact e.symm
 refine wpAny_call (Yb (f:=f) I.kIn M.makes M.init (beq_iff_eq.mp M.fn) (codeAny_mono (F.run _ X.stack _ _ ⟨Value.ref (s.heap.objs.size+1)::us,[]⟩ (Value.ref (s.heap.objs.size+1)::(us++ds)) _ _ E (hr.make C us [])
  (I2.env0.make C us []) (hb _ (Value.ref (s.heap.objs.size+1)::us) I2.kIn hl) r2 hq) λr s' dv=>?_))
 cases r with
 |error e=>exact hx aa σ _ _ e s' I2 dv
 |ok fl =>
  cases fl with
  |ret u =>
   obtain⟨v,H',I3,rv,ev,q3⟩:=I2.after dv;subst ev;exact⟨rv,⟨V.ref (s.heap.objs.size+1),H',I3,rfl,q3⟩⟩
  |next=>exact False.elim dv
  |brk=>exact False.elim dv
  |cont=>exact False.elim dv
theorem ab3(M:Mk X.K C f)(F:cj X.prog X.w X.K X.mg X.base CX k f fd ps sp)(hr:fD (k+1) X.A)(hg:Gl X x)(hm:X.mg x=some (.ref C))(hb:Binds X.K fd ps ds)(hd:Vals c5 ds)(hx:Passes CX X E)
 (ha:PA X (e::es) t)(cc:(x==("__debug__":Str))=false:=by decide)(he:starEach (e::es) X.env=(false,eval e X.env)::starEach es X.env:=by rfl)(bg:(backTo pos (starEach es X.env)).any (·.1)=false:=by rfl) :
  PE X (.Call (.Name x p) (e::es) [] pos) (aiU C sp c5 E t):=by
 intro aa s σ H Q I h;refine wpAny_Call_Name_kw (FN I hg hm ?_ cc);refine callWith_K (h₀:=X.base) I.ok.mod.kin M.kp (thn (ha pos aa s σ H _ I h) λus s1 ⟨vs,H1,I1,r,q⟩=>⟨I1.kIn,?_⟩) he bg;exact Zf M F hr hb hd hx I1 r q
end
structure bL(N P:Φ)(sc:Scope):Prop where
 kind:sc.kind=.function
 co:sc.isCoroutine=false
 gen:sc.isGenerator=false
 nd:N.Nodup
 pre:N.take P.length=P
 par:∀x∈P,sc.names.lookup x=some .local\/sc.names.lookup x=some .cell
 nofree:∀y∈sc.names,y.2≠.free
theorem Kl{kindOf:Str->Option NameKind}{x:Str} : ∀{binds:List (Str×Value)}{m:Str->Ω},(∀v,(x,v)∉binds)->bindL kindOf binds m x=m x
 |[],_,_=>rfl
 |(n,v)::r,m,h=>by
  unfold bindL;rw[Kl λw hw=>h w (aJ _ hw)];split
  .have:x≠n:=by rintro rfl;exact h v aO
   simp[this]
  .rfl
theorem Ka{kindOf:Str->Option NameKind}{x:Str} : ∀{binds:List (Str×Value)}{m:Str->Ω},(∀v,(x,v)∉binds)->bindC kindOf binds m x=m x
 |[],_,_=>rfl
 |(n,v)::r,m,h=>by
  unfold bindC;rw[Ka λw hw=>h w (aJ _ hw)];split
  .rfl
  .have:x≠n:=by rintro rfl;exact h v aO
   simp[this]
theorem KN{kindOf:Str->Option NameKind}{x:Str}{v:Value} : ∀{P:Φ}{vs:Θ}{i:Nat}{m:Str->Ω},P.Nodup->P[i]?=some x->vs[i]?=some v->kindOf x=some .local ->
  bindL kindOf (P.zip vs) m x=some v
 |[],_,_,_,_,h,_,_=>by simp at h
 |_::_,[],_,_,_,_,h,_=>by simp at h
 |p::P,w::vs,0,m,nd,h1,h2,hk=>by
  simp at h1 h2;subst h1;subst h2;show bindL kindOf ((p,w)::P.zip vs) m p=_;unfold bindL;rw[Kl λv hv=>(List.nodup_cons.mp nd).1 (VQ hv).1,ZY hk];simp
 |p::P,w::vs,i+1,m,nd,h1,h2,hk=>by
  show bindL kindOf ((p,w)::P.zip vs) m x=_;unfold bindL;exact KN (i:=i) (List.nodup_cons.mp nd).2 (by simpa using h1) (by simpa using h2) hk
theorem KC{kindOf:Str->Option NameKind}{x:Str}{v:Value} : ∀{P:Φ}{vs:Θ}{i:Nat}{m:Str->Ω},P.Nodup->P[i]?=some x->vs[i]?=some v->kindOf x≠some .local ->
  bindC kindOf (P.zip vs) m x=some v
 |[],_,_,_,_,h,_,_=>by simp at h
 |_::_,[],_,_,_,_,h,_=>by simp at h
 |p::P,w::vs,0,m,nd,h1,h2,hk=>by
  simp at h1 h2;subst h1;subst h2;show bindC kindOf ((p,w)::P.zip vs) m p=_;unfold bindC;rw[Ka λv hv=>(List.nodup_cons.mp nd).1 (VQ hv).1,ZZ hk];simp
 |p::P,w::vs,i+1,m,nd,h1,h2,hk=>by
  show bindC kindOf ((p,w)::P.zip vs) m x=_;unfold bindC;exact KC (i:=i) (List.nodup_cons.mp nd).2 (by simpa using h1) (by simpa using h2) hk
noncomputable def start(N:Φ)(vs:Ζ):St:=vs.map some++List.replicate (N.length-vs.length) none
def Ov(CX:CXT)(P:Program)(w:World)(K:Frag)(mg:Str->Ω)(base:Heap)(N:Φ)(ai:Str)(scope:Scope)(f:Addr)(cd:Value)(A:Around)(outer:List Env)(s:Shared)(H:Hp)(E:XK):Cx where
 prog:=P
 w:=w
 K:=K
 mg:=mg
 base:=base
 A:=A.deeper (envOfC ai scope s.heap.objs.size f cd)
 N:=N
 s₀:=s
 H₀:=H
 env:=envOfC ai scope s.heap.objs.size f cd
 outer:=outer
 stack:=envOfC ai scope s.heap.objs.size f cd::outer
 ex:=[]
 calm:=true
 fn:=λ_=>true
 pn:=[]
 xe:=λe s'=>wpAny (model P w) (A.deeper (envOfC ai scope s.heap.objs.size f cd)) (leaving (envOfC ai scope s.heap.objs.size f cd) e) (λ_ kr=>CX outer H s E e kr) (λe' kr=>CX outer H s E e' kr) s'
theorem R0{sc:Scope}{n:Nat}{x:Str}(h:sc.names.lookup x=some .cell):∃c,(cellsFrom n sc.names []).lookup x=some c:=by
 have q:=PySem.W.cellsFrom_some sc.names n [] (.inl h);exact Option.isSome_iff_exists.mp q
theorem Xx{CX:CXT}{P:Program}{w:World}{K:Frag}{mg:Str->Ω}{base:Heap}{N ps:Φ}{ai:Str}{scope:Scope}{f:Addr}{cd:Value}{A:Around}{outer:List Env}{s s1:Shared}{H:Hp}{E:XK}{us:Θ}{vs:Ζ}
 (S:bL N ps scope)(hd:A.handled=none)(e0:Ru P w K mg base A outer s H)(hl:vs.length=ps.length)(r:Vals vs us)
 (x:InCallC s s.heap.objs.size (bindL (envOfC ai scope s.heap.objs.size f cd).kindOf (ps.zip us) λ_=>none) (cellsFrom (s.heap.objs.size+1) scope.names []) (bindC (envOfC ai scope s.heap.objs.size f cd).kindOf (ps.zip us) λ_=>none) s1) :
  Inv (Ov CX P w K mg base N ai scope f cd A outer s H E) [] (start N vs) H s1:=by
 have bg:ps.length<=N.length:=by have:=ZH List.length S.pre;rw[aY]at this;lia
 obtain⟨h1,tk,rfl,hk⟩:=x.done;have ic:∀b:Addr,b∉(Ov CX P w K mg base N ai scope f cd A outer s H E).ex:=λb z=>absurd (show b∈([] : Ψ)from z) (by simp);refine⟨⟨e0.mod,S.kind,rfl,rfl,aG _,λy z c h1 h2=>?_,λy hy=>?_,λy c _ h=>?_,λ_=>hd,Around.frames_deeper e0.frames,.inr ⟨rfl,rfl⟩,λb z=>absurd z (ic b),e0.bs,e0.bsz,λb _ _=>ic b,λb z=>absurd z (ic b),e0.funs,e0.frf⟩,
  rfl,e0.bare,Un.kept hk,⟨_,x.toInCall.ns,λi y v h1 h2 h3=>?_⟩,λy c h=>⟨_,x.cell y c h⟩,e0.hok.fresh (aG _),λy c h=>?_,λp hp=>absurd (show p∈([] : Δ)from hp) (by simp),e0.hok.kept hk,?_⟩
 .exact name_of_addr x.apart (PySem.mem_of_lookup h1) (PySem.mem_of_lookup h2)
 .have hy:scope.names.lookup y=some .cell\/scope.names.lookup y=some .free:=hy;rcases hy with hy|hy
  .exact R0 hy
  .exact absurd rfl (S.nofree _ (PySem.mem_of_lookup hy))
 .exact Y2 (x.above y c (PySem.mem_of_lookup h))
 .have hi:i<vs.length:=by
   unfold start at h2;by_cases hi:i<vs.length
   .exact hi
   .rw[aD (by simpa using hi)]at h2;rw[X0]at h2;split at h2<;>cases h2
  have ha:vs[i]?=some v:=by
   unfold start at h2;rw[aF (by simpa using hi),aq]at h2;cases e:vs[i]? with
   |none=>rw[e]at h2;cases h2
   |some a=>rw[e]at h2;cases h2;rfl
  obtain⟨u,hu,rv⟩:=r.get ha;have hp:ps[i]?=some y:=by
   rw[<- S.pre,List.getElem?_take_of_lt (aR hi (WG hl))];exact h1
  have ndP:ps.Nodup:=by rw[<- S.pre];exact S.nd.sublist (List.take_sublist _ _)
  refine⟨u,rv,?_⟩;rcases S.par y (aC hp)with k|k
  .exact .inl ⟨k,KN ndP hp hu k⟩
  .obtain⟨c,e⟩:=R0 (n:=s.heap.objs.size+1) k;refine .inr ⟨.inl k,c,e,?_⟩;have q:=x.cell y c e;rw[KC ndP hp hu (by show scope.names.lookup y≠_;rw[k];decide)]at q;exact q
 .exact e0.hok.fresh (Y2 (x.above y c (PySem.mem_of_lookup h)))
 .unfold start;show _=N.length;rw[aA,ak,aN];lia
theorem aja{CX:CXT}{P:Program}{w:World}{K:Frag}{mg:Str->Ω}{base:Heap}{k:Nat}{f:Addr}{name ai:Str}{eS:Arguments}{b6:List Stmt}{scope:Scope}{dV kV bv pm ag ct oc:Value}{an od:Ξ}
 {dP:Array (Ω)}{N ps:Φ}{sp:Sp}(lk:K.lookup f=some ⟨oc,od,.func (PySem.W.fnOf name ai eS b6 scope dV kV bv pm an ag ct),dP⟩)(be:codeIn K ag ai=true)(S:bL N ps scope)
 (len:∀vs H Q E,sp vs H Q E->vs.length=ps.length)
 (ce:∀(A:Around)(outer:List Env)(s:Shared)(H:Hp)(vs:Ζ)(Q:VK)(E:XK),fD k (A.deeper (envOfC ai scope s.heap.objs.size f ag))->sp vs H Q E ->
   ∃t,PSs (Ov CX P w K mg base N ai scope f ag A outer s H E) b6 t/\t { nx:=λ_ H'=>Q .non H',rt:=Q } (start N vs) H) :
  cj P w K mg base CX (k+1) f (PySem.W.fnOf name ai eS b6 scope dV kV bv pm an ag ct) ps sp:=by
 refine⟨len,λA outer s H args us vs Q E hr e0 hb r f6=>?_⟩;have hl:=len _ _ _ _ f6;have KX:K.In s.heap:=e0.mod.kin.keeps λb o e=>(e0.bs b o e).1;have lim:s.heap.NoLimit:=e0.mod.nolimit.keeps λb o e=>(e0.bs b o e).1;have cf:∀y∈ps.zip us,scope.names.lookup y.1=some .local\/(scope.names.lookup y.1=some .cell/\((cellsFrom (s.heap.objs.size+1) scope.names []).lookup y.1).isSome=true):=λ⟨n,v⟩ hy=>by
  rcases S.par n (VQ hy).1 with q|q
  .exact .inl q
  .exact .inr ⟨q,PySem.W.cellsFrom_some _ _ _ (.inl q)⟩
 refine codeAny_call_function hr.depth (KX _ _ lk) rfl S.co S.gen rfl (PySem.W.codeRec_of KX be) (hb _ _ _ _ ?_);refine wpAny_newFunctionEnv_cells S.kind cf λenv he s1 x=>?_;subst he;refine⟨lim.keeps x.toInCall.keep,codeAny_func ?_⟩;obtain⟨t,ht,hq⟩:=ce A outer s H vs Q E (hr.deeper _) f6;have I:Inv (Ov CX P w K mg base N ai scope f ag A outer s H E) [] (start N vs) H s1:=Xx S hr.hd e0 hl r x;refine wpAny_mono (ht [] s1 (start N vs) H _ I hq) (λfl s' hs=>?_) λe s' hs=>hs;have br:∀{σ':St}{H':Hp}{v:V}{u:Value},Inv (Ov CX P w K mg base N ai scope f ag A outer s H E) [] σ' H' s'->RelV v u->Q v H'->CE outer P w H s Q u s' :=
  λ{σ' H' v u}J rv q=>⟨v,H',J.os,J.bare,J.base,J.hok,rv,q⟩
 cases fl with
 |ret u =>
  obtain⟨v,σ',H',J,rv,q⟩:=hs;exact br J rv q
 |next =>
  obtain⟨σ',H',J,q⟩:=hs;exact br (v:=V.non) (u:=Value.none) J rfl q
 |brk =>
  obtain⟨_,_,_,q⟩:=hs;exact False.elim q
 |cont =>
  obtain⟨_,_,_,q⟩:=hs;exact False.elim q
section
variable{X:Cx}{x:Str}{p pos:Pos}{e:Expr}{es:List Expr}{t:TA}{id T:String}{r:Ζ->Hp->VK->Prop}
def tCB(r:Ζ->Hp->VK->Prop)(t:TA):TE:=λσ H Q=>t σ H λvs H1=>r vs H1 Q
theorem Pu(hc:jt X (.builtin id) r)(hg:Gl X x)(hm:X.mg x=none)(hv:bootBuiltins x=some (.builtin id))(ha:PA X (e::es) t)(hn:x≠"__name__":=by decide)(cc:(x==("__debug__":Str))=false:=by decide)
 (he:starEach (e::es) X.env=(false,eval e X.env)::starEach es X.env:=by rfl)(bg:(backTo pos (starEach es X.env)).any (·.1)=false:=by rfl):PE X (.Call (.Name x p) (e::es) [] pos) (tCB r t):=by
 intro aa s σ H Q I h;refine wpAny_Call_Name_kw (za I hg hm hv ?_ hn cc);exact PyProof.Rows.callWith_builtin1 (thn (ha pos aa s σ H _ I h) λus s1 hP=>by obtain⟨vs,H1,I1,r1,q1⟩:=hP;exact hc aa s1 σ H1 vs us Q I1 r1 q1) he bg
theorem XR(hc:jt X (.type T) r)(hg:Gl X x)(hm:X.mg x=none)(hv:bootBuiltins x=some (.type T))(ha:PA X (e::es) t)(hn:x≠"__name__":=by decide)(cc:(x==("__debug__":Str))=false:=by decide)
 (he:starEach (e::es) X.env=(false,eval e X.env)::starEach es X.env:=by rfl)(bg:(backTo pos (starEach es X.env)).any (·.1)=false:=by rfl):PE X (.Call (.Name x p) (e::es) [] pos) (tCB r t):=by
 intro aa s σ H Q I h;refine wpAny_Call_Name_kw (za I hg hm hv ?_ hn cc);exact PyProof.Rows.callWith_type1 (thn (ha pos aa s σ H _ I h) λus s1 hP=>by obtain⟨vs,H1,I1,r1,q1⟩:=hP;exact hc aa s1 σ H1 vs us Q I1 r1 q1) he bg
end
end L2
namespace HT
open PySem PyProof.Rows
section
variable{prog:Program}{w:World}{A:Around}{E:Ε}{s:Shared}
noncomputable def sIx(n d:Nat):Option Int->Nat
 |none=>d
 |some v=>if v<0 then(v+(n:Int)).toNat else min v.toNat n
theorem xX(n d k:Nat):sIx n d (some (k:Int))=min k n:=by
 show(if(k:Int)<0 then((k:Int)+(n:Int)).toNat else min (k:Int).toNat n)=min k n;rw[ZZ (Int.not_lt_of_ge (Wp _)),Zyv]
theorem ae7(n d:Nat)(hd:d<=n)(o:Option Int):sIx n d o<=n:=by
 cases o with
 |none=>exact hd
 |some v =>
  show(if v<0 then(v+(n:Int)).toNat else min v.toNat n)<=n;by_cases hv:v<0
  .rw[ZY hv];lia
  .rw[ZZ hv];exact Nat.min_le_right _ _
end
end HT
namespace L2
open PySem PySem.Spec PyProof.Rows
abbrev TO:=St->Hp->(Option Int->Hp->Prop)->Prop
def PO(X:Cx)(e:Option Expr)(t:TO):Prop :=
 ∀(aa:Δ)(s:Shared)(σ:St)(H:Hp)(Q:Option Int->Hp->Prop),Inv X aa σ H s->t σ H Q ->
  wpAny (model X.prog X.w) X.A (evalPart e X.env) (λu s'=>∃o H',Inv X aa σ H' s'/\IsPart u o/\Q o H') X.xe s
def adB:TO:=λ_ H Q=>Q none H
def aiY(t:TE):TO:=λσ H Q=>t σ H λx H1=>∃i,x=.int i/\Q (some i) H1
theorem intsAre_of{ns:List Int} : ∀{us:Θ},Vals (ns.map V.int) us->IntsAre us ns:=by
 induction ns with
 |nil=>intro us r;rw[List.map_nil]at r;cases r;exact .nil
 |cons n ns ih =>
  intro us r;rw[List.map_cons]at r;cases r with
  |cons r1 r2 =>
   obtain⟨t,e⟩:=r1;subst e;exact .cons n t (ih r2)
section
variable{X:Cx}{e:Expr}{te:TE}{lo hi:Option Expr}{tl th:TO}{pos p2:Pos}
theorem adh:PO X none adB:=by
 intro aa s σ H Q I h;rw[evalPart_none];exact ZT ⟨none,H,I,.none,h⟩
theorem ac9(h:PE X e te):PO X (some e) (aiY te):=by
 intro aa s σ H Q I hw;rw[evalPart_some];refine thn (h aa s σ H _ I hw) λu s1 hP=>?_;obtain⟨x,H1,I1,r1,q1⟩:=hP;obtain⟨i,rfl,q⟩:=q1;obtain⟨t,rfl⟩:=r1;exact⟨some i,H1,I1,.int i t,q⟩
def SlR(X:Cx)(r:V->Option Int->Option Int->Hp->VK->Prop):Prop :=
 ∀(aa:Δ)(s:Shared)(σ:St)(H:Hp)(x:V)(v vl vu:Value)(lo hi:Option Int)(sl:Addr)(Q:VK),Inv X aa σ H s->RelV x v->s.heap.IsSliceOf sl vl vu .none->IsPart vl lo->IsPart vu hi->r x lo hi H Q ->
  ∃T id,typeLookup (.type T) "__getitem__"=pure (some (.builtin id))/\s.TypeIs v T/\wpAny (model X.prog X.w) X.A (getItem v (.ref sl)) (EP X aa σ Q) X.xe s
theorem SlR.or{r r':V->Option Int->Option Int->Hp->VK->Prop}(h:SlR X r)(h':SlR X r'):SlR X (λx lo hi H Q=>r x lo hi H Q\/r' x lo hi H Q):=by
 intro aa s σ H x v vl vu lo hi sl Q I rx hs pl pu q;rcases q with q|q
 .exact h aa s σ H x v vl vu lo hi sl Q I rx hs pl pu q
 .exact h' aa s σ H x v vl vu lo hi sl Q I rx hs pl pu q
def tSl(r:V->Option Int->Option Int->Hp->VK->Prop)(te:TE)(tl th:TO):TE:=λσ H Q=>te σ H λx H1=>tl σ H1 λl H2=>th σ H2 λu H3=>r x l u H3 Q
theorem Zu{r:V->Option Int->Option Int->Hp->VK->Prop}(hr:SlR X r)(he:PE X e te)(hl:PO X lo tl)(hu:PO X hi th):PE X (.Subscript e (.Slice lo hi none p2) pos) (tSl r te tl th):=by
 intro aa s σ H Q I h;refine Subscript_ (thn (he aa s σ H _ I h) λv s1 hP=>?_);obtain⟨x,H1,I1,r1,q1⟩:=hP;refine wpAny_Slice (thn (hl aa s1 σ H1 _ I1 q1) λvl s2 ⟨l,H2,I2,pl,q2⟩=>thn (hu aa s2 σ H2 _ I2 q2) λvu s3 hP=>?_);obtain⟨u,H3,I3,pu,q3⟩:=hP;rw[evalPart_none];refine ZT ?_;have I4:Inv X aa σ H3 { s3 with heap:=s3.heap.push { cls:=.type "slice",data:=.fields #[vl,vu,.none] } }:=I3.kept (t':=s3.toks) λb ob q=>aH _ q;obtain⟨T,id,hT,ht,hg⟩:=hr aa { s3 with heap:=s3.heap.push { cls:=.type "slice",data:=.fields #[vl,vu,.none] } } σ H3 x v vl vu l u s3.heap.objs.size Q I4 r1 (Heap.IsSliceOf.new ..) pl pu q3;show wpAny (model X.prog X.w) X.A (subscriptTail e (.Slice lo hi none p2) v (.ref s3.heap.objs.size)) (EP X aa σ Q) X.xe { s3 with heap:=s3.heap.push { cls:=.type "slice",data:=.fields #[vl,vu,.none] } };exact tail_any (ops:=[.ref s3.heap.objs.size,v]) ht hT hg (by with_unfolding_all rfl)
noncomputable def Xf(xs:Ζ)(lo hi:Option Int):Ζ:=(xs.drop (HT.sIx xs.length 0 lo)).take (HT.sIx xs.length xs.length hi-HT.sIx xs.length 0 lo)
theorem Qm(xs:Ζ)(lo hi:Option Int):(Xf xs lo hi).length<=xs.length:=by
 unfold Xf;rw[aY,TW];lia
end
noncomputable def ixN(n:Nat)(i:Int):Option Nat:=if 0<=i then(if i<n then some i.toNat else none)else if -(n:Int)<=i then some (i+n).toNat else none
def atI{α:Type}(xs:List α)(i:Int):Option α:=(ixN xs.length i).bind λj=>xs[j]?
theorem VD{n:Nat}{i:Int}{j:Nat}(h:ixN n i=some j):seqIndex? i n=some j/\j<n/\-(n:Int)<=i/\i<n:=by
 unfold ixN at h;by_cases h0:0<=i
 .rw[ZY h0]at h;by_cases h1:i<n
  .rw[ZY h1]at h;have e:i.toNat=j:=Option.some.inj h;exact⟨by rw[seqIndex_of h0 h1,e],by lia,by lia,h1⟩
  .rw[ZZ h1]at h;cases h
 .rw[ZZ h0]at h;by_cases h1 : -(n:Int)<=i
  .rw[ZY h1]at h;have e:(i+n).toNat=j:=Option.some.inj h;exact⟨by rw[seqIndex_neg (Q2 h0) h1,e],by lia,h1,by lia⟩
  .rw[ZZ h1]at h;cases h
theorem Nm{α:Type}{xs:List α}{i:Int}{v:α}(h:atI xs i=some v):∃j,seqIndex? i xs.length=some j/\xs[j]?=some v/\j<xs.length/\-(xs.length:Int)<=i/\i<xs.length:=by
 unfold atI at h;cases e:ixN xs.length i with
 |none=>rw[e]at h;cases h
 |some j =>
  rw[e]at h;obtain⟨h1,h2,h3,h4⟩:=VD e;exact⟨j,h1,h,h2,h3,h4⟩
def ug(b:Expr):Prop:=∀o i,subscripted b false o i=operate [o,i] (getItem o i)
def IxR(X:Cx)(r:R2):Prop :=
 ∀(az bi:Expr)(aa:Δ)(s:Shared)(σ:St)(H:Hp)(x y:V)(v u:Value)(Q:VK),Inv X aa σ H s->RelV x v->RelV y u->r x y H Q ->
  subscripted bi false v u=operate [v,u] (getItem v u)->wpAny (model X.prog X.w) X.A (subscriptTail az bi v u) (EP X aa σ Q) X.xe s
def MtR(X:Cx)(id:String)(r:V->Ζ->Hp->VK->Prop):Prop :=
 ∀(aa:Δ)(s:Shared)(σ:St)(H:Hp)(x:V)(xs:Ζ)(v:Value)(us:Θ)(Q:VK),Inv X aa σ H s->RelV x v->Vals xs us->r x xs H Q ->
  wpAny (model X.prog X.w) X.A (call (.builtin id) (v::us)) (EP X aa σ Q) X.xe s
section
variable{X:Cx}{a b:Expr}{ta tb:TE}{pos:Pos}
theorem IxR.or{r r':R2}(h:IxR X r)(h':IxR X r'):IxR X (λx y H Q=>r x y H Q\/r' x y H Q):=by
 intro az bi aa s σ H x y v u Q I rx ry q hs;rcases q with q|q
 .exact h az bi aa s σ H x y v u Q I rx ry q hs
 .exact h' az bi aa s σ H x y v u Q I rx ry q hs
theorem KD{r:R2}(hr:IxR X r)(ha:PE X a ta)(hb:PE X b tb)(hs:ug b):PE X (.Subscript a b pos) (tOp r ta tb):=by
 intro aa s σ H Q I h;exact Subscript_ (afv ha hb I h λv u s2 x y H2 I2 rx ry q=>hr a b aa s2 σ H2 x y v u Q I2 rx ry q (hs _ _))
def alM(K:Frag):R2:=λx y H Q=>∃p xs i v,x=.ref p/\y=.int i/\SqL K H p xs/\atI xs i=some v/\Q v H
def alG(K:Frag):R2:=λx y H Q=>∃p xs i v,x=.ref p/\y=.int i/\SqT K H p xs/\atI xs i=some v/\Q v H
def am3:R2:=λx y H Q=>∃z i c,x=.str z/\y=.int i/\z.length<=sizeLine/\atI z.cps.toList i=some c/\Q (.str ⟨#[c]⟩) H
theorem yj:IxR X (alM X.K):=by
 intro az bi aa s σ H x y v u Q I rx ry h hs;obtain⟨p,xs,i,z,rfl,rfl,hq,he,q⟩:=h;cases rx;obtain⟨t,rfl⟩:=ry;obtain⟨its,r,pl,hz⟩:=I.list hq;obtain⟨j,h1,h2,h3,h4,h5⟩:=Nm he;obtain⟨w,ew,eR⟩:=r.get h2;have hl:=r.length;have hn:=wW;have br:EP X aa σ Q w s:=⟨z,H,I,eR,q⟩;by_cases h0:0<=i
 .have hj:i.toNat=j:=by
   rw[seqIndex_of h0 h5]at h1;exact Option.some.inj h1
  exact item_listR pl.isList h0 (by lia) (by rw[hj];simpa using ew) br hs
 .have hj:(i+(its.toArray.size:Int)).toNat=j:=by
   rw[seqIndex_neg (Q2 h0) h4]at h1;rw[aX,<- hl];exact Option.some.inj h1
  exact subscriptTail_builtinR (x:=w) pl.isList.typeIs slot_list_getitem.lookup
   (wpAny_getItem_list_neg (Q:=λr s'=>r=w/\EP X aa σ Q r s') pl.isList (Q2 h0) (by rw[aX]<;>lia) (by lia) (by rw[hj];simpa using ew) ⟨rfl,br⟩) hs
theorem af0:IxR X (alG X.K):=by
 intro az bi aa s σ H x y v u Q I rx ry h hs;obtain⟨p,xs,i,z,rfl,rfl,hq,he,q⟩:=h;cases rx;obtain⟨t,rfl⟩:=ry;obtain⟨its,r,pl,hz⟩:=I.tuple hq;obtain⟨j,h1,h2,h3,h4,h5⟩:=Nm he;obtain⟨w,ew,eR⟩:=r.get h2;have hl:=r.length;have hn:=wW;have br:EP X aa σ Q w s:=⟨z,H,I,eR,q⟩;exact subscriptTail_builtinR (x:=w) pl.typeIs slot_tuple_getitem.lookup
  (getItem_tuple (j:=j) (Q:=λr s'=>r=w/\EP X aa σ Q r s') pl (by lia) (by lia) (by rw[aX,<- hl];exact h1) (by simpa using ew) ⟨rfl,br⟩) hs
theorem aez:IxR X am3:=by
 intro az bi aa s σ H x y v u Q I rx ry h hs;obtain⟨z,i,c,rfl,rfl,hz,he,q⟩:=h;obtain⟨t,rfl⟩:=rx;obtain⟨t',rfl⟩:=ry;obtain⟨j,h1,h2,h3,h4,h5⟩:=Nm he;have hl:z.cps.toList.length=z.length:=by simp[Str.length]
 rw[hl]at h1 h4 h5;have hn:=wW;exact tail_any (typeIs_str s z t) slot_str_getitem.lookup (getItem_str (c:=c) (by
  have e1:decide (i < -(2^63:Int))=false:=Zp (by lia);have e2:decide (i>=2^63)=false:=Zp (by lia);rw[e1,e2,Bool.or_false]) (by rw[h1];simpa using h2) ⟨.str ⟨#[c]⟩,H,I.tok _,⟨_,rfl⟩,q⟩) hs
theorem Tr(its:Θ)(n j:Nat)(u:Value):Obj.mapSeq (·.setIfInBounds j u) { cls:=.type "list",data:=.seq its.toArray n }={ cls:=.type "list",data:=.seq (its.set j u).toArray n }:=by
 simp[Obj.mapSeq]
theorem Inv.lst{aa:Δ}{σ:St}{H:Hp}{s:Shared}{p:Addr}{xs:Ζ}(I:Inv X aa σ H s)(h:H p=some (.lst xs)) :
  ∃(its:Θ)(n:Nat),Vals xs its/\s.heap.get? p=some { cls:=.type "list",data:=.seq its.toArray n }/\xs.length<=sizeLine:=by
 obtain⟨z,its,n,r,e⟩:=I.hok p _ h;exact⟨its,n,r,e,z⟩
theorem Inv.lstUpd{aa:Δ}{σ:St}{H:Hp}{s:Shared}{p:Addr}{xs ys:Ζ}{its its':Θ}{n n':Nat}{f:Obj->Obj}(I:Inv X aa σ H s)(h:H p=some (.lst xs))
 (ho:s.heap.get? p=some { cls:=.type "list",data:=.seq its.toArray n })(hf:f { cls:=.type "list",data:=.seq its.toArray n }={ cls:=.type "list",data:=.seq its'.toArray n' })(r:Vals ys its')(hz:ys.length<=sizeLine)(t:Nat) :
  Inv X aa σ (upd H p (.lst ys)) { s with heap:=s.heap.update p f,toks:=t }:=by
 have e:(s.heap.update p f).get? p=some { cls:=.type "list",data:=.seq its'.toArray n' }:=by
  rw[Heap.get?_update_self f ho (by rw[hf]<;>rfl),hf]
 refine I.write (x:=p) (e:=p) (by rw[h];trivial) (.inl rfl) (λb u hb q=>(Heap.get?_update_other _ _ (Ne.symm hb)).trans q) ⟨_,e⟩ ?_;exact⟨hz,its',n',r,e⟩
def aiH:V->V->V->Hp->(Hp->Prop)->Prop:=λo i v H Q=>∃p xs k j,o=.ref p/\i=.int k/\H p=some (.lst xs)/\ixN xs.length k=some j/\Q (upd H p (.lst (xs.set j v)))
theorem set_list:ajp X aiH:=by
 intro aa s σ H o i v ov iv u Q I ro ri rv h;obtain⟨p,xs,k,j,rfl,rfl,hp,hj,q⟩:=h;cases ro;obtain⟨t,rfl⟩:=ri;obtain⟨its,n,r,ho,hz⟩:=I.lst hp;obtain⟨h1,h2,h3,h4⟩:=VD hj;have hl:=r.length;have hn:=wW;have I':Inv X aa σ (upd H p (.lst (xs.set j v))) { s with heap:=s.heap.update p (Obj.mapSeq (·.setIfInBounds j u)) } :=
  I.lstUpd hp ho (Tr its n j u) (r.set rv j) (by rw[VS];exact hz) s.toks
 by_cases h0:0<=k
 .have hk:k.toNat=j:=by
   rw[seqIndex_of h0 h4]at h1;exact Option.some.inj h1
  exact PySem.W.ki_setAt ho h0 (by lia) (by rw[aX,<- hl];exact h4) (by rw[hk];exact⟨_,I',q⟩)
 .have hk:(k+(its.toArray.size:Int)).toNat=j:=by
   rw[seqIndex_neg (Q2 h0) h3]at h1;rw[aX,<- hl];exact Option.some.inj h1
  exact PySem.W.ki_setBack ho (Q2 h0) (by rw[aX,<- hl];exact h3) (by lia) (by rw[hk];exact⟨_,I',q⟩)
theorem OJ(lo hi:Option Int)(n:Nat):(sliceBounds lo hi none n).1=((HT.sIx n 0 lo:Nat):Int)/\(sliceBounds lo hi none n).2.1=((HT.sIx n n hi:Nat):Int)/\(sliceBounds lo hi none n).2.2=1:=by
 refine⟨?_,?_,rfl⟩
 .cases lo with
  |none=>simp[sliceBounds,HT.sIx]
  |some i =>
   simp only[sliceBounds,HT.sIx,Option.getD_none,show(1:Int)>0 by decide,if_true];by_cases h:i<0
   .simp only[h,if_true]<;>lia
   .simp only[h,if_false]<;>lia
 .cases hi with
  |none=>simp[sliceBounds,HT.sIx]
  |some i =>
   simp only[sliceBounds,HT.sIx,Option.getD_none,show(1:Int)>0 by decide,if_true];by_cases h:i<0
   .simp only[h,if_true]<;>lia
   .simp only[h,if_false]<;>lia
theorem JT(its:Θ)(lo hi:Option Int):slicePick its.toArray lo hi none=((its.drop (HT.sIx its.length 0 lo)).take (HT.sIx its.length its.length hi-HT.sIx its.length 0 lo)).toArray:=by
 obtain⟨h1,h2,h3⟩:=OJ lo hi its.toArray.size;unfold slicePick;rw[h1,h2,h3];simp only[sliceRange_one,pick_run,aX]<;>rfl
def amo(K:Frag):V->Option Int->Option Int->Hp->VK->Prop:=λx lo hi H Q=>∃a xs,x=.ref a/\SqL K H a xs/\∀p,H p=none->Q (.ref p) (upd H p (.lst (Xf xs lo hi)))
theorem ade:SlR X (amo X.K):=by
 intro aa s σ H x v vl vu lo hi sl Q I rx hs pl pu h;obtain⟨a,xs,rfl,hx,q⟩:=h;cases rx;obtain⟨its,r,ht,hz⟩:=I.list hx;have aI:=r.length;refine⟨"list",_,slot_list_getitem.lookup,ht.isList.typeIs,?_⟩;refine wpAny_getItem_list_slice ht.isList hs pl pu .none (by simp) ?_ (by rw[aX]<;>lia);rw[JT,<- aI];refine⟨.ref s.heap.objs.size,_,I.laid (t':=s.toks) (o:=.lst (Xf xs lo hi)) (λb ob q=>aH _ q) (aG _) ?_,rfl,q _ (I.hok.fresh (aG _))⟩;exact⟨aL (Qm xs lo hi) hz,_,0,(r.drop (HT.sIx xs.length 0 lo)).take (HT.sIx xs.length xs.length hi-HT.sIx xs.length 0 lo),aW _ rfl⟩
noncomputable def eqV:V->V->Bool
 |.non,.non=>true
 |.bl a,.bl b=>a==b
 |.bl a,.int b=>(if a then 1 else 0)==b
 |.int a,.bl b=>a==(if b then 1 else 0)
 |.int a,.int b=>a==b
 |.str a,.str b=>a==b
 |_,_=>false
theorem Ny:jt X (.builtin "len") (λxs H Q=>∃p ys,xs=[.ref p]/\(SqL X.K H p ys\/SqT X.K H p ys)/\Q (.int ys.length) H):=by
 intro aa s σ H xs us Q I r h;obtain⟨p,ys,rfl,hq,q⟩:=h;obtain⟨u,rfl,rx⟩:=vals1 r;cases rx;have hn:=wW;rcases hq with hq|hq
 .obtain⟨its,r',pl,hz⟩:=I.list hq;have aI:=r'.length;exact Calls.call_len_list pl.isList (by simp only[aX]<;>lia) ⟨.int ys.length,H,I.tok _,⟨s.toks+1,by rw[aX,aI]⟩,q⟩
 .obtain⟨its,r',pl,hz⟩:=I.tuple hq;have aI:=r'.length;exact len_tuple pl (by simp only[aX]<;>lia) ⟨.int ys.length,H,I.tok _,⟨s.toks+1,by rw[aX,aI]⟩,q⟩
theorem Od:jt X (.builtin "len") (λxs H Q=>∃z,xs=[.str z]/\z.length<=sizeLine/\Q (.int z.length) H):=by
 intro aa s σ H xs us Q I r h;obtain⟨z,rfl,hz,q⟩:=h;obtain⟨u,rfl,t,rfl⟩:=vals1 r;have hn:=wW;exact len_str (by lia) ⟨.int z.length,H,I.tok _,⟨_,rfl⟩,q⟩
theorem Ot:jt X (.type "list") (λxs H Q=>∃p ys,xs=[.ref p]/\(SqL X.K H p ys\/SqT X.K H p ys)/\∀l,H l=none->Q (.ref l) (upd H l (.lst ys))):=by
 intro aa s σ H xs us Q I r h;obtain⟨p,ys,rfl,hq,q⟩:=h;obtain⟨u,rfl,rx⟩:=vals1 r;cases rx;have br:∀(its:Θ),Vals ys its->ys.length<=sizeLine->∀(h':Heap)(c':Nat),(∀b o',s.heap.get? b=some o'->h'.get? b=some o') ->
   h'.get? s.heap.objs.size=some { cls:=.type "list",dict:=none,data:=.seq its.toArray c',slots:=#[] }->EP X aa σ Q (.ref s.heap.objs.size) { s with heap:=h' }:=λits r' hz h' c' kp e =>
  ⟨.ref s.heap.objs.size,_,I.laid (t':=s.toks) kp (aG _) (show fZ X.prog X.w _ h' _ (.lst ys)from⟨hz,its,c',r',e⟩),rfl,q _ (I.hok.fresh (aG _))⟩
 rcases hq with hq|hq
 .obtain⟨its,r',pl,hz⟩:=I.list hq;have aI:=r'.length;obtain⟨o,ho,hc,n,hd⟩:=pl.isList;exact call_list_seq p (.inl rfl) ho hc hd (λh' c' kp e=>br its r' hz h' c' kp e) (by simp only[aX]<;>lia)
 .obtain⟨its,r',pl,hz⟩:=I.tuple hq;have aI:=r'.length;obtain⟨o,ho,hc,n,hd⟩:=pl;exact call_list_seq p (.inr rfl) ho hc hd (λh' c' kp e=>br its r' hz h' c' kp e) (by simp only[aX]<;>lia)
def tyV(K:Frag)(T:String)(x:V)(H:Hp):Prop:=match x with
 |.str _=>T="str"
 |.int _=>T="int"
 |.ref p=>(T="list"/\∃xs,SqL K H p xs)\/(T="tuple"/\∃o,K.lookup p=some o/\o.cls=.type "tuple"/\o.dict=none) \/
   (T="dict"/\(∃kvs,H p=some (.dK kvs)))\/(T="set"/\∃S n,H p=some (.set S n))
 |_=>False
theorem agd{aa:Δ}{σ:St}{H:Hp}{s:Shared}{T:String}{x:V}{v:Value}(I:Inv X aa σ H s)(r:RelV x v)(ty:tyV X.K T x H) :
  s.TypeIs v T/\∀a,v=.ref a->∃ob,s.heap.get? a=some ob/\ob.dict=none:=by
 cases x with
 |str z =>
  obtain⟨t,rfl⟩:=r;cases(show T="str" from ty);exact⟨typeIs_str s z t,λ_ e=>nomatch e⟩
 |int i =>
  obtain⟨t,rfl⟩:=r;cases(show T="int" from ty);exact⟨typeIs_int s i t,λ_ e=>nomatch e⟩
 |ref p =>
  cases r;rcases ty with⟨rfl,xs,hq⟩|⟨rfl,o,hk,hc,hd⟩|⟨rfl,hk⟩|⟨rfl,S,n,hk⟩
  .obtain⟨its,_,pl,_⟩:=I.list hq;refine⟨pl.isList.typeIs,λa e=>?_⟩;cases e;obtain⟨o,n,e,c,hd,_⟩:=pl;exact⟨o,e,hd⟩
  .refine⟨⟨o,I.kIn p o hk,hc⟩,λa e=>?_⟩;cases e;exact⟨o,I.kIn _ o hk,hd⟩
  .have z:∃o,s.heap.get? p=some o/\o.ExactDict:=by
    obtain⟨kvs,hk⟩:=hk;obtain⟨_,_,_,_,o,_,_,e,ex,_⟩:=I.hok p _ hk;exact⟨o,e,ex⟩
   obtain⟨o,e,ex⟩:=z;refine⟨⟨o,e,ex.1⟩,λa e2=>?_⟩;cases e2;exact⟨o,e,ex.2.1⟩
  .obtain⟨o,_,_,_,e,ex,_⟩:=I.hok p _ hk;refine⟨⟨o,e,ex.1⟩,λa e2=>?_⟩;cases e2;exact⟨o,e,ex.2.1⟩
 |_=>exact False.elim ty
def tBM(K:Frag)(T:String)(r:V->Ζ->Hp->VK->Prop)(to:TE)(t:TA):TE:=λσ H Q=>to σ H λx H1=>tyV K T x H1/\t σ H1 λxs H2=>r x xs H2 Q
variable{o e:Expr}{es:List Expr}{to:TE}{t:TA}{name:Str}{am af:Pos}{T id:String}{r:V->Ζ->Hp->VK->Prop}
theorem Yi(pa:PlainAttrs T)(slot:Slot T name id)(iq:typeOf (.builtin id)=pure (.type "method_descriptor"))(hm:MtR X id r)(ho:PE X o to)(ha:PA X (e::es) t)
 (i6:attributeBase o name X.env (eval o X.env)=eval o X.env:=by rfl)
 (k7:((backTo af (starEach (e::es) X.env)).all (λx=>!x.1)&&(backToKw af (keywordEach [] X.env)).all (λx=>x.1.isSome)
   && decide ((e::es).length+([] : List Keyword).length+(if([] : List Keyword).isEmpty then 0 else 1)<30))=true:=by rfl)
 (iP:(am.endLine==af.line)=true:=by rfl)(hs:starEach (e::es) X.env=(false,eval e X.env)::starEach es X.env:=by rfl)(gz:(backTo af (starEach es X.env)).any (·.1)=false:=by rfl) :
  PE X (.Call (.Attribute o name am) (e::es) [] af) (tBM X.K T r to t):=by
 intro aa s σ H Q I h;refine wpAny_Call_method_late i6 k7 iP rfl (thn (ho aa s σ H _ I h) λv s1 hP=>?_);obtain⟨x,H1,I1,r1,ty,q1⟩:=hP;obtain⟨h1,h2⟩:=agd I1 r1 ty;refine⟨T,id,pa,slot,iq,h1,h2,?_⟩;have hA:=ha af aa s1 σ H1 _ I1 q1;rw[hs]at hA ⊢;refine Calls.callWith_builtin (by show(false || (backTo af (starEach es X.env)).any (·.1))=false;rw[gz]<;>rfl) (Calls.evalArgs_plain ?_);exact thn hA λus s2 hP=>by obtain⟨vs,H2,I2,r2,q2⟩:=hP;exact hm aa s2 σ H2 x vs v us Q I2 r1 r2 q2

end
def MtM(X:Cx)(id:String)(r:V->Ζ->Hp->VK->Prop):Prop :=
 ∀(aa:Δ)(s:Shared)(σ:St)(H:Hp)(x:V)(xs:Ζ)(v:Value)(us:Θ)(Q:VK),Inv X aa σ H s->RelV x v->Vals xs us->r x xs H Q ->
  wpAny (model X.prog X.w) X.A (call (.builtin id) (v::us)) (EP X aa σ Q) X.xe s
theorem Vals.one:∀{x:V}{us:Θ},Vals [x] us->∃u,us=[u]/\RelV x u
 |_,_,.cons r .nil=>⟨_,rfl,r⟩
theorem Vals.two{x y:V}{us:Θ}(h:Vals [x,y] us):∃u v,us=[u,v]/\RelV x u/\RelV y v:=by
 cases h with|cons r t=>cases t with|cons q t=>cases t;exact⟨_,_,rfl,r,q⟩
theorem Vals.rep{xs:Ζ}{us:Θ}(h:Vals xs us):∀k:Nat,Vals (List.replicate k xs).flatten (List.replicate k us).flatten
 |0=>.nil
 |k+1=>by
  rw[List.replicate_succ,List.replicate_succ,List.flatten_cons,List.flatten_cons];exact Vals.append h (Vals.rep h k)
theorem foldl_rep(its:Θ):∀(k:Nat)(acc:Θ),
  List.foldl (λx1 x2=>x1++x2) acc.toArray (List.replicate k its.toArray)=(acc++(List.replicate k its).flatten).toArray
 |0,acc=>by simp
 |k+1,acc=>by
  have e:acc.toArray++its.toArray=(acc++its).toArray:=by simp
  have e2:(acc++its)++(List.replicate k its).flatten=acc++(List.replicate (k+1) its).flatten:=by
   rw[List.replicate_succ,List.flatten_cons,WZ]
  rw[<- e2,<- foldl_rep its k (acc++its),<- e,List.replicate_succ,List.foldl_cons]
section
variable{X:Cx}{aa:Δ}{σ:St}{H:Hp}{s:Shared}{l b:Addr}{xs ys zs:Ζ}
theorem Inv.lset{its its':Θ}{n:Nat}{f:Array Value->Array Value}{t':Nat}(I:Inv X aa σ H s)(hH:H l=some (.lst xs))
 (e:s.heap.get? l=some { cls:=.type "list",data:=.seq its.toArray n })(hf:f its.toArray=its'.toArray)(hv:Vals ys its')(hz:ys.length<=sizeLine) :
  Inv X aa σ (upd H l (.lst ys)) { s with heap:=s.heap.update l (Obj.mapSeq f),toks:=t' }:=by
 have q:=PySem.IsL.update e f;rw[hf]at q;refine I.write (x:=l) (e:=l) (by rw[hH];exact trivial) (.inl rfl) (λb' u hb hu=>(Heap.get?_update_other s.heap (Obj.mapSeq f) (Ne.symm hb)).trans hu) ⟨_,q⟩ ?_;exact⟨hz,its',_,hv,q⟩
theorem Inv.lnew{its:Θ}{t':Nat}(I:Inv X aa σ H s)(hv:Vals ys its)(hz:ys.length<=sizeLine) :
  Inv X aa σ (upd H s.heap.objs.size (.lst ys)) { s with heap:=s.heap.push { cls:=.type "list",data:=.seq its.toArray },toks:=t' } :=
 I.laid (λ_ _ q=>aH _ q) (aG _) ⟨hz,its,0,hv,aW _ rfl⟩
theorem Inv.fresh(I:Inv X aa σ H s):H s.heap.objs.size=none:=I.hok.fresh (aG _)
theorem Inv.lstM(I:Inv X aa σ H s)(hH:H l=some (.lst xs)):xs.length<=sizeLine/\∃(its:Θ)(n:Nat),Vals xs its/\xs.length=its.length/\s.heap.get? l=some { cls:=.type "list",data:=.seq its.toArray n }:=by
 obtain⟨z,its,n,r,e⟩:=I.hok l _ hH;exact⟨z,its,n,r,r.length,e⟩
theorem Z2{n:Nat}(h:n<=sizeLine):Builtin.List.listTooLong n=false:=by
 unfold Builtin.List.listTooLong;exact Zp (Ts h)
end
section
variable{X:Cx}
def adl:V->Ζ->Hp->VK->Prop:=λx vs H Q=>∃l xs y,x=.ref l/\vs=[y]/\H l=some (.lst xs)/\xs.length<sizeLine/\Q .non (upd H l (.lst (xs++[y])))
theorem Ko:MtM X "list.append" adl:=by
 intro aa s σ H x vs v us Q I rx rv h;obtain⟨l,xs,y,rfl,rfl,hH,hz,q⟩:=h;cases rx;obtain⟨u,rfl,ru⟩:=rv.one;obtain⟨z,its,n,r,hl,e⟩:=I.lstM hH;refine call_meets F.slot_list_append ⟨_,e,rfl⟩ F.entry_list_append (F.args_list_append_2 _ _) (PySem.list_append l its.toArray n u (by rw[aX];lia)) ⟨e,?_⟩;refine⟨.non,_,I.lset (its':=its++[u]) hH e (by simp) (r.append (.cons ru .nil)) ?_,rfl,q⟩;rw[aA,List.length_singleton];exact hz
def amu:R2:=λx y H Q=>∃l b xs zs,x=.ref l/\y=.ref b/\H l=some (.lst xs)/\H b=some (.lst zs)/\xs.length+zs.length<=sizeLine/\∀p,H p=none->Q (.ref p) (upd H p (.lst (xs++zs)))
theorem aeZ:OpR X (binaryOp .Add) amu:=by
 intro aa s σ H x y v u Q I rx ry h;obtain⟨l,b,xs,zs,rfl,rfl,hH,hB,hz,q⟩:=h;cases rx;cases ry;obtain⟨z,its,n,r,hl,e⟩:=I.lstM hH;obtain⟨z2,im,n2,r2,hl2,e2⟩:=I.lstM hB;refine PySem.P.add_list e e2 ?_ (by rw[aX,aX];lia);have ea:its.toArray++im.toArray=(its++im).toArray:=by simp
 rw[ea];exact⟨.ref _,_,I.lnew (t':=s.toks) (r.append r2) (by rw[aA];omega),rfl,q _ I.fresh⟩
def amt:R2:=λx y H Q=>∃l k xs,x=.ref l/\y=.int k/\H l=some (.lst xs)/\-(2^63)<=k/\k<2^63/\xs.length*k.toNat<=sizeLine /\
 ∀p,H p=none->Q (.ref p) (upd H p (.lst (List.replicate k.toNat xs).flatten))
theorem len_rep{α:Type}(xs:List α)(k:Nat):(List.replicate k xs).flatten.length=k*xs.length:=by
 induction k with
 |zero=>simp
 |succ k ih=>rw[List.replicate_succ,List.flatten_cons,aA,ih,Nat.succ_mul,Nat.add_comm]
theorem aem:OpR X (binaryOp .Mult) amt:=by
 intro aa s σ H x y v u Q I rx ry h;obtain⟨l,k,xs,rfl,rfl,hH,h1,h2,hz,q⟩:=h;cases rx;obtain⟨t,rfl⟩:=ry;obtain⟨z,its,n,r,hl,e⟩:=I.lstM hH;have aI:its.toArray.size*k.toNat<=sizeLine:=by rw[aX,<- hl];exact hz
 have lS:¬its.toArray.size*k.toNat>(2^63-1)/8:=by
  have:(sizeLine:Nat)<=(2^63-1)/8:=by decide
  lia
 have k6:¬(!Builtin.List.listFitsIndex k)=true:=by
  rw[fitsIndex_both h1 h2];exact bw
 have iO:¬Builtin.List.listTooLong (its.toArray.size*k.toNat)=true:=by
  rw[Z2 aI];exact bw
 have kS:List.foldl (λx1 x2=>x1++x2) #[] (List.replicate (if its.toArray.isEmpty=true then 0 else k.toNat) its.toArray)=(List.replicate k.toNat its).flatten.toArray:=by
  have f0:∀m:Nat,List.foldl (λx1 x2=>x1++x2) #[] (List.replicate m its.toArray)=(List.replicate m its).flatten.toArray:=λm=>by
   have:=foldl_rep its m [];rw[List.nil_append]at this;exact this
  rw[f0];cases its with
  |nil=>simp
  |cons a r'=>rw[ZZ (by simp)]
 refine wpAny_binaryOp_repeat_ref (T:="list") (U:="int") (by decide) ⟨_,e,rfl⟩ (λs'=>typeIs_int s' k t) noFill_list_mul F.fills_int_mul F.slot_int_rmul repeat_list F.slot_int_index.lookup
  (call_meets F.slot_int_rmul (typeIs_int s k t) F.entry_int_rmul (F.args_int_rmul_2 _ _) (int___rmul___int_list k t l its.toArray n)
   ⟨e,rfl,⟨_,e,rfl⟩,call_meets F.slot_list_mul ⟨_,e,rfl⟩ F.entry_list_mul (F.args_list_mul_2 _ _) (AutoListH.list___mul___list_int_3 l its.toArray n k t k6 lS iO) ⟨e,?_⟩⟩)
 rw[kS];exact⟨.ref _,_,I.lnew (t':=s.toks) (r.rep k.toNat) (by rw[len_rep,TU];exact hz),rfl,q _ I.fresh⟩
end
end L2
namespace Att
open PySem PySem.W PySem.Calls PyProof.Rows
theorem Fw{P:Params}{h:Heap} : ∀(ns:List Int)(vs:Θ),WellAll P h vs (ns.map WData.int)->IntsAre vs ns:=by
 intro ns
 induction ns with
 |nil =>
  intro vs w;rw[List.map_nil]at w;cases w;exact .nil
 |cons n ns ih =>
  intro vs w;rw[List.map_cons]at w;cases w with
  |cons a b =>
   cases a;exact .cons _ _ (ih _ b)
theorem XF{l:OpenLaw}{n:Nat}(hn:l.most=some n){P:Params}{h:Heap}{args:List WData}{gi:Θ}
 (eC:l.row.toRowW.claim.pre args=true)(kK:WellAll P h gi args) :
  ∃a vs ns,gi=[Value.ref a]/\args=[WData.list (ns.map WData.int)]/\h.get? a=some { cls:=.type "list",data:=.seq vs.toArray }/\IntsAre vs ns/\ns.length<=n:=by
 have f7:WShape.hasAll [] args [.list .int]=true:=(pre_splitW eC).1;have hc:l.pre.holds [] { args:=args }=true:=(pre_splitW eC).2;obtain⟨d,r,rfl,h1,h2⟩:=hasAllW_cons f7;obtain rfl:=hasAllW_nil h2;obtain⟨xs,rfl,h3⟩:=hasW_list h1;obtain⟨ns,rfl⟩:=items_int h3;have aI:ns.length<=n:=by
  unfold OpenLaw.pre at hc;have h4:(WTm.not (.lt (.lit (.int (n:Int))) (.len (.arg 0)))).holds [] { args:=[.list (ns.map .int)] }=true:=by
   have h4:=(holds_andW hc).1;rw[hn]at h4;exact h4
  have h5:=condW_of h4 (w_not (w_lt w_lit (w_len_list (w_arg rfl))));rw[ak]at h5;refine VU λq=>?_;have q':(n:Int)<((ns.length:Nat):Int):=by omega
  first
   |(rw[Zs q']at h5;exact absurd h5 (by decide))
   |(simp at h5;omega)
 cases kK with
 |cons w1 w2 =>
  cases w2;cases w1 with
  |list ho gV=>exact⟨_,_,ns,rfl,rfl,ho,Fw ns _ gV,aI⟩
theorem Xk(l:OpenLaw)(args:List WData):l.row.toRowW.claim.post args (.bool true) args=true :=
 postW_of (r:=l.row.toRowW) (X:=(true==true))
  (show WShape.has [] (.bool true) .bool=true by first|rfl|decide|simp[WShape.has,WShape.arms,WShape.armsAll])
  (show(WTm.eq .res (.lit (.bool true))).value [] { args:=args,res:=some (.bool true),after:=args }=some (.bool (true==true))from w_eq_bool (w_res rfl) w_lit) rfl
theorem Py{l:OpenLaw}{n:Nat}{q:Program}{loose:Φ}{XP:(Str->Ω)->Heap->Prop}{YP:World->Heap->Prop}{d:DefRec}
 (hn:l.most=some n)(i4:d.params.defaults=[])
 (call:∀(w:World)(s₀ s₁:Shared)(mg mb:Str->Ω)(fa:Addr)(o:Obj)(pm cd bv:Value)(a:Addr)(vs:Θ)(ns:List Int),
   Ground q loose [] XP w s₀ mg mb s₁.heap->YP w s₁.heap ->
   s₁.heap.get? fa=some o->o.data=.func (docDef d.name d.params d.body d.scope pm cd bv)->s₁.heap.CodeRec cd d.name->mg d.name=some (.ref fa) ->
   s₁.heap.get? a=some { cls:=.type "list",data:=.seq vs.toArray }->IntsAre vs ns->ns.length<=n->s₁.gens = #[] ->
   codeAny (model l.prog w) callerA (.call (.ref fa) ⟨[.ref a],[]⟩) (λr s'=>r=.ok (.ret (.bool true))/\OldK s₁.heap s'.heap/\s'.os=s₁.os/\AllBare s'.gens) s₁) :
  WalkO q loose XP YP l.row.toRowW d [] (λf vs=>PySem.call f vs):=by
 intro w s₀ s₁ mg mb G Y fa o pm cd bv dV kV ho hd be hD ge hg args gi as eC hlay hrd kK hlo;obtain rfl:dV=.none:=Dflts.none hD i4;obtain rfl:kV=.none:=Dflts.noKw hD;obtain⟨a,vs,ns,rfl,rfl,gE,fc,aI⟩:=XF hn eC kK;refine enter_call (codeAny_mono (call w s₀ s₁ mg mb fa o pm cd bv a vs ns G Y ho (fd_plain hd) be ge gE fc aI hg) λr s' hq=>?_);obtain⟨rfl,h2,h3,h4⟩:=hq;exact⟨.inl ⟨.bool true,.bool true,[],rfl,λ_=>rfl,.bool true,Xk l _,λ_=>⟨List.Pairwise.nil,λ_ hm=>(nomatch hm)⟩⟩,h2,h3,h4⟩
end Att
namespace L2
open PySem PySem.Spec PyProof.Rows
theorem DP:∀{vs:Θ}{ns:List Int},IntsAre vs ns->Vals (ns.map V.int) vs
 |_,_,.nil=>.nil
 |_,_,.cons n t h=>.cons ⟨t,rfl⟩ (DP h)
def Only(H:Hp):Prop:=∀b,H b=none\/∃o xs,H b=some (.frz o (.lst xs))
theorem aa7{P:Program}{w:World}{K:Frag}{mg mb:Str->Ω}{CX:CXT}{k:Nat}{fa a:Addr}{fd:FuncData}{x:Str}{sp:Sp}{s₁:Shared}{vs:Θ}{ns:List Int}
 (KX:K.In s₁.heap)(d6:s₁.heap.Ns mainGlobals mg)(hb:s₁.heap.Ns builtinsNs mb)(hbb:∀x:Str,x≠"__name__"->mb x=bootBuiltins x)(kU:s₁.heap.NoLimit)(hg:s₁.gens = #[])
 (ha:s₁.heap.get? a=some { cls:=.type "list",data:=.seq vs.toArray })(hi:IntsAre vs ns)(hl:ns.length<=sizeLine)(hr:fD k callerA)
 (F:∀base:Heap,K.In base->base.Ns mainGlobals mg->cj P w K mg base CX k fa fd [x] sp)(i5:∀(s:Shared)(u:Value),BindsTo s fd ⟨[u],[]⟩ [(x,u)])
 (f6:∀H:Hp,Only H->SqL K H a (ns.map V.int)->sp [.ref a] H (λv _=>v=.bl true) λ_ _ _=>False)
 (l7:∀H e s',CX [] H s₁ (λ_ _ _=>False) e s'->False) :
  codeAny (model P w) callerA (.call (.ref fa) ⟨[.ref a],[]⟩) (λr s'=>r=.ok (.ret (.bool true))/\OldK s₁.heap s'.heap/\s'.os=s₁.os/\AllBare s'.gens) s₁:=by
 have rv:=DP hi;have kG:=hi.length

 have core:∀H:Hp,Only H->SqL K H a (ns.map V.int)->HOk P w H s₁.heap->(∀b,H b≠none->b=a)->(H a≠none->K.lookup a=none) ->
   codeAny (model P w) callerA (.call (.ref fa) ⟨[.ref a],[]⟩) (λr s'=>r=.ok (.ret (.bool true))/\OldK s₁.heap s'.heap/\s'.os=s₁.os/\AllBare s'.gens) s₁:=by
  intro H hO hS hok hA hK;have eB:∀{b:Addr}{o:Obj},s₁.heap.get? b=some o->H b=none->(Lp s₁.heap H).get? b=some o:=λe n=>Y9 e n;have ic:∀{b:Addr}{o:Obj}{es:Array DictEntry}{ep:Nat},s₁.heap.get? b=some o->o.data=.dict es ep->H b=none:=λ{b o es ep}e d=>by
   cases q:H b with
   |none=>rfl
   |some u =>
    have e':b=a:=hA b (by rw[q];simp);subst e';rw[ha]at e;cases e;have d':Data.seq vs.toArray _=Data.dict es ep:=d;cases d'
  have jp:∀{b:Addr}{m:Str->Ω},s₁.heap.Ns b m->(Lp s₁.heap H).Ns b m:=λ{b m}⟨o,es,ep,e,d,r⟩=>⟨o,es,ep,eB e (ic e d),d,r⟩;have hKb:K.In (Lp s₁.heap H):=λb o e=>eB (KX b o e) (by
   cases q:H b with
   |none=>rfl
   |some u =>
    have e':b=a:=hA b (by rw[q];simp);subst e';rw[hK (by rw[q];simp)]at e;cases e)
  have hM:Mod K mg (Lp s₁.heap H):=⟨hKb,jp d6,⟨mb,jp hb,hbb⟩,let⟨mc,h1,h2⟩:=kU;⟨mc,jp h1,h2⟩⟩;have e0:Ru P w K mg (Lp s₁.heap H) callerA [] s₁ H:=⟨rfl,hM,λb o e=>acp e,WG (WX _ _),trivial,λb hb=>absurd (show b∈([] : Ψ)from hb) (by simp),hok,.of_eq hg⟩;refine codeAny_mono ((F _ hKb (jp d6)).run callerA [] s₁ H ⟨[.ref a],[]⟩ [.ref a] [.ref a] _ _ hr e0 (i5 s₁ (.ref a)) (.cons rfl .nil) (f6 H hO hS)) λr s' h=>?_;cases r with
  |error e=>exact(l7 H e s' h).elim
  |ok fl =>
   cases fl with
   |next=>exact False.elim h
   |brk=>exact False.elim h
   |cont=>exact False.elim h
   |ret u =>
    obtain⟨v,H',os,bare,un,hok',r',q⟩:=h;have q':v=.bl true:=q;subst q';obtain rfl:u=Value.bool true:=r';refine⟨rfl,OldK.of_keep λb o e=>?_,os,bare⟩;cases q:H b with
    |none=>exact un.keep b o e q (by intro z;exact absurd (show b∈([] : Ψ)from z) (by simp)) (by simp)
    |some u =>
     rcases hO b with z|⟨ob,xs,z⟩
     .rw[q]at z;cases z
     .have z2:=un.frzs b ob _ z;obtain⟨e1,_⟩:=hok b _ z;obtain⟨e2,_⟩:=hok' b _ z2;rw[e]at e1;cases e1;exact e2
 cases hk:K.lookup a with
 |some o =>

  have e:=KX a o hk;rw[ha]at e;cases e;refine core (λ_=>none) (λ_=>.inl rfl) (.inr ⟨_,vs.toArray,_,hk,rfl,rfl,rfl,by rw[aX,kG];exact hl,by simpa using rv⟩) (λb u z=>by have z':(none:Option HO)=some u:=z;cases z') (λb z=>absurd rfl z) λz=>absurd rfl z
 |none =>
  refine core (λb=>if b=a then some (.frz { cls:=.type "list",data:=.seq vs.toArray } (.lst (ns.map V.int)))else none) (λb=>?_) (.inl (.inr ⟨{ cls:=.type "list",data:=.seq vs.toArray },ZY rfl⟩)) (λb u z=>?_) (λb z=>?_) λ_=>hk
  .by_cases hb:b=a
   .exact .inr ⟨_,_,ZY hb⟩
   .exact .inl (ZZ hb)
  .by_cases hb:b=a
   .have z':=(ZY hb).symm.trans z;cases z';subst hb;exact⟨ha,by rw[ak];exact hl,vs,_,rv,ha⟩
   .have z':=(ZZ hb).symm.trans z;cases z'
  .by_cases hb:b=a
   .exact hb
   .exact absurd (ZZ hb) z
noncomputable abbrev KOf{K:Frag}{h:Heap}(_:K.In h):Frag:=K
theorem V5{l:PySem.W.OpenLaw}{n k:Nat}{q:Program}{loose:Φ}{XP:(Str->Ω)->Heap->Prop}{YP:World->Heap->Prop}{d:DefRec}{K:Params->Frag}{CX:World->CXT}{sp:World->Sp}{x:Str}
 (hn:l.most=some n)(hJ:n<=sizeLine)(i4:d.params.defaults=[])(hr:fD k callerA)
 (hY:∀(w:World)(h:Heap),YP w h->(K w.params).In h)
 (F:∀(w:World)(mg:Str->Ω)(fa:Addr)(h:Heap),(K w.params).In h->h.Ns mainGlobals mg->mg d.name=some (.ref fa) ->
   ∃fd:FuncData,(∀(s:Shared)(u:Value),BindsTo s fd ⟨[u],[]⟩ [(x,u)]) /\
    ∀base:Heap,(K w.params).In base->base.Ns mainGlobals mg->cj l.prog w (K w.params) mg base (CX w) k fa fd [x] (sp w))
 (f6:∀(w:World)(H:Hp)(a:Addr)(ns:List Int),ns.length<=n->Only H->SqL (K w.params) H a (ns.map V.int)->sp w [.ref a] H (λv _=>v=.bl true) λ_ _ _=>False)
 (l7:∀(w:World)(H:Hp)(s:Shared)(e:Value)(s':Shared),CX w [] H s (λ_ _ _=>False) e s'->False) :
  PySem.W.WalkO q loose XP YP l.row.toRowW d [] (λf vs=>PySem.call f vs):=by
 refine Att.Py hn i4 λw s₀ s₁ mg mb fa o pm cd bv a vs ns G Y ho hd be ge gE fc aI hg=>?_;have KX:=hY w _ Y;obtain⟨fd,hb,hF⟩:=F w mg fa _ KX G.T.g ge;exact aa7 KX G.T.g G.T.b G.T.builtins G.T.nolimit hg gE fc (aL aI hJ) hr hF hb (λH hO hS=>f6 w H a ns aI hO hS) λH e s'=>l7 w H s₁ e s'
end L2

namespace L2
open PySem PySem.Spec PyProof.Rows
abbrev CX0:CXT:=λ_ _ _ _ _ _=>False
abbrev E0:XK:=λ_ _ _=>False
theorem R7{X:Cx} : Passes CX0 X E0:=λ_ _ _ _ _ _ _ h=>h.elim
structure Fun(K:Frag)(x ai:Str)(st:Stmt)(f:Addr)(fd:FuncData):Prop where
 ex:∃(oc:Value)(od:Ξ)(kV bv pm:Value)(an:Ξ)(ag ct:Value)(dP:Array (Ω)),
  fd=PySem.W.fnOf x ai (iJ st) (fL st) (bH st) .none kV bv pm an ag ct/\K.lookup f=some ⟨oc,od,.func fd,dP⟩/\codeIn K ag ai=true
 kp:keepIn K (.ref f)=true
section
variable{P:Program}{w:World}{K:Frag}{mg:Str->Ω}{base:Heap}
theorem Fun.ok{x ai:Str}{st:Stmt}{f:Addr}{fd:FuncData}{N ps:Φ}{k:Nat}{sp:Sp}(F:Fun K x ai st f fd)(S:bL N ps (bH st))(len:∀vs H Q E,sp vs H Q E->vs.length=ps.length)
 (ce:∀(ag:Value)(A:Around)(outer:List Env)(s:Shared)(H:Hp)(vs:Ζ)(Q:VK)(E:XK),fD k (A.deeper (envOfC ai (bH st) s.heap.objs.size f ag))->sp vs H Q E ->
   ∃t,PSs (Ov CX0 P w K mg base N ai (bH st) f ag A outer s H E).nox (fL st) t/\t { nx:=λ_ H'=>Q .non H',rt:=Q } (start N vs) H):cj P w K mg base CX0 (k+1) f fd ps sp:=by
 obtain⟨oc,od,kV,bv,pm,an,ag,ct,dP,rfl,lk,be⟩:=F.ex;refine aja lk be S len λA outer s H vs Q E hr f6=>?_;obtain⟨t,h,q⟩:=ce ag A outer s H vs Q E hr f6;exact⟨t,h.nox,q⟩
theorem aai{x ai:Str}{st:Stmt}{f:Addr}{oc:Value}{od an:Ξ}{dP:Array (Ω)}{kV bv pm ag ct:Value}(l:K.lookup f=some ⟨oc,od,.func (PySem.W.fnOf x ai (iJ st) (fL st) (bH st) .none kV bv pm an ag ct),dP⟩)
 (c:codeIn K ag ai=true)(k:keepIn K (.ref f)=true):Fun K x ai st f (PySem.W.fnOf x ai (iJ st) (fL st) (bH st) .none kV bv pm an ag ct):=⟨⟨oc,od,kV,bv,pm,an,ag,ct,dP,rfl,l,c⟩,k⟩
end
theorem yQ{A:Around}{k:Nat}(hr:fD k A):A.units+1<cLine:=Y3 (Nat.add_le_add_left (by decide:1<=64) _) hr.units
section
variable{X:Cx}
noncomputable def rO(sc:Scope)(x:Str):Bool:=(sc.names.lookup x).any λk=>k == .local || k == .cell || k == .free
theorem afe{sc:Scope}{x:Str}(h:rO sc x=true):Vis sc x:=by
 unfold rO at h;unfold Vis;cases e:sc.names.lookup x with
 |none=>rw[e]at h;cases h
 |some k=>rw[e]at h;cases k<;>first|exact .inl rfl|exact .inr (.inl rfl)|exact .inr (.inr rfl)|cases h
theorem pv(i:Nat){x:Str}{pos:Pos}(hN:X.N[i]?=some x:=by rfl)(hv:rO X.env.scope x=true:=by rfl)(hd:(x==("__debug__":Str))=false:=by decide)
 (be:(x==("__classdict__":Str))=false:=by decide):PE X (.Name x pos) (aku i):=afQ hN (afe hv) hd be
end
theorem amv{A B:Prop}(h:B):if false=true then A else B:=by
 rw[ZZ bw];exact h
theorem als{A B:Prop}(h:A):if true=true then A else B:=by
 rw[ZY rfl];exact h
def Same(H H':Hp):Prop:=∀b o,H b=some o->H' b=some o
theorem Same.refl(H:Hp):Same H H:=λ_ _ h=>h
theorem Same.trans{H H1 H2:Hp}(a:Same H H1)(b:Same H1 H2):Same H H2:=λc o h=>b c o (a c o h)
theorem Same.free{H H':Hp}(e:Same H H'){l:Addr}(h:H' l=Option.none):H l=Option.none:=by
 cases q:H l with
 |none=>rfl
 |some o =>
  rw[e l o q]at h;cases h
theorem Same.seq{K:Frag}{H H':Hp}{a:Addr}{xs:Ζ}(e:Same H H')(h:SqL K H a xs):SqL K H' a xs:=by
 rcases h with(h|⟨o,h⟩)|h
 .exact .inl (.inl (e _ _ h))
 .exact .inl (.inr ⟨o,e _ _ h⟩)
 .exact .inr h
def Bd(i:Int):Prop:=i.natAbs<2^8000
theorem Bd.log2{i:Int}(h:Bd i):i.natAbs.log2<8000:=by
 by_cases h0:i.natAbs=0
 .rw[h0,Nat.log2_zero];exact T1 _
 .exact(Nat.log2_lt h0).mpr h
theorem Bd.bits{i:Int}(h:Bd i):Builtin.Int.intBits i<=2^20:=by
 have e:(2:Nat)^20=1048576:=by decide
 have:=h.log2;unfold Builtin.Int.intBits;split
 .exact aZ _
 .lia
section
variable{X:Cx}
theorem ab8:OpR X (binaryOp .Mult) (rI (λi j=>Bd i/\Bd j) λi j=>.int (i*j)):=opI λ_ _ _ _ _ _ _ hc q=>mul_int q (.of_bits hc.1.bits hc.2.bits)
theorem Yl:OpR X (binaryOp .FloorDiv) (rI (λ_ j=>j≠0/\Bd j) λi j=>.int (i.fdiv j)):=opI λ_ _ _ _ _ _ _ hc q=>floordiv_int hc.1 q (.inl (PyProof.noPylong_of_log2 (by have:=hc.2.log2;exact Tk this (by decide))))
theorem Pq:jt X (.builtin "isinstance") (λxs H Q=>∃x c cv t b,xs=[x,c]/\((∃T,c=.ty T/\cv=Value.type T)\/∃C,c=.ref C/\cv=Value.ref C)/\Dj X.K H x t/\kitOne X.K t cv=some b/\Q (.bl b) H):=by
 intro aa s σ H xs us Q I r h;obtain⟨x,c,cv,t,b,rfl,rc,ty,e,q⟩:=h;obtain⟨u,v,rfl,ru,rv⟩:=r.two;have e2:v=cv:=by
  rcases rc with⟨T,rfl,rfl⟩|⟨T,rfl,rfl⟩
  .exact rv
  .exact rv
 subst e2;exact Xp I ru ty e λtk=>⟨.bl b,H,I.tok _,rfl,q⟩
theorem RZ:jt X (.builtin "sorted") (λxs H Q=>∃l ns,xs=[.ref l]/\SqL X.K H l (ns.map V.int)/\ns.length<64/\∀(ms:List Int)p,H p=none->ms.Perm ns->ms.Pairwise (· <= ·)->Q (.ref p) (upd H p (.lst (ms.map V.int)))):=by
 intro aa s σ H xs us Q I r h;obtain⟨l,ns,rfl,hl,h64,q⟩:=h;obtain⟨u,rfl,ru⟩:=r.one;cases ru;obtain⟨its,rv,p,hz⟩:=I.list hl;have hI:=intsAre_of rv;have aI:its.length=ns.length:=by have:=rv.length;simpa using this.symm
 refine sorted_ints (vs:=its) p.isList hI (Y3 (WG aI) h64) λout ns' a1 a2 a3=>?_;obtain⟨e,he⟩:=sortedAll_at s.heap its out;have j':H (s.heap.objs.size+1)=none:=I.hok.fresh (Xs _);refine⟨.ref _,_,I.laid (a:=s.heap.objs.size+1) (o:=.lst (ns'.map V.int)) (t':=s.toks) (λb u e=>sortedAll_old e) (Xs _) ?_,rfl,q ns' _ j' a2 a3⟩;refine⟨?_,out.toList,e,DP a1,he⟩;rw[ak,a2.length_eq];rw[ak]at hz;exact hz
end
section
variable{prog:Program}{w:World}{A:Around}{E:Ε}{s:Shared}
theorem Kq{it t:Addr}{items:Array Value}(gL:t≠it):∀(n i:Nat)(s:Shared)(Q:Θ->Shared->Prop),s.heap.IsListIter it t i->PlainL s.heap t items->i+n<=items.size ->
  (∀h',h'.IsListIter it t (i+n)->Heap.SameBut it s.heap h'->Q ((items.toList.drop i).take n) { s with heap:=h' })->wpAny (model prog w) A (draw (.ref it) n) Q E s
 |0,i,s,Q,hit,_,_,hQ=>by
  show wpAny _ _ (pure []) Q E s;exact ZT (by simpa using hQ s.heap hit (Heap.SameBut.refl ..))
 |n+1,i,s,Q,hit,ht,hle,hQ=>by
  have fw:i<items.size:=by lia
  show wpAny _ _ (pyNext (.ref it) >>= _) Q E s;refine ZU (wpAny_pyNext_list_item hit ht.isList (x:=items[i]) (by simp[fw]) λh₁ gS ir=>?_);have kN:PlainL h₁ t items:=by
   obtain⟨o,k,e,r⟩:=ht;exact⟨o,k,(ir.2 t gL).trans e,r⟩
  refine ZU (wpAny_holding (Kq gL n (i+1) _ _ gS kN (by lia) λh₂ kX hs₂=>ZT ?_));have hd:items.toList.drop i=items[i]::items.toList.drop (i+1):=by simp[Zzv,fw]
  have:=hQ h₂ (by rw[show i+(n+1)=i+1+n by lia];exact kX) (ir.trans hs₂);rw[hd,List.take_succ_cons]at this;exact this
theorem Du{t:Addr}{items:Array Value}{Q:Θ->Shared->Prop}(hh:A.handled=none)(ht:PlainL s.heap t items)
 (hQ:∀h',Heap.ExtBut s.heap.objs.size s.heap h'->Q items.toList { s with heap:=h' }):wpAny (model prog w) A (unpackItems (.ref t) items.size none) Q E s:=by
 have fw:t≠s.heap.objs.size:=by obtain⟨o,_,ho,_⟩:=ht;exact aQ (aK ho)
 unfold unpackItems;refine ZU ?_
 .unfold notIterableAtAll;refine ZU (wpAny_specialOf ht.isList.typeIs slot_list_iter.lookup ?_);refine ZT ?_;simp only[XW,if_false];refine ZU (wpAny_holding (wpAny_pyIter_list ht.isList ?_));have ht0:PlainL (s.heap.push { cls:=.type "list_iterator",data:=.fields #[.ref t,.int 0 0] }) t items:=by
   obtain⟨o,k,e,r⟩:=ht;exact⟨o,k,aH _ e,r⟩
  refine ZU (wpAny_holding (Kq fw items.size 0 _ _ ⟨_,aW _ rfl,rfl,rfl⟩ ht0 (by lia) λh₁ gS ir=>?_));have gV:List.take items.size (List.drop 0 items.toList)=items.toList:=by
   rw[List.drop_zero];exact Zzu (by simp)
  rw[gV];rw[ZZ (by simp)];have kN:PlainL h₁ t items:=by
   obtain⟨o,k,e,r⟩:=ht0;exact⟨o,k,(ir.2 t fw).trans e,r⟩
  refine ZU (wpAny_holding (wpAny_pyNext_list_end hh gS kN.isList (by simp) λh₂ he₂=>?_));simp only[Option.isSome_none,XW,if_false];refine ZT (hQ h₂ λb o hb e=>he₂ b o hb (ir.extBut b o hb (aH _ e)))
theorem Ax{env:Env}{bX:List Expr}{x1}{pos:Pos}{t:Addr}{items:Array Value}{Q:Unit->Shared->Prop}(hh:A.handled=none)(ht:PlainL s.heap t items)
 (hn:(assignEach bX env).length=items.size)(iA:(assignEach bX env).findIdx? (·.1)=none)
 (h:∀h',Heap.ExtBut s.heap.objs.size s.heap h'->wpAny (model prog w) A (assignInOrder ((assignEach bX env).map (·.2)) items.toList) Q E { s with heap:=h' }) :
  wpAny (model prog w) A (assign (.Tuple bX x1 pos) env (.ref t)) Q E s:=by
 rw[assign_Tuple];refine ZU (wpAny_standAt ?_);unfold unpack;rw[hn,iA];exact ZU (wpAny_holding (Du hh ht h))
end
section
variable{X:Cx}{pos:Pos}
def aj3(K:Frag)(n:Nat)(t:TGs):TG:=λv σ H Q=>∃a xs,v=.ref a/\SqL K H a xs/\xs.length=n/\t xs σ H Q
theorem adC{es:List Expr}{k:Nat}{t:TGs}{n:Nat}(hc:X.calm=true)(h:PGs X es t)
 (hn:(assignEach es X.env).length=n:=by rfl)(b8:(assignEach es X.env).findIdx? (·.1)=none:=by rfl):PG X (.Tuple es k pos) (aj3 X.K n t):=by
 intro aa s σ H v u Q I r hw;obtain⟨a,xs,e1,hq,hl,hw⟩:=hw;subst e1;cases r;obtain⟨its,rv,ht,hz⟩:=I.list hq;refine Ax (I.ok.hd hc) ht (by simp[hn,<- hl,rv.length]) b8 λh' hx=>?_;have I1:Inv X aa σ H { s with heap:=h' }:=I.kept (t':=s.toks) λb o e=>hx b o (aQ (aK e)) e;exact h aa _ σ H xs _ Q I1 (by simpa using rv) hw
end
theorem Same.upd{H:Hp}{p:Addr}{o:HO}(hp:H p=none):Same H (upd H p o):=λb u e=>by
 rw[cF (lZ e hp)];exact e
section
variable{X:Cx}
theorem IxR.imp{r r':R2}(h:IxR X r)(i:∀x y H Q,r' x y H Q->r x y H Q):IxR X r':=by
 intro b pos aa s σ H x y v u Q I rx ry q hs;exact h _ _ _ _ _ _ _ _ _ _ _ I rx ry (i _ _ _ _ q) hs
theorem jt.imp{f:Value}{r r':Ζ->Hp->VK->Prop}(h:jt X f r)(i:∀xs H Q,r' xs H Q->r xs H Q):jt X f r':=λaa s σ H xs us Q I rx q=>h aa s σ H xs us Q I rx (i _ _ _ q)
noncomputable def tyS(H:Hp):V->Option String
 |.non=>some "NoneType"
 |.bl _=>some "bool"
 |.int _=>some "int"
 |.str _=>some "str"
 |.ref a=>match H a with
  |some (.lst _)=>some "list"
  |some (.tup _)=>some "tuple"
  |some (.dK _)=>some "dict"
  |_=>none
 |_=>none
theorem ae9{K:Frag}{H:Hp}{x:V}{t:String}(h:tyS H x=some t):Dj K H x (.type t):=by
 cases x with
 |non=>cases h;exact .non
 |bl=>cases h;exact .bl _
 |int=>cases h;exact .int _
 |str=>cases h;exact .str _
 |byt=>cases h
 |flt=>cases h
 |ty=>cases h
 |ref a =>
  have h:(match H a with
   |some (.lst _)=>some "list"
   |some (.tup _)=>some "tuple"
   |some (.dK _)=>some "dict"
   |_=>none)=some t:=h
  split at h
  .cases h;exact .lst (by assumption)
  .cases h;exact .tup (by assumption)
  .cases h;exact .dK (by assumption)
  .cases h
noncomputable def KZ(t T:String):Bool:=(t==T) || (t=="bool" && T=="int")
theorem Vb{K:Frag}{t T:String}(ht:t∈["NoneType","bool","int","str","list","tuple","dict"])(hT:T∈["bool","int","str","list","tuple","dict"]):kitOne K (.type t) (.type T)=some (KZ t T):=by
 simp only[YU,UQ,or_false]at ht hT;rcases ht with rfl|rfl|rfl|rfl|rfl|rfl|rfl<;>rcases hT with rfl|rfl|rfl|rfl|rfl|rfl<;>with_unfolding_all rfl
theorem aek{H:Hp}{x:V}{t:String}(h:tyS H x=some t):t∈["NoneType","bool","int","str","list","tuple","dict"]:=by
 cases x with
 |non=>cases h;decide
 |bl=>cases h;decide
 |int=>cases h;decide
 |str=>cases h;decide
 |byt=>cases h
 |flt=>cases h
 |ty=>cases h
 |ref a =>
  have h:(match H a with
   |some (.lst _)=>some "list"
   |some (.tup _)=>some "tuple"
   |some (.dK _)=>some "dict"
   |_=>none)=some t:=h
  split at h<;>cases h<;>decide
def amA:Ζ->Hp->VK->Prop:=λxs H Q=>∃x T t,xs=[x,.ty T]/\T∈["bool","int","str","list","tuple","dict"]/\tyS H x=some t/\Q (.bl (KZ t T)) H
theorem wV:jt X (.builtin "isinstance") amA:=Pq.imp λxs H Q hP=>by obtain⟨x,T,t,a,b,c,d⟩:=hP;exact⟨x,.ty T,.type T,.type t,_,a,.inl ⟨T,rfl,rfl⟩,ae9 c,Vb (aek c) b,d⟩
theorem PG.imp{e:Expr}{t t':TG}(h:PG X e t)(i:∀v σ H Q,t' v σ H Q->t v σ H Q):PG X e t':=λaa s σ H v u Q I r q=>h aa s σ H v u Q I r (i _ _ _ _ q)
def ajc:Ζ->Hp->VK->Prop:=λxs H Q=>∃l ns,xs=[.ref l]/\H l=some (.lst (ns.map V.int))/\ns.length<64/\∀(ms:List Int)p,H p=none->ms.Perm ns->ms.Pairwise (· <= ·)->Q (.ref p) (upd H p (.lst (ms.map V.int)))
theorem W4:jt X (.builtin "sorted") ajc:=RZ.imp λxs H Q hP=>by obtain⟨l,ns,a,b,c⟩:=hP;exact⟨l,ns,a,.of b,c⟩
end
def OkF(P:Program)(w:World)(K:Frag)(mg:Str->Ω)(base:Heap)(k:Nat)(x:Str)(ps:Φ)(sp:Sp):Prop :=
 ∃f fd,cj P w K mg base CX0 k f fd ps sp/\Binds K fd ps []/\mg x=some (.ref f)/\keepIn K (.ref f)=true
def cL(K:Frag)(mg:Str->Ω)(x:Str)(st:Stmt)(ps:Φ):Prop :=
 ∃f fd,Fun K x x st f fd/\(∀us:Θ,us.length=ps.length->bindArgs fd ⟨us,[]⟩=pure (ps.zip us))/\mg x=some (.ref f)
theorem cL.ok{P:Program}{w:World}{K:Frag}{mg:Str->Ω}{base:Heap}{k:Nat}{x:Str}{st:Stmt}{ps:Φ}{sp:Sp}(h:cL K mg x st ps)
 (hf:∀f fd,Fun K x x st f fd->cj P w K mg base CX0 k f fd ps sp):OkF P w K mg base k x ps sp:=by
 obtain⟨f,fd,a,b,c⟩:=h;exact⟨f,fd,hf f fd a,.all b,c,a.kp⟩
theorem abv{K:Frag}{h:Heap}{mg:Str->Ω}{x:Str}{st:Stmt}{ps:Φ}{f:Addr}{oc:Value}{od an:Ξ}{dP:Array (Ω)}{kV bv pm ag ct:Value}(X:K.In h)(G:h.Ns mainGlobals mg)
 (a:nsIn K mainGlobals x=some (some (.ref f)))(l:K.lookup f=some ⟨oc,od,.func (PySem.W.fnOf x x (iJ st) (fL st) (bH st) .none kV bv pm an ag ct),dP⟩)
 (c:codeIn K ag x=true)(k:keepIn K (.ref f)=true)
 (hb:∀(kV bv pm:Value)(an:Ξ)(ag ct:Value)(us:Θ),us.length=ps.length->bindArgs (PySem.W.fnOf x x (iJ st) (fL st) (bH st) .none kV bv pm an ag ct) ⟨us,[]⟩=pure (ps.zip us)):cL K mg x st ps :=
 ⟨f,_,aai l c k,hb kV bv pm an ag ct,mg_of X G a⟩
def V2(K:Frag):Sp:=λvs H Q _=>∃(a:Addr)(ns:List Int),vs=[.ref a]/\SqL K H a (ns.map V.int)/\ns.length<=63/\Only H/\∀H',Q (.bl true) H'
theorem ah5{l:PySem.W.OpenLaw}{k:Nat}{x:Str}{q:Program}{loose:Φ}{XP:(Str->Ω)->Heap->Prop}{YP:World->Heap->Prop}{d:DefRec}{K:Params->Frag}(hn:l.most=some 63)(i4:d.params.defaults=[])
 (hr:fD k callerA)(hY:∀(w:World)(h:Heap),YP w h->(K w.params).In h)
 (F:∀(w:World)(mg:Str->Ω)(fa:Addr)(h:Heap),(K w.params).In h->h.Ns mainGlobals mg->mg d.name=some (.ref fa) ->
   ∃st,cL (K w.params) mg d.name st [x]/\∀(base:Heap)(f:Addr)(fd:FuncData),Fun (K w.params) d.name d.name st f fd->cj l.prog w (K w.params) mg base CX0 k f fd [x] (V2 (K w.params))) :
  PySem.W.WalkO q loose XP YP l.row.toRowW d [] (λf vs=>PySem.call f vs):=by
 refine L2.V5 (n:=63) (k:=k) (x:=x) (CX:=λ_=>CX0) (sp:=λw=>V2 (K w.params)) hn (by decide) i4 hr hY (λw mg fa h KX G ge=>?_) (λ_ _ a ns hl hO hS=>⟨a,ns,rfl,hS,hl,hO,λ_=>rfl⟩) λ_ _ _ _ _ z=>z;obtain⟨st,⟨f,fd,hf,hb,hm⟩,ok⟩:=F w mg fa h KX G ge;rw[hm]at ge;have e:f=fa:=by injection ge with z;injection z
 subst e;exact⟨fd,λs u=>.of_eq (hb [u] rfl),λbase _ _=>ok base f fd hf⟩
section
variable{X:Cx}{p pos:Pos}{e:Expr}{es:List Expr}{t:TA}{x:Str}{k:Nat}{ps:Φ}{sp:Sp}
def Tj(sp:Sp)(t:TA):TE:=λσ H Q=>t σ H λvs H1=>sp vs H1 Q E0
theorem Hh(G:OkF X.prog X.w X.K X.mg X.base k x ps sp)(hr:fD k X.A)(hg:Gl X x)(ha:PA X (e::es) t)(cc:(x==("__debug__":Str))=false:=by decide)
 (he:starEach (e::es) X.env=(false,eval e X.env)::starEach es X.env:=by rfl)(bg:(backTo pos (starEach es X.env)).any (·.1)=false:=by rfl):PE X (.Call (.Name x p) (e::es) [] pos) (Tj sp t):=by
 obtain⟨f,fd,F,b,hm,kp⟩:=G;intro aa s σ H Q I h;refine abr F hr hg hm kp b .nil R7 ha cc he bg aa s σ H Q I ?_;show t σ H λvs H1=>sp (vs++[]) H1 Q E0;simp only[List.append_nil];exact h
end
theorem aeN(a:Int):(if a<0 then -a else a)=((a.natAbs:Nat):Int):=by split<;>omega
theorem tH(a:Int){b:Int}(h:0<b):Int.fdiv a b=a/b:=Zyu a (XY h)
abbrev bmV:Θ:=[.type "ValueError",.type "Exception",.type "BaseException",.type "object"]
def anJ(K:Frag)(C:Addr):Prop:=excIn K C bmV "ValueError.__new__"=true
noncomputable def uU(cells:List (Str×Addr)):List (Str×NameKind)->List (Str×Addr)->List (Str×Addr)
 |[],acc=>acc
 |(n,k)::r,acc=>uU cells r (if k == .free then(n,(cells.lookup n).getD 0)::acc else acc)
theorem Tc{scope:Scope}{env:Env}(h:∀y∈scope.names,y.2=.free->∃c,env.cells.lookup y.1=some c):closureFor scope env=pure (uU env.cells scope.names []):=by
 unfold closureFor;have go:∀(l:List (Str×NameKind))(acc:List (Str×Addr)),(∀y∈l,y.2=.free->∃c,env.cells.lookup y.1=some c) ->
   (forIn l acc (λ(x:Str×NameKind)(r:List (Str×Addr))=>if(x.2==NameKind.free)=true then(do let a <- cellOf env x.1;pure (ForInStep.yield ((x.1,a)::r)))else pure (ForInStep.yield r)):Sem (List (Str×Addr)))=pure (uU env.cells l acc):=by
  intro l
  induction l with
  |nil=>intro acc _;rfl
  |cons y r ih =>
   intro acc hy;obtain⟨n,k⟩:=y;rw[List.forIn_cons];by_cases hk:k=.free
   .subst hk;obtain⟨c,hc⟩:=hy (n,.free) aO rfl;have e1:cellOf env n=pure c:=by unfold cellOf;rw[show env.cells.lookup n=some c from hc]
    simp only[beq_self_eq_true,if_true,e1,pure_bind];rw[ih _ λz hz=>hy z (aJ _ hz)];show pure _=pure (uU env.cells r (if(NameKind.free==NameKind.free)=true then(n,(env.cells.lookup n).getD 0)::acc else acc));rw[show env.cells.lookup n=some c from hc]
    rfl
   .have hb:(k==NameKind.free)=false:=by simpa using hk
    simp only[hb,XW,if_false,pure_bind];rw[ih _ λz hz=>hy z (aJ _ hz)];show pure _=pure (uU env.cells r (if(k==NameKind.free)=true then(n,(env.cells.lookup n).getD 0)::acc else acc));rw[hb]
    rfl
 have e:=go scope.names [] h;show(forIn scope.names [] (λ(x:Str×NameKind)(r:List (Str×Addr))=>if(x.2==NameKind.free)=true then(do let a <- cellOf env x.1;pure (ForInStep.yield ((x.1,a)::r)))else pure (ForInStep.yield r)):Sem (List (Str×Addr))) >>= (λcs=>pure cs)=_;rw[e]
 rfl
theorem P0{cells:List (Str×Addr)} : ∀{names:List (Str×NameKind)}{acc:List (Str×Addr)}{x:Str}{c:Addr},(∀y∈names,y.2=.free->∃c,cells.lookup y.1=some c)->(x,c)∈uU cells names acc->(x,c)∈acc\/cells.lookup x=some c
 |[],_,_,_,_,h=>.inl h
 |(n,k)::r,acc,x,c,hf,h=>by
  unfold uU at h;rcases P0 (λy hy=>hf y (aJ _ hy)) h with z|z
  .by_cases hk:k=.free
   .subst hk;simp only[beq_self_eq_true,if_true]at z;rcases YU.mp z with e|e
    .obtain⟨c',dk⟩:=hf (n,.free) aO rfl;cases e;rw[show cells.lookup n=some c' from dk];exact .inr rfl
    .exact .inl e
   .have hb:(k==NameKind.free)=false:=by simpa using hk
    simp only[hb,XW,if_false]at z;exact .inl z
  .exact .inr z
theorem PK{cells:List (Str×Addr)} : ∀{names:List (Str×NameKind)}{acc:List (Str×Addr)}{x:Str},((x,NameKind.free)∈names\/∃c,(x,c)∈acc)->∃c,(x,c)∈uU cells names acc
 |[],_,_,h=>by
  rcases h with h|h
  .cases h
  .exact h
 |(n,k)::r,acc,x,h=>by
  unfold uU;refine PK ?_;rcases h with h|⟨c,h⟩
  .rcases YU.mp h with e|e
   .cases e;exact .inr ⟨_,by simp only[beq_self_eq_true,if_true];exact aO⟩
   .exact .inl e
  .refine .inr ⟨c,?_⟩;split
   .exact aJ _ h
   .exact h
theorem pX{α:Type}{x:Str}{c:α} : ∀{l:List (Str×α)},(x,c)∈l->∃c',l.lookup x=some c'
 |(y,d)::r,h=>by
  rw[List.lookup_cons];cases hb:x==y with
  |true=>exact⟨d,rfl⟩
  |false =>
   rcases YU.mp h with e|e
   .cases e;simp at hb
   .exact pX e
section
variable{X:Cx}{a8 iter:Expr}{x:Str}{px pos:Pos}{scope:Scope}{wi:TI}{te:TE}
theorem Inv.nostk'{aa:Δ}{σ:L2.St}{H:Hp}{s:Shared}(I:Inv X aa σ H s){b:Addr}(h1:b≠X.env.locals)(h2:b∉X.fs):b∉frs X.stack:=λz=>by
 rcases YU.mp (I.stkSub b z)with e|e
 .exact h1 e
 .exact h2 e
theorem Ci{env:Env} : ∀{names:List (Str×NameKind)}{y:Str},(names.map λ(n,k)=>if(k==NameKind.free&&env.scope.kind == .function&&env.kindOf n==some .cell)then(n,NameKind.cell)else(n,k)).lookup y=some .cell \/
  (names.map λ(n,k)=>if(k==NameKind.free&&env.scope.kind == .function&&env.kindOf n==some .cell)then(n,NameKind.cell)else(n,k)).lookup y=some .free->(∀z∈names,z.2≠.cell)->(y,NameKind.free)∈names
 |[],y,h,_=>by rcases h with h|h<;>cases h
 |(n,k)::r,y,h,hc=>by
  have ih:=@Ci env r y;simp only[List.map_cons]at h;by_cases hcond:(k==NameKind.free&&env.scope.kind == .function&&env.kindOf n==some .cell)=true
  .rw[ZY hcond]at h;simp only[List.lookup_cons]at h;cases hb:y==n with
   |true =>
    have hk:k=.free:=by
     simp only[Zzt,beq_iff_eq]at hcond;exact hcond.1.1
    have:y=n:=by simpa using hb
    subst this hk;exact aO
   |false =>
    rw[hb]at h;exact aJ _ (ih h λz hz=>hc z (aJ _ hz))
  .rw[ZZ hcond]at h;simp only[List.lookup_cons]at h;cases hb:y==n with
   |true =>
    rw[hb]at h;have:y=n:=by simpa using hb
    subst this;rcases h with h|h
    .exact absurd (Option.some.inj h) (hc (y,k) aO)
    .have:k=.free:=Option.some.inj h;subst this;exact aO
   |false =>
    rw[hb]at h;exact aJ _ (ih h λz hz=>hc z (aJ _ hz))
end
section
variable{X:Cx}
def eqF:Ζ->Ζ->Bool
 |[],[]=>true
 |x::xs,y::ys=>eqV x y&&eqF xs ys
 |_,_=>false
theorem Inv.tupIs{aa:Δ}{σ:L2.St}{H:Hp}{s:Shared}{a:Addr}{xs:Ζ}(I:Inv X aa σ H s)(h:H a=some (.tup xs)):∃its,Vals xs its/\IsTup s.heap a its.toArray/\s.heap.IsTuple a its.toArray:=by
 obtain⟨its,rv,ht,_⟩:=I.tuple (SqT.of h);exact⟨its,rv,ht,ht⟩
theorem Inv.lstIs{aa:Δ}{σ:L2.St}{H:Hp}{s:Shared}{a:Addr}{xs:Ζ}(I:Inv X aa σ H s)(h:H a=some (.lst xs)):∃its,Vals xs its/\s.heap.IsList a its.toArray:=by
 obtain⟨its,rv,ht,_⟩:=I.list (SqL.of h);exact⟨its,rv,ht.isList⟩
end
open PySem.SeqAt in
mutual
inductive Shows(H:Hp):V->PyData->Prop
 |non:Shows H .non .none
 |bl (b:Bool):Shows H (.bl b) (.bool b)
 |int (i:Int):Shows H (.int i) (.int i)
 |str (x:Str):Shows H (.str x) (.str x)
 |lst {a:Addr}{xs:Ζ}{ds:List PyData} : H a=some (.lst xs)->eU H xs ds->Shows H (.ref a) (.list ds)
 |tup {a:Addr}{xs:Ζ}{ds:List PyData} : H a=some (.tup xs)->eU H xs ds->Shows H (.ref a) (.tuple ds)
inductive eU(H:Hp):Ζ->List PyData->Prop
 |nil:eU H [] []
 |cons {x:V}{xs:Ζ}{d:PyData}{ds:List PyData} : Shows H x d->eU H xs ds->eU H (x::xs) (d::ds)
end
mutual
theorem Shows.same{H H':Hp}(S:Same H H'):∀{x:V}{d:PyData},Shows H x d->Shows H' x d
 |_,_,.non=>.non
 |_,_,.bl b=>.bl b
 |_,_,.int i=>.int i
 |_,_,.str x=>.str x
 |_,_,.lst e h=>.lst (S _ _ e) (eU.same S h)
 |_,_,.tup e h=>.tup (S _ _ e) (eU.same S h)
theorem eU.same{H H':Hp}(S:Same H H'):∀{xs:Ζ}{ds:List PyData},eU H xs ds->eU H' xs ds
 |_,_,.nil=>.nil
 |_,_,.cons h t=>.cons (Shows.same S h) (eU.same S t)
end
theorem eU.ints(H:Hp):∀ns:List Int,eU H (ns.map V.int) (ns.map PyData.int)
 |[]=>.nil
 |n::ns=>.cons (.int n) (eU.ints H ns)
section
variable{X:Cx}{aa:Δ}{σ:L2.St}{H:Hp}{s:Shared}
mutual
theorem Inv.reads(I:Inv X aa σ H s):∀{x:V}{d:PyData}{v:Value},Shows H x d->RelV x v->∃as,Reads s.heap v d as
 |_,_,_,.non,r=>by cases r;exact⟨_,.none⟩
 |_,_,_,.bl b,r=>by cases r;exact⟨_,.bool b⟩
 |_,_,_,.int i,r=>by obtain⟨t,rfl⟩:=r;exact⟨_,.int i t⟩
 |_,_,_,.str x,r=>by obtain⟨t,rfl⟩:=r;exact⟨_,.str x t⟩
 |_,_,_,.lst e h,r=>by
  cases r;obtain⟨its,rv,⟨o,ho,hc,n,hd⟩⟩:=I.lstIs e;obtain⟨as,q⟩:=Inv.readsAll I h rv;exact⟨_,.list ho hc hd q⟩
 |_,_,_,.tup e h,r=>by
  cases r;obtain⟨its,rv,_,⟨o,ho,hc,n,hd⟩⟩:=I.tupIs e;obtain⟨as,q⟩:=Inv.readsAll I h rv;exact⟨_,.tuple ho hc hd q⟩
theorem Inv.readsAll(I:Inv X aa σ H s):∀{xs:Ζ}{ds:List PyData}{vs:Θ},eU H xs ds->Vals xs vs->∃as,ReadsAll s.heap vs ds as
 |_,_,_,.nil,r=>by cases r;exact⟨_,.nil⟩
 |_,_,_,.cons h t,r=>by
  cases r with
  |cons r1 r2 =>
   obtain⟨a,q1⟩:=Inv.reads I h r1;obtain⟨b,q2⟩:=Inv.readsAll I t r2;exact⟨_,.cons q1 q2⟩
end
def ajX:Ζ->Hp->VK->Prop:=λxs H Q=>∃(l:Addr)(ns:List Int),xs=[.ref l]/\H l=some (.lst (ns.map V.int))/\Q (.int ns.sum) H
theorem Xu(hc:X.calm=true):jt X (.builtin "sum") ajX:=by
 intro aa s σ H xs us Q I r h;obtain⟨l,ns,rfl,hl,q⟩:=h;obtain⟨u,rfl,ru⟩:=r.one;cases ru;obtain⟨its,rv,p⟩:=I.lstIs hl;have hI:=intsAre_of rv;obtain⟨xs,e⟩:=hI.allInts.items;have hn:=hI.numsOf;rw[show its=its.toArray.toList from rfl,e,nums_intItems]at hn;rw[e]at p;refine sum_intListG (I.ok.hd hc) p λh' tk t' k=>⟨.int ns.sum,H,I.kept k,?_,q⟩;rw[preSum_eq,Zzu (by simp),hn];exact⟨_,rfl⟩
end
section
variable{X:Cx}
def tM(t:TE):TE:=λσ H Q=>∃R:VK,t σ H R/\∀x H',R x H'->Q x H'
def tMA(t:TA):TA:=λσ H Q=>∃R:Ζ->Hp->Prop,t σ H R/\∀x H',R x H'->Q x H'
theorem PE.mono{a:Expr}{t:TE}(h:PE X a t):PE X a (tM t):=λaa s σ H Q I ⟨R,h1,h2⟩ =>
 thn (h aa s σ H R I h1) λv s' hP=>by obtain⟨x,H',I',r,q⟩:=hP;exact⟨x,H',I',r,h2 x H' q⟩
theorem PA.mono{es:List Expr}{t:TA}(h:PA X es t):PA X es (tMA t):=λpos aa s σ H Q I ⟨R,h1,h2⟩ =>
 thn (h pos aa s σ H R I h1) λv s' hP=>by obtain⟨x,H',I',r,q⟩:=hP;exact⟨x,H',I',r,h2 x H' q⟩
theorem PE.imp{a:Expr}{t t':TE}(h:PE X a t)(i:∀σ H Q,t' σ H Q->t σ H Q):PE X a t':=λaa s σ H Q I q=>h aa s σ H Q I (i σ H Q q)
def am8(to:TE)(t:TA):TE:=λσ H Q=>to σ H λx H1=>∃l xs,x=.ref l/\H1 l=some (.lst xs)/\t σ H1 λvs H2=>∃y ys,vs=[y]/\H2 l=some (.lst ys)/\ys.length<sizeLine/\Q .non (upd H2 l (.lst (ys++[y])))
theorem aak{o e:Expr}{to:TE}{t:TA}{am af:Pos}(ho:PE X o to)(ha:PA X [e] t)(hb:attributeBase o "append" X.env (eval o X.env)=eval o X.env:=by rfl)
 (hf:((backTo af (starEach [e] X.env)).all (λx=>!x.1)&&(backToKw af (keywordEach [] X.env)).all (λx=>x.1.isSome)&&decide ([e].length+([] : List Keyword).length+(if([] : List Keyword).isEmpty then 0 else 1)<30))=true:=by rfl)
 (hl:(am.endLine==af.line)=true:=by rfl)(hs:starEach [e] X.env=(false,eval e X.env)::starEach [] X.env:=by rfl)(hp:(backTo af (starEach [] X.env)).any (·.1)=false:=by rfl) :
  PE X (.Call (.Attribute o "append" am) [e] [] af) (am8 to t):=by
 refine(Yi PySem.F.plainAttrs_list PySem.F.slot_list_append PySem.F.type_list_append Ko ho.mono ha.mono hb hf hl hs hp).imp λσ H Q h=>?_;refine⟨_,h,?_⟩;rintro x H1 ⟨l,xs,rfl,hx,h2⟩;refine⟨.inl ⟨rfl,_,SqL.of hx⟩,_,h2,?_⟩;rintro vs H2 ⟨y,ys,rfl,hy,hz,q⟩;exact⟨l,ys,y,rfl,rfl,hy,hz,q⟩
def ae2:Ζ->Hp->VK->Prop:=λxs H Q=>∃p ys,xs=[.ref p]/\H p=some (.lst ys)/\∀l,H l=none->Q (.ref l) (upd H l (.lst ys))
theorem UL:jt X (.type "list") ae2:=Ot.imp λxs H Q hP=>by obtain⟨p,ys,a,b,c⟩:=hP;exact⟨p,ys,a,.inl (.of b),c⟩
end
mutual
theorem Ub:∀ns:List Int,PyData.canLayAll0 (ns.map PyData.int)=true
 |[]=>rfl
 |n::ns=>by
  rw[List.map_cons];unfold PyData.canLayAll0;rw[Ub ns];rfl
end
inductive FL(H:Hp):Ζ->Γ->Prop
 |nil:FL H [] []
 |cons {p:Addr}{f:Β}{xs:Ζ}{fs:Γ} : H p=some (.tup [.int f.1,.int f.2])->FL H xs fs->FL H (.ref p::xs) (f::fs)
noncomputable def Its(x:Str):It:=⟨λi _=>i<x.cps.size,λi H v H'=>H'=H/\∃c,x.cps[i]?=some c/\v=.str ⟨#[c]⟩,λi _=>i=x.cps.size⟩
theorem Ri{P:Program}{w:World}{K:Frag}{tg:Expr}(it:Addr)(x:Str)(t:Tok)(ty:String)(iq : ["enumerate","zip","dict_itemiterator","dict_reverseitemiterator","odict_iterator","itertools.zip_longest","itertools.pairwise"].contains ty=false)
 (W:∀A:Around,A.handled=none->Walks P w A it [it] [it] x.cps.size (SignAt x) (λi h=>h.IsStrIter it ty x t i))
 (iE:∀(A:Around)(i:Nat)(s:Shared)(Q:Ε)(E:Ε),s.heap.IsStrIter it ty x t i->Q (.ref it) s->wpAny (model P w) A (pyIter (.ref it)) Q E s):Turn P w K tg (Its x) [it] it (λi h=>h.IsStrIter it ty x t i) where
 mem:=by simp
 obj:=λi h st b hb=>by
  have e:b=it:=by simpa using hb
  subst e;obtain⟨o,ho,_,hd⟩:=st;exact⟨o,ho,λv z=>by rw[hd]at z;cases z⟩
 keep:=λi h h' st k=>let⟨o,ho,r⟩:=st;⟨o,k it (by simp) o ho,r⟩
 item:=by
  intro X hP hw hK hc i aa s σ H E I hf st hg;subst hP hw hK;obtain⟨f0,f1,f2,f3,f4,f5⟩:=hf it (by simp);refine(W X.A (I.ok.hd hc)).item i s _ _ hg st λv h' tk hv du kk=>?_;obtain⟨c,u,hx,rfl⟩:=hv;have I1:Inv X aa σ H { s with heap:=h',toks:=tk }:=I.turned (λb o hb e=>kk b o (by simpa using hb) e) f0 f1 f3 f4 f5;obtain⟨o,ho,gT,hd⟩:=id du;exact⟨_,rfl,V9 (s:={ s with heap:=h',toks:=tk }) ho gT hd iq ⟨.str ⟨#[c]⟩,H,I1,⟨u,rfl⟩,⟨rfl,c,hx,rfl⟩,du,λb hb=>(hf b hb).1⟩⟩
 done:=by
  intro X hP hw hK hc i aa s σ H E I hf st hg;subst hP hw hK;obtain⟨f0,f1,f2,f3,f4,f5⟩:=hf it (by simp);have k5:i=x.cps.size:=hg;subst k5;exact(W X.A (I.ok.hd hc)).done s _ _ st λh' tk kk=>⟨rfl,I.turned (λb o hb e=>kk b o (by simpa using hb) e) f0 f1 f3 f4 f5⟩
 self:=iE
section
variable{X:Cx}{tg:Expr}
def anG(te:TE):TI:=λσ H R=>te σ H λv H1=>∃x,v=.str x/\R (Its x) H1
theorem afK{l:Expr}{tl:TE}(hl:PE X l tl):PI X tg l (anG tl):=by
 intro aa s σ H R I h;refine thn (hl aa s σ H _ I h) λv s1 hP=>?_;obtain⟨x,H1,I1,r1,y,ey,q⟩:=hP;subst ey;obtain⟨t,rfl⟩:=r1;have fp:∀b∈[s1.heap.objs.size],Ew X aa H1 b:=λb hb=>by
  have e:b=s1.heap.objs.size:=by simpa using hb
  subst e;exact I1.fpOk (aG _) (I1.hok.fresh (aG _))
 have k:∀o:Obj,Inv X aa σ H1 { s1 with heap:=s1.heap.push o }:=λo=>I1.kept (t':=s1.toks) λb ob z=>aH _ z;cases ha:y.cps.all (· < 128)
 .exact wpAny_pyIter_wide ha ⟨s1.heap.objs.size,[s1.heap.objs.size],_,Its y,H1,rfl,k _,Ri _ y t "str_iterator" (by decide) (λA hA=>Walks.strWide hA _ y t) (λA i s Q E st h=>wpAny_pyIter_striter_wide st h),⟨_,aW _ rfl,rfl,rfl⟩,fp,q⟩
 .exact wpAny_pyIter_ascii ha ⟨s1.heap.objs.size,[s1.heap.objs.size],_,Its y,H1,rfl,k _,Ri _ y t "str_ascii_iterator" (by decide) (λA hA=>Walks.strAscii hA _ y t) (λA i s Q E st h=>wpAny_pyIter_striter_ascii st h),⟨_,aW _ rfl,rfl,rfl⟩,fp,q⟩
end
noncomputable def Fl(x:Str)(lo hi:Option Int):Str:=⟨((x.cps.toList.drop (HT.sIx x.length 0 lo)).take (HT.sIx x.length x.length hi-HT.sIx x.length 0 lo)).toArray⟩
theorem strIdx(lo hi:Option Int)(n:Nat):Builtin.Str.strSliceIndices lo hi 1 n=(List.range (HT.sIx n n hi-HT.sIx n 0 lo)).map (HT.sIx n 0 lo + ·):=by
 rw[<- sliceRange_one];unfold Builtin.Str.strSliceIndices;have h1:∀(o:Option Int)(d:Nat),d<=n->(match o with
   |none=>(d:Int)
   |some i=>(let i:=if i<0 then i+(n:Int)else i;if(1:Int)>0 then max 0 (min i n)else max (-1) (min i (n-1))))=((HT.sIx n d o:Nat):Int):=by
  intro o d hd;cases o with
  |none=>rfl
  |some i =>
   simp only[HT.sIx,show(1:Int)>0 by decide,if_true];by_cases h:i<0
   .simp only[h,if_true]<;>lia
   .simp only[h,if_false]<;>lia
 have e1:=h1 lo 0 (aZ _);have e2:=h1 hi n (aG _);simp only[show(1:Int)>0 by decide,if_true]at e1 e2 ⊢;rw[<- e1,<- e2]
 rfl
theorem acz(x:Str)(lo hi:Option Int):(⟨((Builtin.Str.strSliceIndices lo hi 1 x.length).filterMap (x.cps[·]?)).toArray⟩ : Str)=Fl x lo hi:=by
 rw[strIdx,pick_run];rfl
theorem Uo(x:Str)(lo hi:Option Int)(h:(Builtin.Str.strSliceIndices lo hi 1 x.length).length=x.length):Fl x lo hi=x:=by
 rw[strIdx,ak,WJ]at h;have h2:=HT.ae7 x.length x.length (aG _) hi;unfold Fl;have hx:x.length=x.cps.size:=rfl;have e:x.cps.toList.length=x.length:=by simp[hx]
 by_cases z:x.length=0
 .have:x.cps.toList=[]:=List.length_eq_zero_iff.mp (Eq.trans e z);rw[this];obtain⟨⟨l⟩⟩:=x;simp at this;subst this;simp
 .have e0:HT.sIx x.length 0 lo=0:=by lia
  rw[e0,List.drop_zero,Zzu (by lia)]
def amW:V->Option Int->Option Int->Hp->VK->Prop:=λx lo hi H Q=>∃y,x=.str y/\y.length<=sizeLine/\Q (.str (Fl y lo hi)) H
theorem part_of{v:Value}{o:Option Int}(h:IsPart v o):∃l:Option (Int×Tok),v=partValue l/\l.map (·.1)=o:=by
 cases h with
 |none=>exact⟨none,rfl,rfl⟩
 |int i t=>exact⟨some (i,t),rfl,rfl⟩
theorem aeT{X:Cx} : SlR X amW:=by
 intro aa s σ H x v vl vu lo hi sl Q I rx hs pl pu h;obtain⟨y,rfl,hz,q⟩:=h;obtain⟨t,rfl⟩:=rx;obtain⟨l,rfl,el⟩:=part_of pl;obtain⟨u,rfl,eu⟩:=part_of pu;refine⟨"str",_,F.slot_str_getitem.lookup,typeIs_str s y t,wpAny_getItem_str_slice (l:=l) (u:=u) (st:=none) hs rfl ?_⟩;unfold sliceMade slicePicked;rw[el,eu];split
 .rename_i hw
  have hG:=(Bool.and_eq_true_iff.mp hw).2;rw[beq_iff_eq]at hG;have e:=Uo y lo hi hG;rw[e]at q;exact⟨.str y,H,I,⟨t,rfl⟩,q⟩
 .have e:=acz y lo hi;refine⟨?_,.str (Fl y lo hi),H,I.tok _,⟨s.toks,?_⟩,q⟩
  .refine aL ?_ hz;refine aL (WG (ZH Str.length e)) ?_;show((y.cps.toList.drop _).take _).toArray.size<=y.cps.size;rw[aX,aY,TW,Array.length_toList];lia
  .rw[<- e];rfl
section
variable{X:Cx}
def ajv:R2:=λx y H Q=>∃i j,x=.str i/\y=.str j/\i.length+j.length<=sizeLine/\Q (.str (i++j)) H
theorem acU:OpR X (binaryOp .Add) ajv:=Ul
def anl:R2:=λx y H Q=>∃i j,x=.str i/\y=.str j/\Q (.bl (!decide (j.cps.toList<i.cps.toList))) H
theorem aeQ:OpR X (compareOp .LtE) anl:=by
 intro aa s σ H x y v u Q I rx ry h;obtain⟨i,j,rfl,rfl,q⟩:=h;obtain⟨t,rfl⟩:=rx;obtain⟨t',rfl⟩:=ry;exact PySem.P.le_str (cX I q rfl)
theorem OpR.imp{f:Value->Value->Sem Value}{r r':R2}(h:OpR X f r)(i:∀x y H Q,r' x y H Q->r x y H Q):OpR X f r':=λaa s σ H x y v u Q I rx ry q=>h aa s σ H x y v u Q I rx ry (i _ _ _ _ q)
theorem Kv:∀{bs:List Bool}{us:Θ},Vals (bs.map V.bl) us->∀(i:Nat)(v:Value),us[i]?=some v->∃b,bs[i]?=some b/\v=.bool b
 |[],_,.nil,i,v,h=>by cases i<;>cases h
 |b::bs,_,.cons r t,0,v,h=>by
  rw[List.getElem?_cons_zero]at h;cases h;exact⟨b,rfl,r⟩
 |b::bs,_,.cons r t,i+1,v,h=>by
  rw[List.getElem?_cons_succ]at h;exact Kv t i v h
def ahU:Ζ->Hp->VK->Prop:=λxs H Q=>∃(l:Addr)(bs:List Bool),xs=[.ref l]/\H l=some (.lst (bs.map V.bl))/\Q (.bl (bs.all id)) H
theorem uP:∀bs:List Bool,((List.range bs.length).all λi=>(bs[i]?).getD true)=bs.all id
 |[]=>rfl
 |b::bs=>by
  rw[List.length_cons,List.range_succ_eq_map,List.all_cons,List.all_map,List.all_cons];have:=uP bs;simp only[Function.comp_def,List.getElem?_cons_succ,List.getElem?_cons_zero,Option.getD_some,id]at this ⊢;rw[this]
theorem XC(hc:X.calm=true):jt X (.builtin "all") ahU:=by
 intro aa s σ H xs us Q I r h;obtain⟨l,bs,rfl,hl,q⟩:=h;obtain⟨u,rfl,ru⟩:=r.one;cases ru;obtain⟨its,rv,p⟩:=I.lstIs hl;have fw:l<s.heap.objs.size:=by obtain⟨_,e,_⟩:=p;exact aK e
 refine call_all_walk (wpAny_pyIter_list p ?_);refine⟨s.heap.objs.size,[s.heap.objs.size,l],[s.heap.objs.size],its.toArray.size,_,_,λi=>(bs[i]?).getD true,rfl,Walks.list (A:=X.A.in1) (I.ok.hd hc) _ l (aQ fw) its.toArray,
  ⟨⟨_,aW _ rfl,rfl,rfl⟩,p.push _⟩,λi v s' Q' E' hP hQ=>?_,λh' tk hk=>?_⟩
 .obtain⟨b,e,rfl⟩:=Kv rv i v (by simpa using hP);simp only[e,Option.getD_some]at hQ;exact wpAny_truthy_bool hQ
 .have e:((List.range its.toArray.size).all λi=>(bs[i]?).getD true)=bs.all id:=by
   rw[aX,<- rv.length,ak];exact uP bs
  refine⟨.bl (bs.all id),H,I.kept (t':=tk) λb o q=>hk b o (λhm=>?_) (aH _ q),?_,q⟩
  .rw[YR.mp hm]at q;exact X9 _ (aK q)
  .rw[e];rfl
def tSM(r:V->Ζ->Hp->VK->Prop)(to:TE)(t:TA):TE:=λσ H Q=>to σ H λx H1=>(∃y,x=.str y)/\t σ H1 λvs H2=>r x vs H2 Q
theorem akp{o e:Expr}{to:TE}{t:TA}{name:Str}{id:String}{r:V->Ζ->Hp->VK->Prop}{am af:Pos}(slot:Slot "str" name id)(iq:typeOf (.builtin id)=pure (.type "method_descriptor"))(hm:MtM X id r)(ho:PE X o to)(ha:PA X [e] t)
 (hb:attributeBase o name X.env (eval o X.env)=eval o X.env:=by rfl)
 (hf:((backTo af (starEach [e] X.env)).all (λx=>!x.1)&&(backToKw af (keywordEach [] X.env)).all (λx=>x.1.isSome)&&decide ([e].length+([] : List Keyword).length+(if([] : List Keyword).isEmpty then 0 else 1)<30))=true:=by rfl)
 (hl:(am.endLine==af.line)=true:=by rfl)(hs:starEach [e] X.env=(false,eval e X.env)::starEach [] X.env:=by rfl)(hp:(backTo af (starEach [] X.env)).any (·.1)=false:=by rfl) :
  PE X (.Call (.Attribute o name am) [e] [] af) (tSM r to t):=by
 refine(Yi PySem.F.plainAttrs_str slot iq hm ho.mono ha hb hf hl hs hp).imp λσ H Q h=>?_;refine⟨_,h,?_⟩;rintro x H1 ⟨⟨y,rfl⟩,h2⟩;exact⟨rfl,h2⟩
theorem Y_{x:Str}{v:V}{pos:Pos}(hg:Gl X x)(hm:∃u,X.mg x=some u/\RelV v u)(hd:(x==("__debug__":Str))=false:=by decide):PE X (.Name x pos) (tC v):=by
 obtain⟨u,h1,h2⟩:=hm;exact U9 hg h1 h2 hd
end
noncomputable def hid(y:Str):Str:=Str.ofString "?"++y
def Ky(xs:Φ)(N:Φ):Φ:=N.map λy=>if y∈xs then hid y else y
def Cx.compG(X:Cx)(N':Φ)(scope:Scope)(xs:Φ)(C:Addr)(s₀:Shared)(H₀:Hp)(ex:Ψ)(pn:Δ):Cx :=
 { X with env:=compEnvC scope (uU X.env.cells scope.names []) C X.env,N:=xs++N',s₀:=s₀,H₀:=H₀,outer:=X.stack,ex:=ex,fn:=λ_=>false,pn:=pn,xe:=λ_ _=>False }
def PTs(X:Cx)(aE:List Expr)(tc:TT):Prop:=∀(aa:Δ)(s:Shared)(σ:L2.St)(H:Hp)(Q:Bool->Hp->Prop),Inv X aa σ H s->tc σ H Q ->
 wpAny (model X.prog X.w) X.A (forIn aE true λc r=>if r=true then do let ok <- isTrue c X.env (eval c X.env);pure (ForInStep.yield ok)else pure (ForInStep.yield r)) (λb s'=>∃H',Inv X aa σ H' s'/\Q b H') X.xe s
def ana:TT:=λ_ H Q=>Q true H
theorem acT{X:Cx} : PTs X [] ana:=λ_ _ _ H _ I q=>wpAny_tests_nil ⟨H,I,q⟩
theorem abo{X:Cx}{c:Expr}{tc:TT}(h:PT X c tc):PTs X [c] tc:=λaa s σ H Q I q=>wpAny_tests_one (h aa s σ H Q I q)
def q_(wi:TI)(n:Nat)(gt:TG)(tc:TT)(te:TE):TE:=λσ H Q=>wi σ H λJ H1=>∀D,H1 D=none->∃W:Nat->Nat->Ζ->Hp->Prop,(∃m,W 0 m [] (upd H1 D (.lst [])))/\∀i m ys Hc,W i m ys Hc ->
 (J.stop i Hc/\Q (.ref D) Hc)\/(J.go i Hc/\∀x H',J.yld i Hc x H'->∀pre:L2.St,pre.length=n->gt x (pre++σ) H' λσ2 H2=>∃b5:L2.St,b5.length=n/\σ2=b5++σ/\tc σ2 H2 λb H3 =>
  match b with
  |true=>te σ2 H3 λy H4=>ys.length<sizeLine/\H4 D=some (.lst ys)/\∃m',m'<m/\W (i+1) m' (ys++[y]) (upd H4 D (.lst (ys++[y])))
  |false=>∃m',m'<m/\W (i+1) m' ys H3)
def Cx.compE(X:Cx)(ext:Addr->List (Str×Addr))(fn:Str->Bool)(N':Φ)(scope:Scope)(xs:Φ)(C:Addr)(s₀:Shared)(H₀:Hp)(ex:Ψ)(pn:Δ):Cx :=
 { X with env:=compEnvC scope (ext C++uU X.env.cells scope.names []) C X.env,N:=xs++N',s₀:=s₀,H₀:=H₀,outer:=X.stack,ex:=ex,fn:=fn,pn:=pn,xe:=λ_ _=>False }
structure Rf(X:Cx)(scope:Scope)(xs:Φ)(ext:Addr->List (Str×Addr))(fn:Str->Bool):Prop where
 new:∀{M:Model}{A:Around}{E:Ε}{s:Shared}{globals:Addr}{bE:List (Str×Addr)}{ai:Str}{outer:Env}{Q:Env->Shared->Prop},(∀g,g.Ns s.heap.objs.size (λx=>([] : List (Str×Value)).reverse.lookup x)->(∀y c,(ext s.heap.objs.size).lookup y=some c->g.IsCell c none)->(∀b o,s.heap.get? b=some o->g.get? b=some o)->Q (newEnv scope s.heap.objs.size globals (ext s.heap.objs.size++bE) ai none .none (some outer) builtinsNs) { s with heap:=g,toks:=s.toks+([] : List (Str×Value)).length }) ->
  wpAny M A (newFunctionEnv scope globals bE [] ai none .none (some outer)) Q E s
 up:∀C y c,(ext C).lookup y=some c->C<c
 one:∀C y z c,(ext C).lookup y=some c->(ext C).lookup z=some c->y=z
 nw:∀C y,fn y=true->∃c,(ext C).lookup y=some c
 off:∀C y,y∉xs->(ext C).lookup y=none
 kd:∀C y,((relabel scope X.env).names.lookup y=some .cell\/(relabel scope X.env).names.lookup y=some .free)->(∃c,(ext C).lookup y=some c)\/(y,NameKind.free)∈scope.names
theorem aii{X:Cx}{scope:Scope}{xs:Φ}(hk:scope.kind=.function)(cK:∀y∈scope.names,y.2≠.cell):Rf X scope xs (λ_=>[]) (λ_=>false) :=
 ⟨λhQ=>wpAny_newFunctionEnv cK (by intro y hy;simp at hy) (λg d6 hsb=>hQ g d6 (λ_ _ z=>(nomatch z)) λb o e=>(hsb.2 b (aQ (aK e))).trans (aH _ e)) hk,λ_ _ _ z=>(nomatch z),λ_ _ _ _ z=>(nomatch z),λ_ _ z=>(nomatch z),λ_ _ _=>rfl,λ_ _ e=>.inr (Ci e cK)⟩
section
variable{X:Cx}{a8 iter:Expr}{pos:Pos}{scope:Scope}{wi:TI}{te:TE}
theorem Kf{ext:Addr->List (Str×Addr)}{fn:Str->Bool}{use:Option (Value->Sem Unit)}{post:Ε}{Qv:VK}{aa:Δ}{s:Shared}{σ:L2.St}{H:Hp}{pp:Pos}{xs N':Φ}{tg:Expr}{aE:List Expr}{gt:TG}{tc:TT}(E:Rf X scope xs ext fn)(hc:X.calm=true)(f7:Ky xs X.N=N')(cf:scope.kind=.function)(cy:∀y∈scope.names,y.2=.local->scope.names.lookup y.1=some .local)
 (b9:∀y∈scope.names,y.2=.free->X.env.kindOf y.1=some .cell\/X.env.kindOf y.1=some .free)(e9:∀y∈X.N,y∉xs->(relabel scope X.env).names.lookup y≠some .local)(hq:∀y∈X.N,y∈xs->(relabel scope X.env).names.lookup (hid y)=none)(hi:PI X tg iter wi)
 (hg:∀C s₀ H₀ ex pn,PG (X.compE ext fn N' scope xs C s₀ H₀ ex pn) tg gt)(ht:∀C s₀ H₀ ex pn,PTs (X.compE ext fn N' scope xs C s₀ H₀ ex pn) aE tc)(he:∀C s₀ H₀ ex pn,PE (X.compE ext fn N' scope xs C s₀ H₀ ex pn) a8 te)(hs:∀z,foldedSetIterable iter X.env z=pure z)(I:Inv X aa σ H s)(h:q_ wi xs.length gt tc te σ H Qv)
 (mw:∀(C D:Addr)(Hc:Hp)(s6:Shared)(m:Str->Ω)(fl:Flow),s6.heap.Ns C m->Inv X aa σ Hc s6->Ew X aa Hc C->Qv (.ref D) Hc->compPost (model X.prog X.w) X.A X.xe use post (.ref D) C (.ok fl) s6) :
  wpAny (model X.prog X.w) X.A (comprehension (.ListComp a8 [⟨tg,iter,aE,0⟩] scope pos) scope X.env pp (newList []) false (eval iter X.env) use) post X.xe s:=by
 have j':∀y∈scope.names,y.2=.free->∃c,X.env.cells.lookup y.1=some c:=λy hy e=>I.ok.has y.1 (b9 y hy e);refine wpAny_comprehension_free (use:=use) (Q:=post) rfl hs (Tc j') cf cy (thn (hi aa s σ H _ I h) λv s1 h1=>thn h1 λkH s2 h2=>?_);obtain⟨it,fp,tn,J,H2,e,I2,T,fF,f2,R⟩:=h2;subst e;have nD:H2 s2.heap.objs.size=none:=I2.hok.fresh (aG _);obtain⟨W,⟨m0,w0⟩,eQ⟩:=R s2.heap.objs.size nD;refine wpAny_newObj_type ?_ (by show 0<=sizeLine;exact aZ _);have I3:Inv X aa σ (upd H2 s2.heap.objs.size (.lst [])) { s2 with heap:=s2.heap.push { cls:=.type "list",dict:=none,data:=.seq ([] : Θ).toArray } }:=I2.lnew (t':=s2.toks) (ys:=[]) (its:=[]) .nil (aZ _);have kA:∀b o,s2.heap.get? b=some o->(s2.heap.push { cls:=.type "list",dict:=none,data:=.seq ([] : Θ).toArray }).get? b=some o:=λb o e=>aH _ e;generalize hs3:({ s2 with heap:=s2.heap.push { cls:=.type "list",dict:=none,data:=.seq ([] : Θ).toArray } } : Shared)=s3 at I3 ⊢;have g5:tn 0 s3.heap:=T.keep _ _ _ fF λb _ o e=>by rw[<- hs3];exact kA b o e
 generalize hH3:upd H2 s2.heap.objs.size (.lst [])=H3 at I3 w0;have f3:∀b∈fp,Ew X aa H3 b:=λb hb=>by
  obtain⟨a1,a2⟩:=f2 b hb;refine⟨?_,a2⟩;obtain⟨o,e,_⟩:=T.obj _ _ fF b hb;rw[<- hH3,cF (aQ (aK e))];exact a1
 refine E.new λg d6 gT kg=>?_;have clm:∀{y:Str}{c:Addr},(uU X.env.cells scope.names []).lookup y=some c->X.env.cells.lookup y=some c:=λ{y c}e=>by
  rcases P0 j' (PySem.mem_of_lookup e)with z|z
  .cases z
  .exact z
 have fS:∀{y:Str},(ext s3.heap.objs.size).lookup y=none->((relabel scope X.env).names.lookup y=some .cell\/(relabel scope X.env).names.lookup y=some .free)->(X.env.kindOf y=some .cell\/X.env.kindOf y=some .free)/\∃c,(ext s3.heap.objs.size++uU X.env.cells scope.names []).lookup y=some c/\X.env.cells.lookup y=some c:=λ{y}ny e=>by
  rcases E.kd s3.heap.objs.size y e with⟨c,z⟩|z
  .rw[ny]at z;cases z
  .obtain⟨c,dk⟩:=PK (cells:=X.env.cells) (acc:=[]) (.inl z);obtain⟨c,dk⟩:=pX dk;exact⟨b9 _ z rfl,c,by rw[List.lookup_append,ny];exact dk,clm dk⟩
 have i9:∀{y:Str}{c:Addr},(ext s3.heap.objs.size++uU X.env.cells scope.names []).lookup y=some c->(ext s3.heap.objs.size).lookup y=some c\/X.env.cells.lookup y=some c:=λ{y c}e=>by
  rw[List.lookup_append]at e;cases hy:(ext s3.heap.objs.size).lookup y with
  |some d=>rw[hy]at e;exact .inl e
  |none=>rw[hy]at e;exact .inr (clm e)
 have cll:∀{y z c},(ext s3.heap.objs.size).lookup z=some c->¬X.env.cells.lookup y=some c:=λ{y z c}e1 e=>by
  obtain⟨v,o,h1,_⟩:=I3.cell y c e;exact X9 _ (Tk (aK h1) (E.up _ _ _ e1))
 have kD:∀b∈fp,b<s3.heap.objs.size:=λb hb=>by
  obtain⟨o,e,_⟩:=T.obj _ _ g5 b hb;exact aK e
 have nst:∀b∈fp,b∉frs X.stack:=λb hb=>I3.nostk' (f3 b hb).2.1 (f3 b hb).2.2.1;have cfp:∀b∈fp,∀y c,(ext s3.heap.objs.size++uU X.env.cells scope.names []).lookup y=some c->c≠b:=λb hb y c e=>by
  rcases i9 e with z|z
  .exact UT (Tk (kD b hb) (E.up _ _ _ z))
  .exact(f3 b hb).2.2.2.2.1 y c z
 generalize hX:X.compE ext fn N' scope xs s3.heap.objs.size s3 H3 fp (X.pn++aa)=Y;have ok':Y.Ok:=by
  subst hX;exact⟨I3.ok.mod,cf,I3.ok.glob,I3.ok.blt,aG _,λy z c h1 h2=>by
    rcases i9 h1 with e1|e1<;>rcases i9 h2 with e2|e2
    .exact E.one _ _ _ _ e1 e2
    .exact absurd e2 (cll e1)
    .exact absurd e1 (cll e2)
    .exact I3.ok.inj y z c e1 e2,λy hy=>by
    cases hz:(ext s3.heap.objs.size).lookup y with
    |some c=>exact⟨c,List.lookup_append.trans (by rw[hz];rfl)⟩
    |none=>exact let⟨_,c,q,_⟩:=fS hz hy;⟨c,q⟩,λy c iX e=>by
    obtain⟨d,z⟩:=E.nw s3.heap.objs.size y iX;have e:(ext s3.heap.objs.size++uU X.env.cells scope.names []).lookup y=some c:=e;rw[List.lookup_append,z]at e;cases e;exact Y2 (E.up _ _ _ z),I3.ok.hd,I3.ok.frames,.inl rfl,
   λb hb=>⟨aQ (kD b hb),cfp b hb⟩,I3.bs,aL I3.ok.bsz I3.sz,λb o e hb=>by
    rcases(f3 b hb).2.2.2.1 with z|z
    .exact I3.ok.noex b o e z
    .exact absurd (aR (aR (aK e) I3.ok.bsz) z) (X9 _),nst,I3.stack,I3.stkFree⟩
 have J4:∀tk,Inv Y [] (List.replicate xs.length none++σ) H3 { s3 with heap:=g,toks:=tk }:=λtk=>by
  subst hX;refine⟨ok',rfl,I3.bare,Un.kept kg,⟨_,d6,λi y v e1 e2 e3=>?_⟩,λy c e=>?_,I3.hok.fresh (aG _),λy c e=>(i9 e).elim (λz=>I3.hok.fresh (Y2 (E.up _ _ _ z))) (I3.freeC y c),λp hp=>?_,I3.hok.kept kg,?_⟩
  .by_cases hin:i<xs.length
   .rw[aF (by rw[aN];exact hin),X0,ZY hin]at e2;cases e2
   .obtain⟨j,rfl⟩ : ∃j,i=xs.length+j:=⟨i-xs.length,by lia⟩;have e0:N'[j]?=some y:=by
     have e1:(xs++N')[xs.length+j]?=some y:=e1;rw[aD (X2 _ _)]at e1;rw[show xs.length+j-xs.length=j by exact JU _ _]at e1;exact e1
    have kb:σ[j]?=some (some v):=by
     rw[aD (by rw[aN];exact X2 _ _),aN]at e2;rw[show xs.length+j-xs.length=j by exact JU _ _]at e2;exact e2
    rw[<- f7]at e0;obtain⟨y0,h7,ey⟩ : ∃y0,X.N[j]?=some y0/\(if y0∈xs then hid y0 else y0)=y:=by
     unfold Ky at e0;rw[aq]at e0;cases hz:X.N[j]? with
     |none=>rw[hz]at e0;cases e0
     |some y0=>rw[hz]at e0;exact⟨y0,rfl,Option.some.inj e0⟩
    have e3:(relabel scope X.env).names.lookup y=some .local\/(relabel scope X.env).names.lookup y=some .cell\/(relabel scope X.env).names.lookup y=some .free:=e3;have ne:¬y0∈xs:=λz=>by
     rw[ZY z]at ey;subst ey;rw[hq y0 (aC h7) z]at e3;rcases e3 with z|z|z<;>cases z
    rw[ZZ ne]at ey;subst ey;have e3':(relabel scope X.env).names.lookup y0=some .cell\/(relabel scope X.env).names.lookup y0=some .free:=by
     rcases e3 with z|z
     .exact absurd z (e9 y0 (aC h7) ne)
     .exact z
    obtain⟨kd,c,gT,ka⟩:=fS (E.off _ _ ne) e3';obtain⟨m,_,hl⟩:=I3.loc;obtain⟨u,r,lk⟩:=hl j y0 v h7 kb (.inr kd);refine⟨u,r,.inr ⟨e3',c,gT,?_⟩⟩;rcases lk with⟨k1,_⟩|⟨_,c',q1,o,q2,q3⟩
    .exfalso;have k1':X.env.kindOf y0=some .local:=k1;rcases kd with k2|k2<;>rw[k1']at k2<;>cases k2
    .rw[ka]at q1;cases q1;exact⟨o,kg _ _ q2,q3⟩
  .rcases i9 e with z|z
   .exact⟨none,gT y c z⟩
   .obtain⟨v,o,q2,q3⟩:=I3.cell y c z;exact⟨v,o,kg _ _ q2,q3⟩
  .have c8:p∈X.pn++aa:=by simpa[Cx.compE]using hp
   obtain⟨a1,a2,a3,a4,a5⟩:=I3.pin p c8;exact⟨kg _ _ a1,a2,aQ (aK a1),I3.nostk' a3 a4,a5⟩
  .show(List.replicate xs.length none++σ).length=(xs++N').length;have hln:N'.length=X.N.length:=by rw[<- f7];unfold Ky;rw[ak]
   rw[aA,aN,aA,I3.len,hln]
 have mf:∀{Hc:Hp},(∀b∈fp,Hc b=none)->∀b∈fp,Ew Y [] Hc b:=λ{Hc}hn b hb=>by
  subst hX;exact⟨hn b hb,aQ (kD b hb),nst b hb,.inl hb,cfp b hb,λp hp=>(f3 b hb).2.2.2.2.2 p (by simpa[Cx.compE]using hp)⟩
 have gy:∀s4:Shared,s4={ s3 with heap:=g,toks:=s3.toks+([] : List (Str×Value)).length } ->
   codeAny (model X.prog X.w) X.A (.compLoop (.ListComp a8 [⟨tg,iter,aE,0⟩] scope pos) 0 (.ref it) (.ref s2.heap.objs.size) Y.env) (compPost (model X.prog X.w) X.A X.xe use post (.ref s2.heap.objs.size) s3.heap.objs.size) s4:=by
  rintro s4 rfl;have YP:Y.prog=X.prog/\Y.w=X.w/\Y.K=X.K/\Y.calm=X.calm/\Y.A=X.A/\Y.env.locals=s3.heap.objs.size:=by subst hX;exact⟨rfl,rfl,rfl,rfl,rfl,rfl⟩
  obtain⟨y1,y2,y3,y4,y5,y6⟩:=YP;have he':PE Y a8 te:=by subst hX;exact he _ _ _ _ _
  have k5:PG Y tg gt:=by subst hX;exact hg _ _ _ _ _
  have ht':PTs Y aE tc:=by subst hX;exact ht _ _ _ _ _
  have ja:Y.xe=λ_ _=>False:=by subst hX;rfl
  have yb:∀{Hc:Hp}{w':L2.St}{pn:Δ}{s':Shared},Inv Y pn w' Hc s'->Un (frs X.stack) fp H3 Hc s3.heap s'.heap:=λ{Hc w' pn s'}Z=>by
   have:=Z.base;subst hX;exact this
  have yos:∀{Hc:Hp}{w':L2.St}{pn:Δ}{s':Shared},Inv Y pn w' Hc s'->s'.os=s3.os:=λ{Hc w' pn s'}Z=>by
   have:=Z.os;subst hX;exact this
  refine codeAny_loop rfl (λn s'=>∃i ys Hc,∃w':L2.St,w'.length=xs.length/\Inv Y [] (w'++σ) Hc s'/\tn i s'.heap/\(∀b∈fp,Hc b=none)/\W i n ys Hc) (λn s5 hI=>?_) m0 ⟨0,[],H3,List.replicate xs.length none,aN,J4 _,T.keep _ _ _ g5 λb _ o e=>kg b o e,λb hb=>(f3 b hb).1,w0⟩;obtain⟨i,ys,Hc,w',hG,Z,stc,frc,wc⟩:=hI;show wpAny _ _ ((compTurn (.ListComp a8 [⟨tg,iter,aE,0⟩] scope pos) 0 (.ref it) (.ref s2.heap.objs.size) Y.env).onRaise (λz=>do noteFrame z Y.env;theTreesLotGoes z)) _ _ s5;refine wpAny_noted (wpAny_noRaise ?_);rw[compTurn_list];show wpAny (model X.prog X.w) X.A _ _ _ _;rcases eQ i n ys Hc wc with⟨stop,qn⟩|⟨go,step⟩
  .have hd:=T.done Y y1 y2 y3 (y4.trans hc) i [] s5 (w'++σ) Hc (λ_ _=>False) Z (mf frc) stc stop;rw[y5]at hd;refine ZU (wpAny_standAt (ZU (thn hd λr s6 hP=>?_)));obtain⟨hr,Z6⟩:=hP;subst hr;refine ZT ?_;obtain⟨m,iL,_⟩:=Z6.loc;rw[y6]at iL;have u6:=yb Z6;have hok:HOk X.prog X.w Hc s6.heap:=by
    have z:=Z6.hok;rw[y1,y2]at z;exact z
   have cn:Hc s3.heap.objs.size=none:=by
    have z:=Z6.free;rw[y6]at z;exact z
   have I6:Inv X aa σ Hc s6:=I3.call' (s':=s6) (ch:=fp) (yos Z6) u6 hok Z6.bare λb hb=>⟨(f3 b hb).2.2.2.1,(f3 b hb).2.1,(f3 b hb).2.2.2.2.1,(f3 b hb).2.2.2.2.2⟩;have fC:Ew X aa Hc s3.heap.objs.size:=I3.fpOk (aG _) cn;exact mw _ _ Hc s6 m _ iL I6 fC qn
  .have hd:=T.item Y y1 y2 y3 (y4.trans hc) i [] s5 (w'++σ) Hc (λ_ _=>False) Z (mf frc) stc go;rw[y5]at hd;refine ZU (wpAny_standAt (ZU (thn hd λr s6 hP=>?_)));obtain⟨u,hr,h6⟩:=hP;subst hr;refine ZU (thn h6 λ_ s7 hP=>?_);obtain⟨xv,H7,Z7,r7,yl,kn,fr7⟩:=hP;have Z7':=Z7.pinned (mf fr7) (T.obj _ _ kn);have b8:=k5 _ s7 _ H7 xv u _ Z7' r7 (step xv H7 yl w' hG);rw[y1,y2,y5,ja]at b8;refine ZU (thn b8 λ_ s8 hP=>?_);obtain⟨σ8,H8,Z8,pre,eC,e8,q8⟩:=hP;subst e8;have hte:=ht' _ s8 _ H8 _ Z8 q8;rw[y1,y2,y5,ja]at hte;have br:∀{m':Nat}{i':Ζ}{H9:Hp}{s9:Shared},Inv Y ([]++Ik fp s7.heap) (pre++σ) H9 s9->m'<n->W (i+1) m' i' H9->∃m,m<n/\∃i ys Hc,∃w':L2.St,w'.length=xs.length/\Inv Y [] (w'++σ) Hc s9/\tn i s9.heap/\(∀b∈fp,Hc b=none)/\W i m ys Hc:=λ{m' i' H9 s9}Z9 iN w9 =>
    ⟨m',iN,i+1,i',H9,pre,eC,Z9.unpinned,T.keep _ _ _ kn λb hb o e=>(Z9.pin (b,o) (aP _ (aP _ (qg hb e)))).1,λb hb=>by
     obtain⟨o,e,_⟩:=T.obj _ _ kn b hb;exact(Z9.pin (b,o) (aP _ (aP _ (qg hb e)))).2.1,w9⟩
   refine ZU (thn hte λok s9 hP=>?_);obtain⟨H9,Z9,q9⟩:=hP;cases ok with
   |false =>
    obtain⟨m',iN,w9⟩:=q9;exact ZT ⟨rfl,br Z9 iN w9⟩
   |true =>
    have hel:=he' _ s9 _ H9 _ Z9 q9;rw[y1,y2,y5,ja]at hel;refine ZU (ZU (thn hel λev s10 hP=>?_));obtain⟨yv,H10,Z10,r10,hz,l6,m',iN,w10⟩:=hP;have l4:=Ko (X:=Y) _ s10 _ H10 (.ref s2.heap.objs.size) [yv] (.ref s2.heap.objs.size) [ev] (λ_ Hf=>Hf=upd H10 s2.heap.objs.size (.lst (ys++[yv]))) Z10 rfl (.cons r10 .nil) ⟨_,ys,yv,rfl,rfl,l6,hz,rfl⟩;rw[y1,y2,y5,ja]at l4;refine ZU (thn l4 λav s11 hP=>?_);obtain⟨_,H11,Z11,_,e11⟩:=hP;subst e11;exact ZT (ZT ⟨rfl,br Z11 iN w10⟩)
 have k8:Y.env=compEnvC scope (ext s3.heap.objs.size++uU X.env.cells scope.names []) s3.heap.objs.size X.env:=by subst hX;rfl
 rw[k8]at gy;exact codeAny_compStart_list (gy _ rfl) (T.self _ 0 _ _ _ (T.keep _ _ _ g5 λb _ o e=>kg b o e) (gy _ rfl))
theorem Qx{ext:Addr->List (Str×Addr)}{fn:Str->Bool}{xs N':Φ}{tg:Expr}{aE:List Expr}{gt:TG}{tc:TT}(E:Rf X scope xs ext fn)(hc:X.calm=true)(f7:Ky xs X.N=N')(cf:scope.kind=.function)(cy:∀y∈scope.names,y.2=.local->scope.names.lookup y.1=some .local)
 (b9:∀y∈scope.names,y.2=.free->X.env.kindOf y.1=some .cell\/X.env.kindOf y.1=some .free)(e9:∀y∈X.N,y∉xs->(relabel scope X.env).names.lookup y≠some .local)(hq:∀y∈X.N,y∈xs->(relabel scope X.env).names.lookup (hid y)=none)(hi:PI X tg iter wi)
 (hg:∀C s₀ H₀ ex pn,PG (X.compE ext fn N' scope xs C s₀ H₀ ex pn) tg gt)(ht:∀C s₀ H₀ ex pn,PTs (X.compE ext fn N' scope xs C s₀ H₀ ex pn) aE tc)(he:∀C s₀ H₀ ex pn,PE (X.compE ext fn N' scope xs C s₀ H₀ ex pn) a8 te)(hs:∀z,foldedSetIterable iter X.env z=pure z) :
  PE X (.ListComp a8 [⟨tg,iter,aE,0⟩] scope pos) (q_ wi xs.length gt tc te):=by
 intro aa s σ H Q I h;rw[eval_ListComp];exact Kf E hc f7 cf cy b9 e9 hq hi hg ht he hs I h λC D Hc s6 m fl hn I6 fC q=>⟨m,hn,λh' kP=>⟨.ref D,Hc,I6.turned (it:=C) (h':=h') (t':=s6.toks) (λb o hb e=>(kP.2 b hb).trans e) fC.1 fC.2.1 fC.2.2.2.1 fC.2.2.2.2.1 fC.2.2.2.2.2,rfl,q⟩⟩
end
section
variable{κ:Type}[DecidableEq κ]
noncomputable def Hy(kvs:List (κ×V))(k:κ):Option V:=(kvs.find? λkv=>decide (kv.1=k)).map (·.2)
noncomputable def putK(kvs:List (κ×V))(k:κ)(v:V):List (κ×V) :=
 if(kvs.any λkv=>decide (kv.1=k))=true then kvs.map (λkv=>if kv.1=k then(kv.1,v)else kv)else kvs++[(k,v)]
theorem Qz{p:κ×V}{r:List (κ×V)}{k:κ}(e:p.1=k):Hy (p::r) k=some p.2:=by simp[Hy,List.find?_cons,e]
theorem HB{p:κ×V}{r:List (κ×V)}{k:κ}(e:¬p.1=k):Hy (p::r) k=Hy r k:=by simp[Hy,List.find?_cons,e]
theorem PL(kvs:List (κ×V))(k:κ)(v:V):(putK kvs k v).length<=kvs.length+1:=by
 unfold putK;split
 .rw[ak];exact Xs _
 .rw[aA,List.length_cons,List.length_nil];exact aG _
theorem yD.isSome_eq{o:Option V}{u:Ω}(r:yD o u):o.isSome=u.isSome:=by
 cases o with
 |none=>cases u with
  |none=>rfl
  |some _=>exact(show False from r).elim
 |some _=>cases u with
  |none=>exact(show False from r).elim
  |some _=>rfl
theorem yD.getD{o:Option V}{u:Ω}{d:V}{d':Value}(r:yD o u)(rd:RelV d d'):RelV (o.getD d) (u.getD d'):=by
 cases o with
 |none=>cases u with
  |none=>exact rd
  |some _=>exact(show False from r).elim
 |some _=>cases u with
  |none=>exact(show False from r).elim
  |some _=>exact r
theorem KV.val{kvs:List (κ×V)}{vs:List (κ×Value)}(r:KV kvs vs)(k:κ):yD (Hy kvs k) (valueAt vs k):=by
 unfold KV at r
 induction r with
 |nil=>exact True.intro
 |@cons p q ps qs h t ih =>
  obtain⟨h1,h2⟩:=h;by_cases e:p.1=k
  .have e':q.1=k:=h1.symm.trans e;have b:valueAt (q::qs) k=some q.2:=by simp[valueAt,List.find?_cons,e']
   rw[Qz e,b];exact h2
  .have e':¬q.1=k:=λz=>e (h1.trans z);have b:valueAt (q::qs) k=valueAt qs k:=by simp[valueAt,List.find?_cons,e']
   rw[HB e,b];exact ih
theorem KV.any{kvs:List (κ×V)}{vs:List (κ×Value)}(r:KV kvs vs)(k:κ):(kvs.any λkv=>decide (kv.1=k))=vs.any λkv=>decide (kv.1=k):=by
 unfold KV at r
 induction r with
 |nil=>rfl
 |cons h t ih=>rw[List.any_cons,List.any_cons,ih,h.1]
theorem KV.repl{kvs:List (κ×V)}{vs:List (κ×Value)}(r:KV kvs vs)(k:κ){y:V}{u:Value}(ry:RelV y u) :
  KV (kvs.map λkv=>if kv.1=k then(kv.1,y)else kv) (vs.map λkv=>if kv.1=k then(kv.1,u)else kv):=by
 unfold KV at r ⊢
 induction r with
 |nil=>exact .nil
 |@cons p q ps qs h t ih =>
  rw[List.map_cons,List.map_cons];refine .cons ?_ ih;obtain⟨h1,h2⟩:=h;by_cases e:p.1=k
  .rw[ZY e,ZY (h1.symm.trans e)];exact⟨h1,ry⟩
  .rw[ZZ e,ZZ (λz=>e (h1.trans z))];exact⟨h1,h2⟩
theorem KV.put{kvs:List (κ×V)}{vs:List (κ×Value)}(r:KV kvs vs)(k:κ){y:V}{u:Value}(ry:RelV y u):KV (putK kvs k y) (stored vs k u):=by
 unfold putK stored;rw[r.any k];by_cases e:(vs.any λkv=>decide (kv.1=k))=true
 .rw[ZY e,ZY e];exact r.repl k ry
 .rw[ZZ e,ZZ e];exact Paired.snoc r ⟨rfl,ry⟩
theorem KV.length{kvs:List (κ×V)}{vs:List (κ×Value)}(r:KV kvs vs):kvs.length=vs.length:=Paired.length r
end
theorem Q0{P:Program}{w:World}{k:Key}{u:Value}(r:RelV (kV k) u):(iV P w).is k u=true:=by
 cases k with
 |inl i=>obtain⟨t,e⟩:=(show ∃t,u=Value.int i t from r);subst e;exact Q7 P w i t
 |inr x=>obtain⟨t,e⟩:=(show ∃t,u=Value.str x t from r);subst e;exact Ql P w x t
section
variable{P:Program}{w:World}{H:Hp}{h:Heap}{a:Addr}
theorem alf{u:HO}(ok:HOk P w H h)(e:Rd H a u):fZ P w H h a u:=e.ok ok
theorem GQ{kvs:List (Key×V)}(ok:HOk P w H h)(e:Rd H a (.dK kvs)):kvs.length<=sizeLine/\(a==sysModules)=false/\∃vs,KV kvs vs/\h.DictOf (iV P w) a vs :=
 show fZ P w H h a (.dK kvs)from alf ok e
theorem akA{kvs:List (Key×V)}(ok:HOk P w H h)(e:H a=some (.dK kvs)):kvs.length<=sizeLine/\(a==sysModules)=false/\∃vs,KV kvs vs/\h.DictOf (iV P w) a vs:=GQ ok (.inl e)
end
def DR(H:Hp)(a:Addr)(y:V)(r:Option V):Prop :=
 (∃kvs k,Rd H a (.dK kvs)/\y=kV k/\r=Hy kvs k)\/False
def aj2(H:Hp)(a:Addr)(y v:V)(H':Hp):Prop :=
 (∃kvs k,H a=some (.dK kvs)/\y=kV k/\kvs.length<sizeLine/\H'=upd H a (.dK (putK kvs k v)))\/False
theorem DR.k{H:Hp}{a:Addr}{kvs:List (Key×V)}{k:Key}(e:H a=some (.dK kvs)):DR H a (kV k) (Hy kvs k):=.inl ⟨kvs,k,.inl e,rfl,rfl⟩
section
variable{X:Cx}{aa:Δ}{σ:St}{H:Hp}{s:Shared}{a:Addr}{y v:V}{u r:Value}{o:Option V}{A:Around}{E:Ε}
theorem Inv.big(I:Inv X aa σ H s):sysModules<s.heap.objs.size:=by
 have h:mainGlobals<s.heap.objs.size:=(I.mod.glob.keeps I.bk).lt;exact Tk (by decide) h
theorem W_{Q:Ε}(hu:A.units+1<cLine)(I:Inv X aa σ H s)(g:DR H a y (some v))(ry:RelV y u)(h:∀w' s',Inv X aa σ H s'->RelV v w'->Q w' s') :
  wpAny (model X.prog X.w) A (getItem (.ref a) u) Q E s:=by
 rcases g with⟨kvs,k,e,ey,l⟩|hF
 .subst ey;obtain⟨z,hd,vs,rel,dd⟩:=GQ I.hok e;obtain⟨w',hw,eR⟩:=yD.some_of (v:=v) (o:=valueAt vs k) (by rw[l];exact rel.val k);exact wpAny_getItem_of (Q0 ry) dd.mapOf hw (h w' _ (I.tok _) eR)
 .exact hF.elim
theorem amN{Q:Ε}(hu:A.units+1<cLine)(I:Inv X aa σ H s)(g:DR H a y o)(ry:RelV y u)(h:∀s',Inv X aa σ H s'->Q (.bool o.isSome) s') :
  wpAny (model X.prog X.w) A (compareOp .In u (.ref a)) Q E s:=by
 rcases g with⟨kvs,k,e,ey,l⟩|hF
 .subst ey;obtain⟨z,hd,vs,rel,dd⟩:=GQ I.hok e;refine wpAny_in_of (Q0 ry) hd dd.mapOf ?_;rw[<- (rel.val k).isSome_eq,<- l];exact h _ (I.tok _)
 .exact hF.elim
theorem acK{Q:Ε}(hu:A.units+1<cLine)(I:Inv X aa σ H s)(g:DR H a y o)(ry:RelV y u)(h:∀s',Inv X aa σ H s'->Q (.bool (!o.isSome)) s') :
  wpAny (model X.prog X.w) A (compareOp .NotIn u (.ref a)) Q E s:=by
 rcases g with⟨kvs,k,e,ey,l⟩|hF
 .subst ey;obtain⟨z,hd,vs,rel,dd⟩:=GQ I.hok e;refine wpAny_notIn_of (Q0 ry) hd dd.mapOf ?_;rw[<- (rel.val k).isSome_eq,<- l];exact h _ (I.tok _)
 .exact hF.elim
theorem acY{h':Heap}{t':Nat}{ob:HO}(I:Inv X aa σ H s)(mu:Mut (H a))(hs:Heap.SameBut a s.heap h')(he:∃q,h'.get? a=some q)(new:fZ X.prog X.w (upd H a ob) h' a ob) :
  Inv X aa σ (upd H a ob) { s with heap:=h',toks:=t' } :=
 I.write (x:=a) (e:=a) mu (.inl rfl) (λb q hb z=>(hs.2 b hb).trans z) he new
theorem afa{P:Program}{w:World}{H':Hp}{h':Heap}{kvs:List (Key×V)}{vs:List (Key×Value)}(z:kvs.length<=sizeLine)(hd:(a==sysModules)=false)(rel:KV kvs vs)(dd:h'.DictOf (iV P w) a vs) :
  fZ P w H' h' a (.dK kvs):=⟨z,hd,vs,rel,dd⟩
theorem W8{H':Hp}{Q:Unit->Shared->Prop}(hu:A.units+1<cLine)(I:Inv X aa σ H s)(g:aj2 H a y v H')(ry:RelV y u)(rv:RelV v r)(h:∀s',Inv X aa σ H' s'->Q () s') :
  wpAny (model X.prog X.w) A (setItem (.ref a) u r) Q E s:=by
 rcases g with⟨kvs,k,e,ey,l,eH⟩|hF
 .subst ey eH;obtain⟨z,hd,vs,rel,dd⟩:=akA I.hok e;have hz:vs.length<=sizeLine:=by rw[<- rel.length];exact z
  have hl:(putK kvs k v).length<=sizeLine:=by have:=PL kvs k v;lia
  refine wpAny_setItem_pairs (hsz:=hz) (Q0 ry) dd λh' dd' hs=>h _ ?_;have he:∃q,h'.get? a=some q:=by obtain⟨q,_,_,hq,_⟩:=dd';exact⟨q,hq⟩
  exact acY I (by rw[e];exact True.intro) hs he (afa hl hd (rel.put k rv) dd')
 .exact hF.elim
end
def afn(i:Expr):Prop:=∀ov iv,subscripted i false ov iv=operate [ov,iv] (getItem ov iv)
theorem ab0{prog:Program}{w:World}{A:Around}{E:Ε}{s:Shared}{env:Env}{az bi:Expr}{pos:Pos}{T id:String}{Q:Ε}
 (hl:typeLookup (.type T) "__getitem__"=pure (some (.builtin id)))(hs:afn bi)
 (h:wpAny (model prog w) A (eval az env) (λo s₁=>wpAny (model prog w) A (eval bi env) (λi s₂=>s₂.TypeIs o T/\wpAny (model prog w) A (getItem o i) Q E s₂) E s₁) E s) :
  wpAny (model prog w) A (eval (.Subscript az bi pos) env) Q E s:=by
 refine Subscript_ (wpAny_mono h (λo s₁ h₁=>wpAny_mono h₁ (λi s₂ h₂=>?_) λ_ _ x=>x) λ_ _ x=>x);obtain⟨hT,h₂⟩:=h₂;unfold subscriptTail;refine ZU ?_;rw[getitemInPython_of_ne hT.not_modules];refine ZU (wpAny_specialOf hT hl ?_);have br:wpAny (model prog w) A (subscripted bi false o i) (λr s₃=>wpAny (model prog w) A (letTemporaryGo az o r >>= λ_=>pure r) Q E s₃) E s₂:=by
  rw[hs o i];exact wpAny_operating (wpAny_mono h₂ (λr s₃ h₃=>ZU (wpAny_letTemporaryGo (ZT h₃))) λ_ _ x=>x)
 first
  |exact ZT (ZU br)
  |exact ZU (ZT (ZU br))
  |exact ZU br
theorem Qq{X:Cx}{aa:Δ}{σ:St}{H:Hp}{s:Shared}{a:Addr}{y:V}{o:Option V}(I:Inv X aa σ H s)(g:DR H a y o):s.TypeIs (.ref a) "dict":=by
 rcases g with⟨kvs,k,e,_,_⟩|hF
 .obtain⟨_,_,vs,_,dd⟩:=GQ I.hok e;exact dd.typeIs
 .exact hF.elim
def ahR(td ty:TE):TE:=λσ H Q=>td σ H λx H1=>ty σ H1 λy H2=>∃a v,x=.ref a/\DR H2 a y (some v)/\Q v H2
def anA(ty td:TE):TE:=λσ H Q=>ty σ H λy H1=>td σ H1 λx H2=>∃a o,x=.ref a/\DR H2 a y o/\Q (.bl o.isSome) H2
def abj(ty td:TE):TE:=λσ H Q=>ty σ H λy H1=>td σ H1 λx H2=>∃a o,x=.ref a/\DR H2 a y o/\Q (.bl (!o.isSome)) H2
def aij(td ty tv:TE):TS:=λD σ H=>tv σ H λv H1=>td σ H1 λx H2=>ty σ H2 λy H3=>∃a H4,x=.ref a/\aj2 H3 a y v H4/\D.nx σ H4
section
variable{X:Cx}{o i e az:Expr}{pos bo ay:Pos}{td ty tv:TE}
theorem adq(hu:X.A.units+1<cLine)(ho:PE X o td)(hi:PE X i ty)(hs:afn i):PE X (.Subscript o i pos) (ahR td ty):=by
 intro aa s σ H Q I h;refine ab0 PySem.F.slot_dict_getitem.lookup hs (thn (ho aa s σ H _ I h) λu s1 ⟨x,H1,I1,rx,q1⟩=>thn (hi aa s1 σ H1 _ I1 q1) λiv s2 hP=>?_);obtain⟨y,H2,I2,ry,a,v,ex,g,q2⟩:=hP;subst ex;obtain rfl:u=Value.ref a:=rx;exact⟨Qq I2 g,W_ hu I2 g ry λw' s3 I3 eR=>⟨v,H2,I3,eR,q2⟩⟩
theorem agl(hu:X.A.units+1<cLine)(hi:PE X i ty)(ho:PE X o td):PC X .In i o (anA ty td):=by
 intro aa s σ H Q I h;refine thn (hi aa s σ H _ I h) λiv s1 ⟨y,H1,I1,ry,q1⟩=>thn (ho aa s1 σ H1 _ I1 q1) λu s2 hP=>?_;obtain⟨x,H2,I2,rx,a,ov,ex,g,q2⟩:=hP;subst ex;obtain rfl:u=Value.ref a:=rx;exact amN hu I2 g ry λs3 I3=>⟨.bl ov.isSome,H2,I3,rfl,q2⟩
theorem XD(hu:X.A.units+1<cLine)(hi:PE X i ty)(ho:PE X o td):PC X .NotIn i o (abj ty td):=by
 intro aa s σ H Q I h;refine thn (hi aa s σ H _ I h) λiv s1 ⟨y,H1,I1,ry,q1⟩=>thn (ho aa s1 σ H1 _ I1 q1) λu s2 hP=>?_;obtain⟨x,H2,I2,rx,a,ov,ex,g,q2⟩:=hP;subst ex;obtain rfl:u=Value.ref a:=rx;exact acK hu I2 g ry λs3 I3=>⟨.bl (!ov.isSome),H2,I3,rfl,q2⟩
theorem adA(hu:X.A.units+1<cLine)(ho:PE X o td)(hi:PE X i ty)(hv:PE X az tv)(hs:swapsWith az (some (.Subscript o i bo)) pos.line X.env=pure false) :
  PS X (.Assign [.Subscript o i bo] az pos) (aij td ty tv):=by
 intro aa s σ H D I h;refine wpAny_Assign_Subscript (thn (hv aa s σ H _ I h) λr s1 ⟨v,H1,I1,rv,q1⟩=>thn (ho aa s1 σ H1 _ I1 q1) λu s2 ⟨x,H2,I2,rx,q2⟩=>thn (hi aa s2 σ H2 _ I2 q2) λiv s3 hP=>?_) hs;obtain⟨y,H3,I3,ry,a,H4,ex,g,q3⟩:=hP;subst ex;obtain rfl:u=Value.ref a:=rx;exact W8 hu I3 g ry rv λs4 I4=>⟨σ,H4,I4,q3⟩
end
theorem ZW{P:Program}{w:World}{H:Hp}(h:Heap)(hb:sysModules<h.objs.size):fZ P w H (h.push { cls:=.type "dict",data:=.dict #[] }) h.objs.size (.dK []) :=
 ⟨aZ _,beq_eq_false_iff_ne.mpr (Ne.symm (aQ hb)),[],.nil,Heap.DictOf.new h⟩
def afw:TE:=λ_ H Q=>∀p,H p=none->Q (.ref p) (upd H p (.dK []))
section
variable{X:Cx}{pos:Pos}
theorem aaC:PE X (.Dict [] [] pos) afw:=λaa s σ H Q I h =>
 wpAny_Dict_empty ⟨.ref s.heap.objs.size,_,I.laid (a:=s.heap.objs.size) (o:=.dK []) (t':=s.toks) (λ_ _ q=>aH _ q) (aG _) (ZW s.heap I.big),rfl,h _ (I.hok.fresh (aG _))⟩
end
abbrev VV:List (V×V)->List (Value×Value)->Prop:=Paired λp q=>RelV p.1 q.1/\RelV p.2 q.2
structure M2(X:Cx)(o:Expr)(m:Str)(am:Pos)(e f:Expr)(af:Pos):Prop where
 base:attributeBase o m X.env (eval o X.env)=eval o X.env
 few:((backTo af (starEach [e,f] X.env)).all (λx=>!x.1)&&(backToKw af (keywordEach [] X.env)).all (λx=>x.1.isSome)
  && decide (([e,f] : List Expr).length+([] : List Keyword).length+(if([] : List Keyword).isEmpty then 0 else 1)<30))=true
 line:(am.endLine==af.line)=true
 trees:backTo af (starEach [e,f] X.env)=[(false,eval e X.env),(false,eval f X.env)]
def IsD(H:Hp)(a:Addr):Prop:=(∃kvs,Rd H a (.dK kvs))\/False
theorem afO{X:Cx}{aa:Δ}{σ:St}{H:Hp}{s:Shared}{a:Addr}(I:Inv X aa σ H s)(d:IsD H a) :
  s.TypeIs (.ref a) "dict"/\(∀b,Value.ref a=.ref b->∃ob,s.heap.get? b=some ob/\ob.dict=none)/\(a==sysModules)=false:=by
 rcases d with⟨kvs,e⟩|hF
 .obtain⟨_,hd,vs,_,dd⟩:=GQ I.hok e;refine⟨dd.typeIs,λb q=>?_,hd⟩;cases q;obtain⟨ob,_,_,h1,h2,_⟩:=dd;exact⟨ob,h1,h2.2.1⟩
 .exact hF.elim
section
variable{X:Cx}{aa:Δ}{σ:St}{H:Hp}{s:Shared}{a:Addr}{y d:V}{u r:Value}{o:Option V}{A:Around}{E:Ε}
theorem afF{Q:Ε}(hu:A.units+1<cLine)(I:Inv X aa σ H s)(g:DR H a y o)(ry:RelV y u)(rd:RelV d r)(h:∀w' s',Inv X aa σ H s'->RelV (o.getD d) w'->Q w' s') :
  wpAny (model X.prog X.w) A (call (.builtin "dict.get") [.ref a,u,r]) Q E s:=by
 rcases g with⟨kvs,k,e,ey,l⟩|hF
 .subst ey;obtain⟨z,hd,vs,rel,dd⟩:=GQ I.hok e;refine call_meetsIn PySem.F.slot_dict_get dd.typeIs PySem.F.entry_dict_get (PySem.F.args_dict_get_3 _ _ _) (meets_dict_get_default (iV X.prog X.w) a (Q0 ry) hd r) ⟨_,dd.mapOf,h _ _ (I.tok _) ?_⟩;rw[l];exact(rel.val k).getD rd
 .exact hF.elim
end
def aej(td ty tx:TE):TE:=λσ H Q=>td σ H λx H1=>∃a,x=.ref a/\IsD H1 a/\ty σ H1 λy H2=>tx σ H2 λz H3=>∃o,DR H3 a y o/\Q (o.getD z) H3
section
variable{X:Cx}{o e f:Expr}{am af:Pos}{td ty tx:TE}
theorem aaB(hu:X.A.units+1<cLine)(ho:PE X o td)(he:PE X e ty)(hf:PE X f tx)(m:M2 X o "get" am e f af):PE X (.Call (.Attribute o "get" am) [e,f] [] af) (aej td ty tx):=by
 intro aa s σ H Q I h;refine wpAny_Call_method m.base m.few m.line PySem.F.plainAttrs_dict PySem.F.slot_dict_get PySem.F.type_dict_get (thn (ho aa s σ H _ I h) λu s1 hP=>?_);obtain⟨x,H1,I1,rx,a,ex,d,q1⟩:=hP;subst ex;obtain rfl:u=Value.ref a:=rx;obtain⟨t1,t2,_⟩:=afO I1 d;refine⟨t1,t2,?_⟩;rw[m.trees];refine Calls.callWith_builtin rfl (Calls.evalArgs_plain (Calls.spliced_cons (thn (he aa s1 σ H1 _ I1 q1) λiv s2 ⟨y,H2,I2,ry,q2⟩ =>
  Calls.spliced_cons (thn (hf aa s2 σ H2 _ I2 q2) λfv s3 ⟨z,H3,I3,rz,ov,g,q3⟩=>Calls.spliced_nil ?_))))
 exact afF hu I3 g ry rz λw' s4 I4 eR=>⟨_,H3,I4,eR,q3⟩
end
def Itk(a:Addr)(o:Obj)(kvs:List (Key×V)):It:=⟨λi H=>H a=some (.frz o (.dK kvs))/\i<kvs.length,λi H v H'=>H'=H/\∃k y,kvs[i]?=some (k,y)/\v=kV k,λi H=>H a=some (.frz o (.dK kvs))/\i=kvs.length⟩
theorem ahs{P:Program}{w:World}{k:Key}{u:Value}(h:(iV P w).is k u=true):RelV (kV k) u:=by
 have h:BL k u=true:=h;cases k with
 |inl i =>
  cases u<;>simp[BL,Value.isInt]at h
  .subst h;exact⟨_,rfl⟩
 |inr x =>
  cases u<;>simp[BL,Value.isStrOf]at h
  .subst h;exact⟨_,rfl⟩
theorem KV.at{κ:Type}{kvs:List (κ×V)}{vs:List (κ×Value)}(r:KV kvs vs):∀{i:Nat}{k:κ}{y:V},kvs[i]?=some (k,y)->∃u,vs[i]?=some (k,u)/\RelV y u:=by
 unfold KV at r
 induction r with
 |nil=>intro i k y h;cases h
 |@cons p q ps qs h t ih =>
  intro i k y e;cases i with
  |zero =>
   rw[List.getElem?_cons_zero]at e;cases e;obtain⟨q1,q2⟩:=q;obtain⟨h1,h2⟩:=h;cases h1;exact⟨q2,rfl,h2⟩
  |succ i =>
   rw[List.getElem?_cons_succ]at e ⊢;exact ih e
theorem WK{P:Program}{w:World}{K:Frag}{tg:Expr}(it a:Addr)(o:Obj)(kvs:List (Key×V))(vs:List (Key×Value))(ep:Nat)(rel:KV kvs vs)(hD:∀h:Heap,h.get? a=some o->h.DictAt (iV P w) a vs ep) :
  Turn P w K tg (Itk a o kvs) [it] it (λi h=>h.IsKeyIter it a i vs.length ep) where
 mem:=by simp
 obj:=λi h st b hb=>by
  have e:b=it:=by simpa using hb
  subst e;obtain⟨o,ho,_,hd⟩:=st;exact⟨o,ho,λv z=>by rw[hd]at z;cases z⟩
 keep:=λi h h' st k=>let⟨o,ho,r⟩:=st;⟨o,k it (by simp) o ho,r⟩
 item:=by
  intro X hP hw hK hc i aa s σ H E I hf st hg;subst hP hw hK;obtain⟨hg,fw⟩:=hg;obtain⟨ho,_⟩:=(show fZ X.prog X.w H s.heap a (.frz o (.dK kvs))from I.hok a _ hg);obtain⟨f0,f1,f2,f3,f4,f5⟩:=hf it (by simp);obtain⟨⟨k,y⟩,hx⟩ : ∃p,kvs[i]?=some p:=⟨kvs[i],by simp[fw]⟩;obtain⟨u,hu,ru⟩:=rel.at hx;refine wpAny_pyNext_dict_item st (hD _ ho) hu λde h' gN du sb=>?_;have I1:Inv X aa σ H { s with heap:=h' }:=I.turned (t':=s.toks) (λb ob hb e=>(sb.2 b hb).trans e) f0 f1 f3 f4 f5;obtain⟨oi,e,c,d⟩:=id du;exact⟨de,rfl,V9 (s:={ s with heap:=h' }) e c d (by decide) ⟨kV k,H,I1,ahs gN,⟨rfl,k,y,hx,rfl⟩,du,λb hb=>(hf b hb).1⟩⟩
 done:=by
  intro X hP hw hK hc i aa s σ H E I hf st hg;subst hP hw hK;obtain⟨hg,rfl⟩:=hg;obtain⟨ho,_⟩:=(show fZ X.prog X.w H s.heap a (.frz o (.dK kvs))from I.hok a _ hg);obtain⟨f0,f1,f2,f3,f4,f5⟩:=hf it (by simp);have hl:=rel.length;exact wpAny_pyNext_dict_end (I.ok.hd hc) st (hD _ ho) (by simp;exact WG (Eq.symm hl)) λh' eb=>⟨rfl,I.turned (t':=s.toks) (λb ob hb e=>eb b ob hb e) f0 f1 f3 f4 f5⟩
 self:=λ_ _ _ _ _ st h=>wpAny_pyIter_keyiter st h
section
variable{X:Cx}{tg:Expr}
def agM(te:TE):TI:=λσ H R=>te σ H λx H1=>∃a kvs,x=.ref a/\H1 a=some (.dK kvs)/\∀o,R (Itk a o kvs) (upd H1 a (.frz o (.dK kvs)))
theorem abm{l:Expr}{tl:TE}(hl:PE X l tl):PI X tg l (agM tl):=by
 intro aa s σ H R I h;refine thn (hl aa s σ H _ I h) λv s1 hP=>?_;obtain⟨x,H1,I1,r1,a,kvs,ex,ha,q⟩:=hP;subst ex;cases r1;have ok:=(show fZ X.prog X.w H1 s1.heap a (.dK kvs)from I1.hok a _ ha);obtain⟨z,hd,vs,rel,o,es,ep,e,ex,ed,ek,epr,en⟩:=ok;have hD:∀h:Heap,h.get? a=some o->h.DictAt (iV X.prog X.w) a vs ep:=λh e=>⟨o,es,e,ex,ed,ek,epr,en⟩;have I2:Inv X aa σ (upd H1 a (.frz o (.dK kvs))) s1:=by
  have:=I1.write (x:=a) (e:=a) (o:=.frz o (.dK kvs)) (h':=s1.heap) (t':=s1.toks) (by rw[ha];exact True.intro) (.inl rfl) (λb u hb z=>z) ⟨o,e⟩ ⟨e,z,hd,vs,rel,o,es,ep,e,ex,ed,ek,epr,en⟩;exact this
 refine wpAny_pyIter_dict hd (hD _ e) ?_;refine⟨s1.heap.objs.size,[s1.heap.objs.size],_,Itk a o kvs,_,rfl,I2.kept (t':=s1.toks) λb ob z=>aH _ z,WK _ a o kvs vs ep rel hD,⟨_,aW _ rfl,rfl,rfl⟩,λb hb=>?_,q o⟩;have e:b=s1.heap.objs.size:=by simpa using hb
 subst e;exact I2.fpOk (aG _) (I2.hok.fresh (aG _))
def tMG(g:TG):TG:=λv σ H Q=>∃R:L2.St->Hp->Prop,g v σ H R/\∀σ' H',R σ' H'->Q σ' H'
def tMT(t:TT):TT:=λσ H Q=>∃R:Bool->Hp->Prop,t σ H R/\∀b H',R b H'->Q b H'
theorem PG.mono{e:Expr}{g:TG}(h:PG X e g):PG X e (tMG g):=λaa s σ H v u Q I r hP=>by obtain⟨R,h1,h2⟩:=hP;exact thn (h aa s σ H v u R I r h1) λ_ s' hP=>by obtain⟨σ',H',I',q⟩:=hP;exact⟨σ',H',I',h2 σ' H' q⟩
theorem PTs.mono{aE:List Expr}{t:TT}(h:PTs X aE t):PTs X aE (tMT t):=λaa s σ H Q I hP=>by obtain⟨R,h1,h2⟩:=hP;exact thn (h aa s σ H R I h1) λb s' hP=>by obtain⟨H',I',q⟩:=hP;exact⟨H',I',h2 b H' q⟩
end
structure Er(K:Frag)(B:Addr)(m:Str)(f:Addr):Prop where
 ga:specialIn K (.ref B) "__getattribute__"=some (some (.builtin "type.__getattribute__"))
 rd:readsIn K B (.type "type")=true
 at_:findCls K (.ref B) (.type "type") m=some (.val (.ref f))
 hd:handedIn (.ref f)=true
 kp:keepIn K (.ref f)=true
section
variable{X:Cx}{k:Nat}{f B:Addr}{fd:FuncData}{ps:Φ}{sp:Sp}{c5:Ζ}{ds:Θ}{x m:Str}{p pos am:Pos}{e:Expr}{es:List Expr}{t:TA}{Ex:Value->Ξ->L2.St->Hp->Prop}
theorem Er.get{aa:Δ}{σ:L2.St}{H:Hp}{s:Shared}{pl:Sem Bool}{A:Around}{E:Ε}{Q:Value×Θ->Shared->Prop}(c:Er X.K B m f)(I:Inv X aa σ H s)(h:∀t,Q (.ref f,[]) { s with toks:=t }) :
  wpAny (model X.prog X.w) A (getMethod (.ref B) m pl) Q E s :=
 PySem.W.method_cls I.kIn c.ga (PySem.W.cls_value I.kIn c.rd c.at_ c.hd (h _))
theorem abG{pl:Sem Bool}(c:Er X.K B m f)(F:cj X.prog X.w X.K X.mg X.base CX0 k f fd ps sp)(hr:fD k X.A)(hg:Gl X x)(hm:X.mg x=some (.ref B))(hb:Binds X.K fd ps [])(ha:PA X (e::es) t)(cc:(x==("__debug__":Str))=false:=by decide)
 (b8:starEach (e::es) X.env=(false,eval e X.env)::starEach es X.env:=by rfl)(bg:(backTo pos (starEach es X.env)).any (·.1)=false:=by rfl)
 (ht:eval (.Call (.Attribute (.Name x p) m am) (e::es) [] pos) X.env=(do
   let ov <- eval (.Name x p) X.env
   standAt am.atName
   let(f,first) <- holding [ov] (getMethod ov m pl)
   callWith pos f first (backTo pos (starEach (e::es) X.env)) (backToKw pos (keywordEach [] X.env))):=by rfl) :
  PE X (.Call (.Attribute (.Name x p) m am) (e::es) [] pos) (Tj sp t):=by
 intro aa s σ H Q I h;refine methodCall_KW (pl:=pl) (FN I hg hm (c.get I λtk=>?_) cc) ht;refine callWith_K (first:=[]) (h₀:=X.base) I.ok.mod.kin c.kp (thn (ha pos aa _ σ H _ (I.tok tk) h) λus s2 ⟨vs,H2,I2,r,q2⟩=>⟨I2.kIn,?_⟩) b8 bg;exact Mw (us:=us) (vs:=vs) F hr hb .nil R7 I2 r (by rw[List.append_nil];exact q2)
end
theorem Same.tup{K:Frag}{H H':Hp}{a:Addr}{xs:Ζ}(e:Same H H')(h:SqT K H a xs):SqT K H' a xs:=by
 rcases h with(h|⟨o,h⟩)|h
 .exact .inl (.inl (e _ _ h))
 .exact .inl (.inr ⟨o,e _ _ h⟩)
 .exact .inr h
mutual
inductive gk(K:Frag)(H:Hp):V->PyData->Prop
 |non:gk K H .non .none
 |bl (b:Bool):gk K H (.bl b) (.bool b)
 |int (i:Int):gk K H (.int i) (.int i)
 |str (x:Str):gk K H (.str x) (.str x)
 |lst {a:Addr}{xs:Ζ}{ds:List PyData} : H a=some (.lst xs)->eG K H xs ds->gk K H (.ref a) (.list ds)
 |tup {a:Addr}{xs:Ζ}{ds:List PyData} : SqT K H a xs->eG K H xs ds->gk K H (.ref a) (.tuple ds)
inductive eG(K:Frag)(H:Hp):Ζ->List PyData->Prop
 |nil:eG K H [] []
 |cons {x:V}{xs:Ζ}{d:PyData}{ds:List PyData} : gk K H x d->eG K H xs ds->eG K H (x::xs) (d::ds)
end
mutual
theorem gk.same{K:Frag}{H H':Hp}(S:Same H H'):∀{x:V}{d:PyData},gk K H x d->gk K H' x d
 |_,_,.non=>.non
 |_,_,.bl b=>.bl b
 |_,_,.int i=>.int i
 |_,_,.str x=>.str x
 |_,_,.lst e h=>.lst (S _ _ e) (eG.same S h)
 |_,_,.tup e h=>.tup (S.tup e) (eG.same S h)
theorem eG.same{K:Frag}{H H':Hp}(S:Same H H'):∀{xs:Ζ}{ds:List PyData},eG K H xs ds->eG K H' xs ds
 |_,_,.nil=>.nil
 |_,_,.cons h t=>.cons (gk.same S h) (eG.same S t)
end
section
variable{X:Cx}{aa:Δ}{σ:L2.St}{H:Hp}{s:Shared}
mutual
theorem Inv.readsK(I:Inv X aa σ H s):∀{x:V}{d:PyData}{v:Value},gk X.K H x d->RelV x v->∃as,Reads s.heap v d as
 |_,_,_,.non,r=>by cases r;exact⟨_,.none⟩
 |_,_,_,.bl b,r=>by cases r;exact⟨_,.bool b⟩
 |_,_,_,.int i,r=>by obtain⟨t,rfl⟩:=r;exact⟨_,.int i t⟩
 |_,_,_,.str x,r=>by obtain⟨t,rfl⟩:=r;exact⟨_,.str x t⟩
 |_,_,_,.lst e h,r=>by
  cases r;obtain⟨its,rv,⟨o,ho,hc,n,hd⟩⟩:=I.lstIs e;obtain⟨as,q⟩:=Inv.readsAllK I h rv;exact⟨_,.list ho hc hd q⟩
 |_,_,_,.tup e h,r=>by
  cases r;obtain⟨its,rv,⟨o,ho,hc,n,hd⟩,_⟩:=I.tuple e;obtain⟨as,q⟩:=Inv.readsAllK I h rv;exact⟨_,.tuple ho hc hd q⟩
theorem Inv.readsAllK(I:Inv X aa σ H s):∀{xs:Ζ}{ds:List PyData}{vs:Θ},eG X.K H xs ds->Vals xs vs->∃as,ReadsAll s.heap vs ds as
 |_,_,_,.nil,r=>by cases r;exact⟨_,.nil⟩
 |_,_,_,.cons h t,r=>by
  cases r with
  |cons r1 r2 =>
   obtain⟨a,q1⟩:=Inv.readsK I h r1;obtain⟨b,q2⟩:=Inv.readsAllK I t r2;exact⟨_,.cons q1 q2⟩
end
def aeo(K:Frag)(neg:Bool):R2:=λx y H Q=>∃d e,gk K H x d/\gk K H y e/\SeqAt.shaped d=true/\SeqAt.shaped e=true/\Q (.bl (if neg then !PyData.eqv d e else PyData.eqv d e)) H
theorem afZ(hu:X.A.units+64<cLine):OpR X (compareOp .Eq) (aeo X.K false):=by
 intro aa s σ H x y v u Q I rx ry h;obtain⟨d,e,hd,he,sd,se,q⟩:=h;obtain⟨as,ra⟩:=I.readsK hd rx;obtain⟨bs,rb⟩:=I.readsK he ry;exact SeqAt.compareEq_shaped ra rb sd se hu ⟨.bl _,H,I,rfl,q⟩
theorem aew(hu:X.A.units+64<cLine):OpR X (compareOp .NotEq) (aeo X.K true):=by
 intro aa s σ H x y v u Q I rx ry h;obtain⟨d,e,hd,he,sd,se,q⟩:=h;obtain⟨as,ra⟩:=I.readsK hd rx;obtain⟨bs,rb⟩:=I.readsK he ry;exact SeqAt.compareNe_shaped ra rb sd se hu ⟨.bl _,H,I,rfl,q⟩
end
section
variable{X:Cx}
def adg(K:Frag):Ζ->Hp->VK->Prop:=λxs H Q=>∃p T ys,xs=[.ref p,.ty T]/\T∈["bool","int","str","list","tuple","dict"]/\SqT K H p ys/\Q (.bl (KZ "tuple" T)) H
theorem Qu:jt X (.builtin "isinstance") (adg X.K):=by
 intro aa s σ H xs us Q I r h;obtain⟨p,T,ys,rfl,hT,hp,q⟩:=h;obtain⟨u,v,rfl,ru,rv⟩:=r.two;cases ru;cases rv;obtain⟨its,rvs,⟨o,ho,hc,n,hd⟩,_⟩:=I.tuple hp;refine kia_one (kitx_tuple (a:=p)) I.kIn ⟨o,ho,hc⟩ (Vb (K:=X.K) (t:="tuple") (by decide) hT) (λz=>nomatch z) λtk=>⟨.bl _,H,I.tok _,rfl,q⟩
end
def OkI(P:Program)(w:World)(K:Frag)(mg:Str->Ω)(base:Heap)(CX:CXT)(k:Nat)(f:Addr)(ps:Φ)(sp:Sp):Prop:=∃fd,cj P w K mg base CX k f fd ps sp/\Binds K fd ps []
def zA(K:Frag)(x ai:Str)(st:Stmt)(ps:Φ)(f:Addr):Prop:=∃fd,Fun K x ai st f fd/\∀us:Θ,us.length=ps.length->bindArgs fd ⟨us,[]⟩=pure (ps.zip us)
theorem zA.ok{P:Program}{w:World}{K:Frag}{mg:Str->Ω}{base:Heap}{CX:CXT}{k:Nat}{x ai:Str}{st:Stmt}{ps:Φ}{f:Addr}{sp:Sp}(h:zA K x ai st ps f)(hf:∀fd,Fun K x ai st f fd->cj P w K mg base CX k f fd ps sp):OkI P w K mg base CX k f ps sp :=
 by obtain⟨fd,a,b⟩:=h;exact⟨fd,hf fd a,.all b⟩
theorem acF{K:Frag}{x ai:Str}{st:Stmt}{ps:Φ}{f:Addr}{oc:Value}{od an:Ξ}{dP:Array (Ω)}{kV bv pm ag ct:Value}
 (l:K.lookup f=some ⟨oc,od,.func (PySem.W.fnOf x ai (iJ st) (fL st) (bH st) .none kV bv pm an ag ct),dP⟩)(c:codeIn K ag ai=true)(k:keepIn K (.ref f)=true)
 (hb:∀(kV bv pm:Value)(an:Ξ)(ag ct:Value)(us:Θ),us.length=ps.length->bindArgs (PySem.W.fnOf x ai (iJ st) (fL st) (bH st) .none kV bv pm an ag ct) ⟨us,[]⟩=pure (ps.zip us)):zA K x ai st ps f :=
 ⟨_,aai l c k,hb kV bv pm an ag ct⟩
section
variable{X:Cx}{k:Nat}{f C B:Addr}{ps:Φ}{sp:Sp}{x m:Str}{p pos am:Pos}{e o:Expr}{es:List Expr}{ta:TE}{t:TA}{Ex:Value->Ξ->L2.St->Hp->Prop}
def aat(C:Addr)(m:Str)(sp:Sp)(ta:TE)(t:TA):TE:=λσ H Q=>ta σ H λx H1=>∃a dx fs,x=.ref a/\H1 a=some (.ins C dx fs)/\fs.lookup m=none/\t σ H1 λvs H2=>sp (x::vs) H2 Q E0
theorem Zm{pl:Sem Bool}(he:PE X o ta)(c:Cls X.K C)(hm:Meth X.K C m f)(G:OkI X.prog X.w X.K X.mg X.base CX0 k f ps sp)(hr:fD k X.A)(ha:PA X (e::es) t)
 (b8:starEach (e::es) X.env=(false,eval e X.env)::starEach es X.env:=by rfl)(bg:(backTo pos (starEach es X.env)).any (·.1)=false:=by rfl)
 (ht:eval (.Call (.Attribute o m am) (e::es) [] pos) X.env=(do
   let ov <- eval o X.env
   standAt am.atName
   let(f,first) <- holding [ov] (getMethod ov m pl)
   callWith pos f first (backTo pos (starEach (e::es) X.env)) (backToKw pos (keywordEach [] X.env))):=by rfl) :
  PE X (.Call (.Attribute o m am) (e::es) [] pos) (aat C m sp ta t):=by
 obtain⟨fd,F,hb⟩:=G;refine(abH (pl:=pl) he.mono c hm F hr hb .nil R7 ha.mono b8 bg ht).imp λσ H Q h=>⟨_,h,?_⟩;rintro x H1 ⟨a,dx,fs,h1,h2,h3,h4⟩;refine⟨a,dx,fs,h1,h2,h3,_,h4,λvs H2 q=>?_⟩;show sp (x::(vs++[])) H2 Q E0;rw[List.append_nil];exact q
theorem WQ{pl:Sem Bool}(he:PE X o ta)(c:Cls X.K C)(hm:Meth X.K C m f)(G:OkI X.prog X.w X.K X.mg X.base CX0 k f ps sp)(hr:fD k X.A)
 (ht:eval (.Call (.Attribute o m am) [] [] pos) X.env=(do
   let ov <- eval o X.env
   standAt am.atName
   let(f,first) <- holding [ov] (getMethod ov m pl)
   callWith pos f first (backTo pos (starEach [] X.env)) (backToKw pos (keywordEach [] X.env))):=by rfl) :
  PE X (.Call (.Attribute o m am) [] [] pos) (aat C m sp ta aer):=by
 obtain⟨fd,F,hb⟩:=G;refine(Yc (pl:=pl) he.mono c hm F hr hb .nil R7 ht).imp λσ H Q h=>⟨_,h,?_⟩;rintro x H1 ⟨a,dx,fs,h1,h2,h3,h4⟩;exact⟨a,dx,fs,h1,h2,h3,h4⟩
theorem Zt{D:Addr}{pos:Pos}(hg:Gl X x)(hm:X.mg x=some (.ref D))(hd:(x==("__debug__":Str))=false:=by decide):PE X (.Name x pos) (tC (.ref D)):=U9 hg hm rfl hd
end
theorem Kd{h:Heap}{o ob:Obj}{b:Addr}(e:(h.push o).get? b=some ob)(hs:b≠h.objs.size):h.get? b=some ob:=by
 obtain⟨e1,e2⟩:=Heap.get?_some_iff.mp e;refine Heap.get?_some_iff.mpr ⟨?_,e2⟩;cases h;simpa[Heap.push,Array.getElem?_push,hs]using e1
section
variable{X:Cx}
theorem Rt:∀{ys:Φ}{vs:Θ},Vals (ys.map V.str) vs->StrsAre vs ys
 |[],_,h=>by cases h;exact .nil
 |y::ys,_,h=>by
  rw[List.map_cons]at h;cases h with
  |cons a b =>
   obtain⟨t,rfl⟩:=a;exact .cons y t (Rt b)
def rJoin:V->Ζ->Hp->VK->Prop:=λx vs H Q=>∃a l ys,x=.str a/\vs=[.ref l]/\H l=some (.lst (ys.map V.str))/\(ys.map (·.length)).sum+ys.length*a.length<=16777216/\Q (.str (Txt.join a ys)) H
theorem aci:MtM X "str.join" rJoin:=by
 intro aa s σ H x vs v us Q I rx rv h;obtain⟨a,l,ys,rfl,rfl,hl,hz,q⟩:=h;obtain⟨t,rfl⟩:=rx;obtain⟨u,rfl,ru⟩:=rv.one;cases ru;obtain⟨_,its,n,r,_,e⟩:=I.lstM hl;exact join_list ⟨_,e,rfl,n,rfl⟩ (by simpa using Rt r) hz λt' k=>⟨.str _,H,I.tok _,⟨_,rfl⟩,q⟩
end
section
variable{X:Cx}{a8 iter:Expr}{pos:Pos}{scope:Scope}{wi:TI}{te:TE}
theorem Yj{ext:Addr->List (Str×Addr)}{fn:Str->Bool}{i0:Nat}{y0:Str}{py b7:Pos}{xs N':Φ}{tg:Expr}{aE:List Expr}{gt:TG}{tc:TT}(E:Rf X scope xs ext fn)(hc:X.calm=true)(f7:Ky xs X.N=N')(cf:scope.kind=.function)(cy:∀y∈scope.names,y.2=.local->scope.names.lookup y.1=some .local)
 (b9:∀y∈scope.names,y.2=.free->X.env.kindOf y.1=some .cell\/X.env.kindOf y.1=some .free)(e9:∀y∈X.N,y∉xs->(relabel scope X.env).names.lookup y≠some .local)(hq:∀y∈X.N,y∈xs->(relabel scope X.env).names.lookup (hid y)=none)(hi:PI X tg iter wi)
 (hg:∀C s₀ H₀ ex pn,PG (X.compE ext fn N' scope xs C s₀ H₀ ex pn) tg gt)(ht:∀C s₀ H₀ ex pn,PTs (X.compE ext fn N' scope xs C s₀ H₀ ex pn) aE tc)(he:∀C s₀ H₀ ex pn,PE (X.compE ext fn N' scope xs C s₀ H₀ ex pn) a8 te)(fx:PG X (.Name y0 py) (yR i0))(fm:swapsWith (.ListComp a8 [⟨tg,iter,aE,0⟩] scope pos) (some (.Name y0 py)) b7.line X.env=pure true)(hs:∀z,foldedSetIterable iter X.env z=pure z) :
  PS X (.Assign [.Name y0 py] (.ListComp a8 [⟨tg,iter,aE,0⟩] scope pos) b7) (acQ (q_ wi xs.length gt tc te) (yR i0)):=by
 intro aa s σ H D0 I h;have h:q_ wi xs.length gt tc te σ H (λx H1=>yR i0 x σ H1 D0.nx):=h;rw[exec_Assign_Name_used _ _ _ _ fm];refine ZU (wpAny_standAt (ZU ?_));show wpAny _ X.A (comprehension (.ListComp a8 [⟨tg,iter,aE,0⟩] scope pos) scope X.env _ (newList []) false (eval iter X.env) (some (assign (.Name y0 py) X.env)) >>= λ_=>_) _ _ s;refine ZU (wpAny_mono (Kf (use:=some (assign (.Name y0 py) X.env)) (post:=λ_ s'=>SP X aa D0 .next s') E hc f7 cf cy b9 e9 hq hi hg ht he hs I h λC D Hc s6 m fl iL I6 fC qn=>?_) (λ_ s' hq=>ZT (ZT hq)) λ_ _ e=>e);obtain⟨oc,es,ep,ho,k9,_⟩:=id iL;have I7:=I6.pinned (fp:=[C]) (λb hb=>by rw[YR.mp hb];exact fC) λb hb=>by
  rw[YR.mp hb];exact⟨oc,ho,λv z=>by rw[k9]at z;cases z⟩
 show wpAny _ X.A (assign (.Name y0 py) X.env _) _ _ s6;refine thn (fx _ s6 σ Hc (.ref D) _ D0.nx I7 rfl qn) λ_ s7 hP=>?_;obtain⟨σ7,H7,Z7,q7⟩:=hP;have pn7:=Z7.pin (C,oc) (aP _ (aP _ (qg (by simp) ho)));refine⟨m,iL.at' λo e=>?_,λh' kP=>⟨σ7,H7,Z7.unpinned.turned (it:=C) (h':=h') (t':=s7.toks) (λb o hb e=>(kP.2 b hb).trans e) pn7.2.1 fC.2.1 fC.2.2.2.1 fC.2.2.2.2.1 fC.2.2.2.2.2,q7⟩⟩;rw[ho]at e;cases e;exact pn7.1
end
section
variable{X:Cx}{aa:Δ}{σ:L2.St}{H:Hp}{s:Shared}{h':Heap}
theorem Inv.turnedL{t':Nat}{ch:Ψ}(I:Inv X aa σ H s)(k:∀b o,b∉ch->s.heap.get? b=some o->h'.get? b=some o)(hf:∀b∈ch,Ew X aa H b):Inv X aa σ H { s with heap:=h',toks:=t' }:=by
 have ii:∀b u,H b=some u->b∉ch:=λb u e z=>by rw[(hf b z).1]at e;cases e
 refine I.step (g':=s.gens) (d':=s.drawn) (ch:=ch) (λb hb=>⟨(hf b hb).2.2.2.1,(hf b hb).2.1,(hf b hb).2.2.2.2.1,(hf b hb).2.2.2.2.2⟩) (λb o _ _ hc e _=>k b o hc e) (λb o _ _ hc e _=>⟨o.slots,k b o hc e⟩) (λ_ _ _ _ n=>n) (λb o hc e=>⟨o,k b o hc e⟩) (λ_ _ e=>e) (λ_ _ _ e=>e) (λb ps e=>⟨#[],by rw[e];simp⟩) (λm hm=>?_) (λb u e=>?_) I.bare
 .obtain⟨o,es,ep,ho,r⟩:=hm;exact⟨o,es,ep,k _ o (λz=>(hf _ z).2.1 rfl) ho,r⟩
 .refine(I.hok b u e).stay (λc v hc q=>k c v ?_ q) (λ_ q=>q) λ_ _ q=>q;rcases hc with z|z
  .rw[z];exact ii b u e
  .exact ii c _ z
end
def Itz(a b:Addr):It:=⟨λi H=>∃xs ys,H a=some (.lst xs)/\H b=some (.lst ys)/\i<xs.length/\i<ys.length,λi H v H'=>∃xs ys x y t,H a=some (.lst xs)/\H b=some (.lst ys)/\xs[i]?=some x/\ys[i]?=some y/\H t=none/\v=.ref t/\H'=upd H t (.tup [x,y]),λi H=>∃xs ys,H a=some (.lst xs)/\H b=some (.lst ys)/\(xs.length<=i\/ys.length<=i)⟩
theorem o_{h g:Heap}{a l:Addr}{i:Nat}(x:h.IsListIter a l i)(k:∀o,h.get? a=some o->g.get? a=some o):g.IsListIter a l i:=by obtain⟨o,e,r⟩:=x;exact⟨o,k o e,r⟩
theorem K_{xs:Ζ}{vs:Θ} : Vals xs vs->∀{i:Nat}{x:V},xs[i]?=some x->∃u,vs[i]?=some u/\RelV x u:=by
 intro h
 induction h with
 |nil=>intro i x e;cases e
 |cons a b ih =>
  intro i x e;cases i with
  |zero=>rw[List.getElem?_cons_zero]at e;cases e;exact⟨_,rfl,a⟩
  |succ i=>rw[List.getElem?_cons_succ]at e ⊢;exact ih e
theorem aa0{P:Program}{w:World}{K:Frag}{bX:List Expr}{x1}{pos:Pos}(z TI TO i1 i2 l1 l2:Addr)(D:ZipApart z TI TO i1 i2 l1 l2) :
  Turn P w K (.Tuple bX x1 pos) (Itz l1 l2) [z,TI,TO,i1,i2] z (λi h=>IsZip h z TI TO .none/\IsPair h TI (.ref i1) (.ref i2)/\(∃p q,IsPair h TO p q)/\h.IsListIter i1 l1 i/\h.IsListIter i2 l2 i) where
 mem:=by simp
 obj:=by
  rintro i h ⟨s1,s2,⟨p,q,s3⟩,⟨o4,s4,_,d4⟩,⟨o5,s5,_,d5⟩⟩ b hb;simp only[YU,UQ,or_false]at hb;rcases hb with rfl|rfl|rfl|rfl|rfl
  .exact⟨_,s1,λv e=>by cases e⟩
  .exact⟨_,s2,λv e=>by cases e⟩
  .exact⟨_,s3,λv e=>by cases e⟩
  .exact⟨_,s4,λv e=>by rw[d4]at e;cases e⟩
  .exact⟨_,s5,λv e=>by rw[d5]at e;cases e⟩
 keep:=λi h h' ⟨s1,s2,⟨p,q,s3⟩,s4,s5⟩ k=>⟨k z (by simp) _ s1,k TI (by simp) _ s2,⟨p,q,k TO (by simp) _ s3⟩,o_ s4 (k i1 (by simp)),o_ s5 (k i2 (by simp))⟩
 item:=by
  intro X hP hw hK hc i aa s σ H E I hf st hg;subst hP hw hK;obtain⟨s1,s2,⟨p,q,s3⟩,s4,s5⟩:=st;obtain⟨xs,ys,ha,hb,kF,lt2⟩:=hg;obtain⟨_,eW,n1,fI,le1,g1⟩:=I.lstM ha;obtain⟨_,io,n2,ky,jS,g2⟩:=I.lstM hb;have ex:xs[i]?=some xs[i]:=aj kF;have ey:ys[i]?=some ys[i]:=aj lt2;obtain⟨u,hu,ru⟩:=K_ fI ex;obtain⟨v,hv,rv⟩:=K_ ky ey;refine wpAny_pyNext_zip_item D s1 s2 s3 s4 s5 (xs:=eW.toArray) (ys:=io.toArray) ⟨_,g1,rfl,n1,rfl⟩ ⟨_,g2,rfl,n2,rfl⟩ (x:=u) (y:=v) (by simpa using hu) (by simpa using hv) λh' a1 a2 a3 a4 a5 a6 a7=>⟨_,rfl,?_⟩;refine wpAny_letOwnedTupleGo_zip a1 λh2 fF sb=>?_;have nt:H s.heap.objs.size=none:=I.fresh;have I1:=I.laid (a:=s.heap.objs.size) (o:=.tup [xs[i],ys[i]]) (h':=s.heap.push { cls:=.type "tuple",data:=.seq #[u,v] }) (t':=s.toks) (λb q z=>aH _ z) (aG _)
   ⟨(by show 2<=sizeLine;decide),[u,v],.cons ru (.cons rv .nil),_,aW _ rfl,rfl,_,rfl⟩
  have nz:z≠s.heap.objs.size:=aQ (aK s1);have nO:TO≠s.heap.objs.size:=aQ (aK s3);have nI:TI≠s.heap.objs.size:=aQ (aK s2);have kC:i1≠s.heap.objs.size:=by obtain⟨o,e,_⟩:=s4;exact aQ (aK e)
  have n2':i2≠s.heap.objs.size:=by obtain⟨o,e,_⟩:=s5;exact aQ (aK e)
  have i7:∀b∈[z,TI,TO,i1,i2],upd H s.heap.objs.size (.tup [xs[i],ys[i]]) b=none:=by
   intro b hb;have f0:=(hf b hb).1;simp only[YU,UQ,or_false]at hb;rcases hb with rfl|rfl|rfl|rfl|rfl
   .exact(cF nz).trans f0
   .exact(cF nI).trans f0
   .exact(cF nO).trans f0
   .exact(cF kC).trans f0
   .exact(cF n2').trans f0
  have I2:=I1.turnedL (ch:=[z,TO,i1,i2]) (h':=h2) (t':=s.toks) (λb ob hb e=>by
   simp only[YU,UQ,or_false,not_or]at hb;obtain⟨b1,b2,b3,b4⟩:=hb;refine(sb.2 b b1).trans ?_;by_cases hs:b=s.heap.objs.size
   .subst hs;have e2:=aW s.heap (o:={ cls:=.type "tuple",data:=.seq #[u,v] }) rfl;have e:(s.heap.push { cls:=.type "tuple",data:=.seq #[u,v] }).get? s.heap.objs.size=some ob:=e;rw[e2]at e;cases e;exact a5
   .exact a7 b _ b1 b2 b3 b4 (Kd e hs)) λb hb=>by
    have fg:b∈[z,TI,TO,i1,i2]:=by
     simp only[YU,UQ,or_false]at hb ⊢;rcases hb with h|h|h|h<;>simp[h]
    exact⟨i7 b fg,(hf b fg).2⟩
  have mv:∀c o,c≠z->h'.get? c=some o->h2.get? c=some o:=λc o n e=>(sb.2 c n).trans e;exact⟨.ref _,_,I2,rfl,⟨xs,ys,_,_,_,ha,hb,ex,ey,nt,rfl,rfl⟩,⟨fF,mv _ _ D.TIz (a7 _ _ D.TIz D.TITO D.TIi1 D.TIi2 s2),⟨_,_,mv _ _ D.TOz a2⟩,o_ a3 λo e=>mv _ _ D.i1z e,o_ a4 λo e=>mv _ _ D.i2z e⟩,i7⟩
 done:=by
  intro X hP hw hK hc i aa s σ H E I hf st hg;subst hP hw hK;obtain⟨s1,s2,⟨p,q,s3⟩,s4,s5⟩:=st;obtain⟨xs,ys,ha,hb,lt⟩:=hg;obtain⟨_,eW,n1,fI,le1,g1⟩:=I.lstM ha;obtain⟨_,io,n2,ky,jS,g2⟩:=I.lstM hb;refine wpAny_pyNext_zip_end (I.ok.hd hc) D s1 s2 s3 s4 s5 (xs:=eW.toArray) (ys:=io.toArray) ⟨_,g1,rfl,n1,rfl⟩ ⟨_,g2,rfl,n2,rfl⟩ (by simp;lia) λh' k=>⟨rfl,I.turnedL (ch:=[z,TO,i1,i2]) (t':=s.toks) (λb ob hb e=>?_) λb hb=>?_⟩
  .simp only[YU,UQ,or_false,not_or]at hb;exact k b ob hb.1 hb.2.1 hb.2.2.1 hb.2.2.2 e
  .exact hf b (by
    simp only[YU,UQ,or_false]at hb ⊢;rcases hb with h|h|h|h<;>simp[h])
 self:=λ_ _ _ _ _ ⟨s1,_⟩ h=>wpAny_pyIter_zip s1 h
section
variable{X:Cx}
theorem WL(n l1 l2:Nat)(h1:l1<n)(h2:l2<n):ZipApart (n+4) (n+2) (n+3) n (n+1) l1 l2:=by
 constructor<;>first|exact aQ (by omega)|exact UT (by lia)
theorem acP(n b:Nat)(h:b=n+4\/b=n+2\/b=n+3\/b=n\/b=n+1):n<=b:=by lia
theorem boot_zip:bootBuiltins "zip"=some (.type "zip"):=by decide +kernel
def alJ(ta:TA):TI:=λσ H R=>ta σ H λvs H1=>∃a b xs ys,vs=[.ref a,.ref b]/\H1 a=some (.lst xs)/\H1 b=some (.lst ys)/\R (Itz a b) H1
theorem agv{a b:Expr}{ta:TA}{bX:List Expr}{x1}{p pos ay:Pos}(hg:Gl X "zip")(hm:X.mg "zip"=none)(ha:PA X [a,b] ta)(hs:starEach [a,b] X.env=[(false,eval a X.env),(false,eval b X.env)]:=by rfl)(eJ:starEach [b] X.env=[(false,eval b X.env)]:=by rfl) :
  PI X (.Tuple bX x1 ay) (.Call (.Name "zip" p) [a,b] [] pos) (alJ ta):=by
 intro aa s σ H R I h;refine Call_ (za I hg hm boot_zip (PyProof.Rows.callWith_type1 (thn (ha pos aa s σ H _ I h) λus s1 hP=>?_) (by rw[hs,eJ]) (by rw[eJ];rfl)));obtain⟨vs,H1,I1,r1,q1⟩:=hP;obtain⟨l1,l2,xs,ys,e,h1,h2,q⟩:=q1;subst e;obtain⟨u,v,rfl,ru,rv⟩:=r1.two;cases ru;cases rv;obtain⟨_,eW,n1,fI,le1,g1⟩:=I1.lstM h1;obtain⟨_,io,n2,ky,jS,g2⟩:=I1.lstM h2;have z1:=aK g1;have z2:=aK g2;refine call_zip_2 (xs:=eW.toArray) (ys:=io.toArray) ⟨_,g1,rfl,n1,rfl⟩ ⟨_,g2,rfl,n2,rfl⟩ λh' a1 a2 a3 a4 a5 a6 a7=>?_;refine wpAny_pyIter_zip a1 ?_;refine⟨_,[s1.heap.objs.size+4,s1.heap.objs.size+2,s1.heap.objs.size+3,s1.heap.objs.size,s1.heap.objs.size+1],_,Itz l1 l2,H1,rfl,I1.kept (t':=s1.toks) λb ob e=>a7 b ob e,aa0 _ _ _ _ _ l1 l2 (WL _ _ _ z1 z2),⟨a1,a2,⟨_,_,a3⟩,a4,a5⟩,λb hb=>?_,q⟩;have fg:s1.heap.objs.size<=b:=by
  simp only[YU,UQ,or_false]at hb;exact acP _ _ hb
 exact I1.fpOk fg (I1.hok.fresh fg)
end
noncomputable def rlb(sc scope:Scope):Scope:={ scope with names:=scope.names.map λ(n,k)=>if(k==NameKind.free&&sc.kind == .function&&sc.names.lookup n==some .cell)then(n,NameKind.cell)else(n,k) }
section
variable{X:Cx}
def ipM:TIp:=λx y H Q=>∃i j,x=.int i/\y=.int j/\Bd i/\Bd j/\Q (.int (i*j)) H
theorem ab2:PIp X .Mult ipM:=by
 intro aa s σ H x y v u Q I r1 r2 h;obtain⟨i,j,e1,e2,b1,b2,q⟩:=h;subst e1;subst e2;obtain⟨t,rfl⟩:=r1;obtain⟨t',rfl⟩:=r2;exact imul_int ⟨.int _,H,I.tok _,⟨_,rfl⟩,q⟩ (.of_bits b1.bits b2.bits)
theorem Wj(c:Nat):∀(n:Nat)(acc:Array Nat),((List.replicate n #[c]).foldl (· ++ ·) acc).toList=acc.toList++List.replicate n c
 |0,acc=>by simp
 |n+1,acc=>by
  rw[List.replicate_succ,List.foldl_cons,Wj c n,Array.toList_append,WZ]
  rfl
def ah4:R2:=λx y H Q=>∃c n,x=.str ⟨#[c]⟩/\y=.int n/\1<=n/\n<=1000/\∀z:Str,z.cps.toList=List.replicate n.toNat c->Q (.str z) H
theorem acV:OpR X (binaryOp .Mult) ah4:=by
 intro aa s σ H x y v u Q I rx ry h;obtain⟨c,n,rfl,rfl,h0,h1,q⟩:=h;obtain⟨t,rfl⟩:=rx;obtain⟨t',rfl⟩:=ry;have hi:(⟨#[c]⟩ : Str).length=1:=rfl;have made:∀z:Str,z.cps.toList=List.replicate n.toNat c->(Made.str z).post (EP X aa σ Q) s:=λz hz=>⟨by
  have:z.length=n.toNat:=by
   show z.cps.size=_;rw[<- Array.length_toList,hz,aN]
  exact aL (show z.length<=1001 by lia) (by decide),.str z,H,I.tok _,⟨_,rfl⟩,q z hz⟩
 refine PySem.P.mul_str ?_ (λ_ _=>?_) (λ_ _=>?_) ?_
 .rw[Zp (by lia),Zp (by lia)];rfl
 .rw[hi];have:1<=(2^63-1:Int)/n:=Int.le_ediv_of_mul_le (by omega) (by lia);lia
 .rw[hi];unfold Builtin.Str.tooLong;exact Zp (by
   have:n.toNat<=1000:=by lia
   have e:1000<=sizeLine:=by decide
   lia)
 .split
  .lia
  .split
   .rename_i hc
    rw[hi]at hc;have e:n.toNat=1:=by
     simp at hc;lia
    refine⟨.str ⟨#[c]⟩,H,I,⟨t,rfl⟩,q _ ?_⟩;rw[e];rfl
   .refine made _ ?_;show((List.replicate n.toNat #[c]).foldl (· ++ ·) #[]).toList=_;rw[Wj];rfl
end
def Cx.compGC(X:Cx)(N':Φ)(scope:Scope)(x0:Str)(C:Addr)(s₀:Shared)(H₀:Hp)(ex:Ψ)(pn:Δ):Cx :=
 { X with env:=compEnvC scope ((x0,C+1)::uU X.env.cells scope.names []) C X.env,N:=[x0]++N',s₀:=s₀,H₀:=H₀,outer:=X.stack,ex:=ex,fn:=λz=>z==x0,pn:=pn,xe:=λ_ _=>False }
theorem yK{env:Env}{x0:Str} : ∀{names:List (Str×NameKind)}{y:Str},y≠x0->((names.map λ(n,k)=>if(k==NameKind.free&&env.scope.kind == .function&&env.kindOf n==some .cell)then(n,NameKind.cell)else(n,k)).lookup y=some .cell \/
  (names.map λ(n,k)=>if(k==NameKind.free&&env.scope.kind == .function&&env.kindOf n==some .cell)then(n,NameKind.cell)else(n,k)).lookup y=some .free)->(∀z∈names,z.2=.cell->z.1=x0)->(y,NameKind.free)∈names
 |[],y,_,h,_=>by rcases h with h|h<;>cases h
 |(n,k)::r,y,ny,h,hc=>by
  have ih:=@yK env x0 r y ny;have dk:∀z∈r,z.2=.cell->z.1=x0:=λz hz=>hc z (aJ _ hz);simp only[List.map_cons]at h;by_cases hcond:(k==NameKind.free&&env.scope.kind == .function&&env.kindOf n==some .cell)=true
  .rw[ZY hcond]at h;have hk:k=.free:=by
    simp only[Zzt,beq_iff_eq]at hcond;exact hcond.1.1
   subst hk;simp only[List.lookup_cons]at h;cases hb:y==n with
   |true=>rw[show y=n by simpa using hb];exact aO
   |false=>rw[hb]at h;exact aJ _ (ih h dk)
  .rw[ZZ hcond]at h;simp only[List.lookup_cons]at h;cases hb:y==n with
   |true =>
    have e:y=n:=by simpa using hb
    rw[hb]at h;rcases h with h|h
    .cases h;exact absurd (e.trans (hc (n,.cell) aO rfl)) ny
    .cases h;rw[e];exact aO
   |false=>rw[hb]at h;exact aJ _ (ih h dk)
theorem J6{M:Model}{A:Around}{E:Ε}{s:Shared}{scope:Scope}{globals:Addr}{bE:List (Str×Addr)}{ai:Str}{outer:Env}{x0:Str}{Q:Env->Shared->Prop}(fy:∀n acc,cellsFrom n scope.names acc=(x0,n)::acc)(fr:∀h,pushCells h scope.names=h.push { cls:=.type "cell",data:=.cell none })
 (hQ:∀g,g.Ns s.heap.objs.size (λx=>([] : List (Str×Value)).reverse.lookup x)->g.IsCell (s.heap.objs.size+1) none->(∀b o,s.heap.get? b=some o->g.get? b=some o)->Q (newEnv scope s.heap.objs.size globals ((x0,s.heap.objs.size+1)::bE) ai none .none (some outer) builtinsNs) { s with heap:=g,toks:=s.toks+([] : List (Str×Value)).length }) :
  wpAny M A (newFunctionEnv scope globals bE [] ai none .none (some outer)) Q E s:=by
 simp only[newFunctionEnv,Option.isSome_some,if_true];refine ZU (wpAny_alloc ?_);refine ZU (wpAny_layCells _ (λname kind cells=>by cases hkc:kind==NameKind.cell<;>simp[hkc]) _ _ _ _ ?_);rw[fy,fr];have z1:(s.heap.push { cls:=.type "dict",data:=.dict #[] }).objs.size=s.heap.objs.size+1:=Heap.size_push ..;show wpAny _ _ (forIn ([] : List (Str×Value)) _ _ >>= _) _ _ _;rw[List.forIn_nil];refine ZU (ZT (ZT ?_));have c1:=aW (s.heap.push { cls:=.type "dict",data:=.dict #[] }) (o:={ cls:=.type "cell",data:=.cell none }) rfl;rw[z1]at c1;show Q (newEnv scope s.heap.objs.size globals ((x0,(s.heap.push { cls:=.type "dict",data:=.dict #[] }).objs.size)::bE) ai none .none (some outer) builtinsNs) _;rw[z1];exact hQ _ ((Heap.Ns.new s.heap (.type "dict")).at' λo e=>aH _ e) ⟨_,c1,rfl⟩ λb o e=>aH _ (aH _ e)
theorem Vv{x0 y:Str}{d c:Addr}(e : [(x0,d)].lookup y=some c):y=x0/\c=d:=by
 rw[List.lookup_cons]at e;cases hy:y==x0 with
 |true=>rw[hy]at e;cases e;exact⟨by simpa using hy,rfl⟩
 |false=>rw[hy]at e;cases e
theorem ext1{X:Cx}{scope:Scope}{x0:Str}(fy:∀n acc,cellsFrom n scope.names acc=(x0,n)::acc)(fr:∀h,pushCells h scope.names=h.push { cls:=.type "cell",data:=.cell none })(lI:∀y∈scope.names,y.2=.cell->y.1=x0):Rf X scope [x0] (λC=>[(x0,C+1)]) (λz=>z==x0) :=
 ⟨λhQ=>J6 fy fr λg d6 gT kg=>hQ g d6 (λy c e=>by rw[(Vv e).2];exact gT) kg,λC y c e=>by rw[(Vv e).2];exact X1 _,λC y z c e1 e2=>(Vv e1).1.trans (Vv e2).1.symm,λC y e=>⟨C+1,by rw[beq_iff_eq.mp e];exact List.lookup_cons_self⟩,λC y e=>by
  rw[List.lookup_cons,beq_eq_false_iff_ne.mpr λz=>e (by rw[z];simp)]
  rfl,λC y e=>by
  by_cases ny:y=x0
  .exact .inl ⟨C+1,by rw[ny];exact List.lookup_cons_self⟩
  .exact .inr (yK ny e lI)⟩
def Ite(l:Addr):It:=⟨λi H=>∃xs,H l=some (.lst xs)/\i<xs.length,λi H v H'=>∃xs x t,H l=some (.lst xs)/\xs[i]?=some x/\H t=none/\v=.ref t/\H'=upd H t (.tup [.int i,x]),λi H=>∃xs,H l=some (.lst xs)/\xs.length<=i⟩
theorem Xn{P:Program}{w:World}{K:Frag}{bX:List Expr}{x1}{pos:Pos}(e it l:Addr)(gL:e≠it) :
  Turn P w K (.Tuple bX x1 pos) (Ite l) [e,it] e (λi h=>(∃old,IsEnum h e it ((i:Nat):Int) old)/\h.IsListIter it l i) where
 mem:=by simp
 obj:=by
  rintro i h ⟨⟨old,s1⟩,⟨o4,s4,_,d4⟩⟩ b hb;simp only[YU,UQ,or_false]at hb;rcases hb with rfl|rfl
  .exact⟨_,s1,λv e=>by cases e⟩
  .exact⟨_,s4,λv e=>by rw[d4]at e;cases e⟩
 keep:=λi h h' ⟨⟨old,s1⟩,s4⟩ k=>⟨⟨old,k e (by simp) _ s1⟩,o_ s4 (k it (by simp))⟩
 item:=by
  intro X hP hw hK hc i aa s σ H E I hf st hg;subst hP hw hK;obtain⟨⟨old,s1⟩,s4⟩:=st;obtain⟨xs,ha,kF⟩:=hg;obtain⟨_,eW,n1,fI,le1,g1⟩:=I.lstM ha;have ex:xs[i]?=some xs[i]:=aj kF;obtain⟨u,hu,ru⟩:=K_ fI ex;refine wpAny_pyNext_enum_item s1 s4 (items:=eW.toArray) ⟨_,g1,rfl,n1,rfl⟩ (x:=u) (by simpa using hu) gL λh' a1 a3 a5 a6 a7=>⟨_,rfl,?_⟩;refine wpAny_letOwnedTupleGo_enum a1 λh2 fF sb=>?_;have nt:H s.heap.objs.size=none:=I.fresh;have I1:=I.laid (a:=s.heap.objs.size) (o:=.tup [.int i,xs[i]]) (h':=s.heap.push { cls:=.type "tuple",data:=.seq #[.int i s.toks,u] }) (t':=s.toks+1) (λb q z=>aH _ z) (aG _)
   ⟨(by show 2<=sizeLine;decide),[.int i s.toks,u],.cons ⟨_,rfl⟩ (.cons ru .nil),_,aW _ rfl,rfl,_,rfl⟩
  have nz:e≠s.heap.objs.size:=aQ (aK s1);have kC:it≠s.heap.objs.size:=by obtain⟨o,e,_⟩:=s4;exact aQ (aK e)
  have i7:∀b∈[e,it],upd H s.heap.objs.size (.tup [.int i,xs[i]]) b=none:=by
   intro b hb;have f0:=(hf b hb).1;simp only[YU,UQ,or_false]at hb;rcases hb with rfl|rfl
   .exact(cF nz).trans f0
   .exact(cF kC).trans f0
  have I2:=I1.turnedL (ch:=[e,it]) (h':=h2) (t':=s.toks+1) (λb ob hb z=>by
   simp only[YU,UQ,or_false,not_or]at hb;obtain⟨b1,b3⟩:=hb;refine(sb.2 b b1).trans ?_;by_cases hs:b=s.heap.objs.size
   .subst hs;have e2:=aW s.heap (o:={ cls:=.type "tuple",data:=.seq #[.int i s.toks,u] }) rfl;have z:(s.heap.push { cls:=.type "tuple",data:=.seq #[.int i s.toks,u] }).get? s.heap.objs.size=some ob:=z;rw[e2]at z;cases z;exact a5
   .exact a7 b _ b1 b3 (Kd z hs)) λb hb=>⟨i7 b hb,(hf b hb).2⟩
  have mv:∀c o,c≠e->h'.get? c=some o->h2.get? c=some o:=λc o n z=>(sb.2 c n).trans z;exact⟨.ref _,_,I2,rfl,⟨xs,_,_,ha,ex,nt,rfl,rfl⟩,⟨⟨_,by rw[Int.natCast_add];exact fF⟩,o_ a3 λo z=>mv _ _ (λy=>gL y.symm) z⟩,i7⟩
 done:=by
  intro X hP hw hK hc i aa s σ H E I hf st hg;subst hP hw hK;obtain⟨⟨old,s1⟩,s4⟩:=st;obtain⟨xs,ha,lt⟩:=hg;obtain⟨_,eW,n1,fI,le1,g1⟩:=I.lstM ha;have hl:=fI.length;refine wpAny_pyNext_enum_end (I.ok.hd hc) s1 s4 (items:=eW.toArray) ⟨_,g1,rfl,n1,rfl⟩ (by simp;lia) λh' k=>⟨rfl,I.turnedL (ch:=[e,it]) (t':=s.toks) (λb ob hb z=>?_) hf⟩;simp only[YU,UQ,or_false,not_or]at hb;exact k b ob hb.2 z
 self:=λ_ _ _ _ _ ⟨⟨_,s1⟩,_⟩ h=>wpAny_pyIter_enum s1 h
section
variable{X:Cx}
def ajB(ta:TA):TI:=λσ H R=>ta σ H λvs H1=>∃a xs,vs=[.ref a]/\H1 a=some (.lst xs)/\R (Ite a) H1
theorem ac4{a:Expr}{ta:TA}{bX:List Expr}{x1}{p pos ay:Pos}(hg:Gl X "enumerate")(hm:X.mg "enumerate"=none)(ha:PA X [a] ta)(hs:starEach [a] X.env=[(false,eval a X.env)]:=by rfl) :
  PI X (.Tuple bX x1 ay) (.Call (.Name "enumerate" p) [a] [] pos) (ajB ta):=by
 intro aa s σ H R I h;refine Call_ (za I hg hm boot_enumerate (PyProof.Rows.callWith_type1 (thn (ha pos aa s σ H _ I h) λus s1 hP=>?_) (by rw[hs];rfl) (by rfl)));obtain⟨vs,H1,I1,r1,q1⟩:=hP;obtain⟨l1,xs,e,h1,q⟩:=q1;subst e;obtain⟨u,rfl,ru⟩:=r1.one;cases ru;obtain⟨_,eW,n1,fI,le1,g1⟩:=I1.lstM h1;refine call_enumerate_list (items:=eW.toArray) ⟨_,g1,rfl,n1,rfl⟩ λh' a1 a2 a3 a7=>?_;refine wpAny_pyIter_enum a1 ?_;refine⟨_,[s1.heap.objs.size+1,s1.heap.objs.size],_,Ite l1,H1,rfl,I1.kept (t':=s1.toks) λb ob e=>a7 b ob e,Xn _ _ l1 (Nat.succ_ne_self _),⟨⟨_,a1⟩,a2⟩,λb hb=>?_,q⟩;have fg:s1.heap.objs.size<=b:=by
  simp only[YU,UQ,or_false]at hb;rcases hb with z|z
  .rw[z];exact Xs _
  .rw[z];exact aG _
 exact I1.fpOk fg (I1.hok.fresh fg)
end
noncomputable def out(H:Hp)(a:Addr):Hp:=λb=>if b=a then none else H b
theorem fsc{N P:Φ}{sc:Scope}(h1:sc.kind=.function:=by rfl)(h2:sc.isCoroutine=false:=by rfl)(h3:sc.isGenerator=false:=by rfl)(h4:N.Nodup/\(∀x∈P,sc.names.lookup x=some .local\/sc.names.lookup x=some .cell)/\∀y∈sc.names,y.2≠.free:=by decide +kernel)(h5:N.take P.length=P:=by rfl):bL N P sc:=⟨h1,h2,h3,h4.1,h5,h4.2.1,h4.2.2⟩
abbrev CK0(sc scope:Scope)(N N' xs:Φ):Prop:=Ky xs N=N'/\(∀y∈scope.names,y.2=.local->scope.names.lookup y.1=some .local)/\(∀y∈scope.names,y.2=.free->sc.names.lookup y.1=some .cell\/sc.names.lookup y.1=some .free) /\
 (∀y∈N,y∉xs->(scope.names.map λ(n,k)=>if(k==NameKind.free&&sc.kind == .function&&sc.names.lookup n==some .cell)then(n,NameKind.cell)else(n,k)).lookup y≠some .local)/\∀y∈N,y∈xs->(scope.names.map λ(n,k)=>if(k==NameKind.free&&sc.kind == .function&&sc.names.lookup n==some .cell)then(n,NameKind.cell)else(n,k)).lookup (hid y)=none
abbrev CK(sc scope:Scope)(N N' xs:Φ):Prop:=(∀y∈scope.names,y.2≠.cell)/\CK0 sc scope N N' xs
section
variable{X:Cx}{a8 iter tg:Expr}{pos:Pos}{scope:Scope}{wi:TI}{te:TE}{aE:List Expr}{gt:TG}{tc:TT}
theorem YB(sc:Scope)(N N' xs:Φ)(hi:PI X tg iter wi)(hg:∀{C s₀ H₀ ex pn},PG (X.compG N' scope xs C s₀ H₀ ex pn) tg gt)(ht:∀{C s₀ H₀ ex pn},PTs (X.compG N' scope xs C s₀ H₀ ex pn) aE tc)(he:∀{C s₀ H₀ ex pn},PE (X.compG N' scope xs C s₀ H₀ ex pn) a8 te)
 (cx:X.env.scope=sc:=by rfl)(cS:X.N=N:=by rfl)(hc:X.calm=true:=by rfl)(hk:scope.kind=.function:=by rfl)(h:CK sc scope N N' xs:=by decide +kernel)(hs:∀z,foldedSetIterable iter X.env z=pure z:=by intro _;rfl):PE X (.ListComp a8 [⟨tg,iter,aE,0⟩] scope pos) (q_ wi xs.length (tMG gt) (tMT tc) (tM te)) :=
 by
 subst cx cS;exact Qx (aii hk h.1) hc h.2.1 hk h.2.2.1 h.2.2.2.1 h.2.2.2.2.1 h.2.2.2.2.2 hi (λ_ _ _ _ _=>hg.mono) (λ_ _ _ _ _=>ht.mono) (λ_ _ _ _ _=>he.mono) hs
theorem Z5{i0:Nat}{y0:Str}{py b7:Pos}(sc:Scope)(N N' xs:Φ)(hi:PI X tg iter wi)(hg:∀{C s₀ H₀ ex pn},PG (X.compG N' scope xs C s₀ H₀ ex pn) tg gt)(ht:∀{C s₀ H₀ ex pn},PTs (X.compG N' scope xs C s₀ H₀ ex pn) aE tc)(he:∀{C s₀ H₀ ex pn},PE (X.compG N' scope xs C s₀ H₀ ex pn) a8 te)(fx:PG X (.Name y0 py) (yR i0))
 (cx:X.env.scope=sc:=by rfl)(cS:X.N=N:=by rfl)(hc:X.calm=true:=by rfl)(hk:scope.kind=.function:=by rfl)(h:CK sc scope N N' xs:=by decide +kernel)(fm:swapsWith (.ListComp a8 [⟨tg,iter,aE,0⟩] scope pos) (some (.Name y0 py)) b7.line X.env=pure true:=by rfl)(hs:∀z,foldedSetIterable iter X.env z=pure z:=by intro _;rfl) :
  PS X (.Assign [.Name y0 py] (.ListComp a8 [⟨tg,iter,aE,0⟩] scope pos) b7) (acQ (q_ wi xs.length (tMG gt) (tMT tc) (tM te)) (yR i0)) :=
 by
 subst cx cS;exact Yj (aii hk h.1) hc h.2.1 hk h.2.2.1 h.2.2.2.1 h.2.2.2.2.1 h.2.2.2.2.2 hi (λ_ _ _ _ _=>hg.mono) (λ_ _ _ _ _=>ht.mono) (λ_ _ _ _ _=>he.mono) fx fm hs
theorem aay(sc:Scope)(N N':Φ)(x0:Str)(hi:PI X tg iter wi)(hg:∀{C s₀ H₀ ex pn},PG (X.compGC N' scope x0 C s₀ H₀ ex pn) tg gt)(ht:∀{C s₀ H₀ ex pn},PTs (X.compGC N' scope x0 C s₀ H₀ ex pn) aE tc)(he:∀{C s₀ H₀ ex pn},PE (X.compGC N' scope x0 C s₀ H₀ ex pn) a8 te)
 (cx:X.env.scope=sc:=by rfl)(cS:X.N=N:=by rfl)(hc:X.calm=true:=by rfl)(hk:scope.kind=.function:=by rfl)(fy:∀n acc,cellsFrom n scope.names acc=(x0,n)::acc:=by intro _ _;rfl)(fr:∀h,pushCells h scope.names=h.push { cls:=.type "cell",data:=.cell none }:=by intro _;rfl)(h:(∀y∈scope.names,y.2=.cell->y.1=x0)/\CK0 sc scope N N' [x0]:=by decide +kernel)(hs:∀z,foldedSetIterable iter X.env z=pure z:=by intro _;rfl):PE X (.ListComp a8 [⟨tg,iter,aE,0⟩] scope pos) (q_ wi 1 (tMG gt) (tMT tc) (tM te)):=by
 subst cx cS;exact Qx (ext1 fy fr h.1) hc h.2.1 hk h.2.2.1 h.2.2.2.1 h.2.2.2.2.1 h.2.2.2.2.2 hi (λ_ _ _ _ _=>hg.mono) (λ_ _ _ _ _=>ht.mono) (λ_ _ _ _ _=>he.mono) hs
theorem aea{N0:Φ}{x0:Str}{sO:Scope}{C0:Addr}{s0:Shared}{H0:Hp}{eh:Ψ}{dL:Δ}(sc:Scope)(N N' xs:Φ)(hi:PI (X.compGC N0 sO x0 C0 s0 H0 eh dL) tg iter wi)(hg:∀{C s₀ H₀ ex pn},PG ((X.compGC N0 sO x0 C0 s0 H0 eh dL).compG N' scope xs C s₀ H₀ ex pn) tg gt)(ht:∀{C s₀ H₀ ex pn},PTs ((X.compGC N0 sO x0 C0 s0 H0 eh dL).compG N' scope xs C s₀ H₀ ex pn) aE tc)(he:∀{C s₀ H₀ ex pn},PE ((X.compGC N0 sO x0 C0 s0 H0 eh dL).compG N' scope xs C s₀ H₀ ex pn) a8 te)
 (cx:X.env.scope=sc:=by rfl)(cS : [x0]++N0=N:=by rfl)(hc:X.calm=true:=by rfl)(hk:scope.kind=.function:=by rfl)(h:CK (rlb sc sO) scope N N' xs:=by decide +kernel)(hs:∀z,foldedSetIterable iter (X.compGC N0 sO x0 C0 s0 H0 eh dL).env z=pure z:=by intro _;rfl):PE (X.compGC N0 sO x0 C0 s0 H0 eh dL) (.ListComp a8 [⟨tg,iter,aE,0⟩] scope pos) (q_ wi xs.length (tMG gt) (tMT tc) (tM te)):=by
 subst cx cS;exact YB (X:=X.compGC N0 sO x0 C0 s0 H0 eh dL) (rlb X.env.scope sO) _ N' xs hi hg ht he rfl rfl hc hk h hs
end
theorem ak7{K:Frag}{a:Addr}{i j:Int}{d:Ξ}{n:Nat}{sl:Array (Ω)}{t u:Tok}(l:K.lookup a=some ⟨.type "tuple",d,.seq #[.int i t,.int j u] n,sl⟩):∀H,SqT K H a [.int i,.int j]:=λH=>.inr ⟨_,_,_,l,rfl,rfl,(by show 2<=sizeLine;decide),.cons ⟨_,rfl⟩ (.cons ⟨_,rfl⟩ .nil)⟩
theorem al9{K:Frag}{h:Heap}{mg:Str->Ω}{x:Str}{i:Int}{t:Tok}(X:K.In h)(G:h.Ns mainGlobals mg)(l:nsIn K mainGlobals x=some (some (.int i t))):∃u,mg x=some u/\RelV (.int i) u:=⟨_,mg_of X G l,_,rfl⟩
def Lst:Nat->(Θ->Prop)->Prop
 |0,P=>P []
 |n+1,P=>∀a,Lst n λl=>P (a::l)
theorem Oa:∀(n:Nat){P:Θ->Prop},Lst n P->∀us:Θ,us.length=n->P us
 |0,_,h,[],_=>h
 |n+1,_,h,a::l,e=>Oa n (h a) l (Nat.succ.inj e)
section
variable{K:Frag}{h:Heap}{mg:Str->Ω}{x m ai:Str}{v:Value}{C f:Addr}{st:Stmt}{ps:Φ}{oc:Value}{od an:Ξ}{dP:Array (Ω)}{kV bv pm ag ct:Value}{i j:Int}{d:Ξ}{n:Nat}{sl:Array (Ω)}{t u:Tok}
theorem q_c(X:K.In h:=by assumption)(G:h.Ns mainGlobals mg:=by assumption)(e:nsIn K mainGlobals x=some (some v):=by k_is):mg x=some v:=mg_of X G e
theorem q_z(X:K.In h:=by assumption)(G:h.Ns mainGlobals mg:=by assumption)(e:nsIn K mainGlobals x=some none:=by k_is):mg x=none:=PySem.W.mg_none_of X G e
theorem q_n(e:findIn K (.ref C) x=some none:=by k_is):cA K C x:=e
theorem q_m(a:findIn K (.ref C) m=some (some (.ref f)):=by k_is)(b:isFn K (.ref f)=true:=by k_is)(c:keepIn K (.ref f)=true:=by k_is):Meth K C m f:=⟨a,b,c⟩
theorem q_M(a:makesIn K C=true:=by k_is)(b:findIn K (.ref C) "__init__"=some (some (.ref f)):=by k_is)(c:isFn K (.ref f)=true:=by k_is)(e:keepIn K (.ref C)=true:=by k_is):Mk K C f:=⟨a,b,c,e⟩
theorem q_4(a:plainGet K C Str.empty=true:=by k_is)(b:hasDictIn K C=true:=by k_is)(c:plainOver K C=true:=by k_is)(e:findIn K (.ref C) "__setattr__"=some (some (.builtin "object.__setattr__")):=by k_is):Cls K C:=⟨a,b,c,e⟩
theorem q_B(a:specialIn K (.ref C) "__getattribute__"=some (some (.builtin "type.__getattribute__")):=by k_is)(b:readsIn K C (.type "type")=true:=by k_is)(c:findCls K (.ref C) (.type "type") m=some (.val (.ref f)):=by k_is)(e:keepIn K (.ref f)=true:=by k_is):Er K C m f:=⟨a,b,c,rfl,e⟩
theorem q_g(X:K.In h:=by assumption)(G:h.Ns mainGlobals mg:=by assumption)(l:nsIn K mainGlobals x=some (some (.int i t)):=by k_is):∃u,mg x=some u/\RelV (.int i) u:=al9 X G l
theorem q_t(l:K.lookup C=some ⟨.type "tuple",d,.seq #[.int i t,.int j u] n,sl⟩:=by k_is):∀H,SqT K H C [.int i,.int j]:=ak7 l
theorem q_f(N:Nat)(hb:∀(kV bv pm:Value)(an:Ξ)(ag ct:Value),Lst N λus=>bindArgs (PySem.W.fnOf x x (iJ st) (fL st) (bH st) .none kV bv pm an ag ct) ⟨us,[]⟩=pure (ps.zip us))(hN:ps.length=N:=by rfl)(X:K.In h:=by assumption)(G:h.Ns mainGlobals mg:=by assumption)
 (a:nsIn K mainGlobals x=some (some (.ref f)):=by k_is)(l:K.lookup f=some ⟨oc,od,.func (PySem.W.fnOf x x (iJ st) (fL st) (bH st) .none kV bv pm an ag ct),dP⟩:=by k_is)
 (c:codeIn K ag x=true:=by k_is)(k:keepIn K (.ref f)=true:=by k_is):cL K mg x st ps:=abv X G a l c k λkV bv pm an ag ct us e=>Oa N (hb kV bv pm an ag ct) us (e.trans hN)
theorem q_h(N:Nat)(hb:∀(kV bv pm:Value)(an:Ξ)(ag ct:Value),Lst N λus=>bindArgs (PySem.W.fnOf x ai (iJ st) (fL st) (bH st) .none kV bv pm an ag ct) ⟨us,[]⟩=pure (ps.zip us))(hN:ps.length=N:=by rfl)
 (l:K.lookup f=some ⟨oc,od,.func (PySem.W.fnOf x ai (iJ st) (fL st) (bH st) .none kV bv pm an ag ct),dP⟩:=by k_is)(c:codeIn K ag ai=true:=by k_is)(k:keepIn K (.ref f)=true:=by k_is):zA K x ai st ps f:=acF l c k λkV bv pm an ag ct us e=>Oa N (hb kV bv pm an ag ct) us (e.trans hN)
end
section
variable{X:Cx}{es:List Expr}{t:TA}{pos:Pos}
def ai0:R2:=λx y H Q=>∃l b xs zs,x=.ref l/\y=.ref b/\H l=some (.lst xs)/\H b=some (.lst zs)/\xs.length+zs.length<=sizeLine/\∀p H',Same H H'->H p=none->H' p=some (.lst (xs++zs))->Q (.ref p) H'
theorem adE:OpR X (binaryOp .Add) ai0:=aeZ.imp λx y H Q hP=>by obtain⟨l,b,xs,zs,e1,e2,h1,h2,z,q⟩:=hP;exact⟨l,b,xs,zs,e1,e2,h1,h2,z,λp hp=>q p _ (Same.upd hp) hp cM⟩
end
section
variable{X:Cx}{k:Nat}{f C B:Addr}{ps:Φ}{sp:Sp}{x m:Str}{p pos am:Pos}{e:Expr}{es:List Expr}{t:TA}
def afb(C:Addr)(sp:Sp)(t:TA):TE:=λσ H Q=>t σ H λvs H1=>∀x dx,H1 x=none->H1 dx=none->dx≠x->sp (.ref x::vs) (upd (upd H1 dx (.own x)) x (.ins C dx [])) (λv H2=>v=.non/\Q (.ref x) H2) E0
theorem aam(M:Mk X.K C f)(G:OkI X.prog X.w X.K X.mg X.base CX0 k f ps sp)(hr:fD (k+1) X.A)(hg:Gl X x)(hm:X.mg x=some (.ref C))(ha:PA X (e::es) t)(cc:(x==("__debug__":Str))=false:=by decide)
 (he:starEach (e::es) X.env=(false,eval e X.env)::starEach es X.env:=by rfl)(bg:(backTo pos (starEach es X.env)).any (·.1)=false:=by rfl):PE X (.Call (.Name x p) (e::es) [] pos) (afb C sp t):=by
 obtain⟨fd,F,hb⟩:=G;refine(ab3 M F hr hg hm hb .nil R7 ha.mono cc he bg).imp λσ H Q h=>⟨_,h,λvs H1 q x dx h1 h2 h3=>?_⟩;rw[List.append_nil];exact q x dx h1 h2 h3
theorem Z1{pl:Sem Bool}(c:Er X.K B m f)(G:OkI X.prog X.w X.K X.mg X.base CX0 k f ps sp)(hr:fD k X.A)(hg:Gl X x)(hm:X.mg x=some (.ref B))(ha:PA X (e::es) t)(cc:(x==("__debug__":Str))=false:=by decide)
 (b8:starEach (e::es) X.env=(false,eval e X.env)::starEach es X.env:=by rfl)(bg:(backTo pos (starEach es X.env)).any (·.1)=false:=by rfl)
 (ht:eval (.Call (.Attribute (.Name x p) m am) (e::es) [] pos) X.env=(do
   let ov <- eval (.Name x p) X.env
   standAt am.atName
   let(f,first) <- holding [ov] (getMethod ov m pl)
   callWith pos f first (backTo pos (starEach (e::es) X.env)) (backToKw pos (keywordEach [] X.env))):=by rfl) :
  PE X (.Call (.Attribute (.Name x p) m am) (e::es) [] pos) (Tj sp t):=by
 obtain⟨fd,F,hb⟩:=G;exact abG (pl:=pl) c F hr hg hm hb ha cc b8 bg ht
end
inductive T where
 |any|non|bl (b:Bool)|int (i:Int)|str (s:Str)|val (v:V)
 |tup (ts:List T)|lst (ts:List T)|scr (ts:List T)
 |dct (ks:List Key) (ts:List T)|ins (C:Addr) (ks:Φ) (ts:List T)
mutual
inductive Rep(K:Frag)(F:Hp):V->T->Prop
 |any (v:V):Rep K F v .any
 |non:Rep K F .non .non
 |bl (b:Bool):Rep K F (.bl b) (.bl b)
 |int (i:Int):Rep K F (.int i) (.int i)
 |str (s:Str):Rep K F (.str s) (.str s)
 |val (v:V):Rep K F v (.val v)
 |tup {a:Addr}{xs:Ζ}{ts:List T} : SqT K F a xs->bZ K F xs ts->Rep K F (.ref a) (.tup ts)
 |lst {a:Addr}{xs:Ζ}{ts:List T} : F a=some (.lst xs)->bZ K F xs ts->Rep K F (.ref a) (.lst ts)
 |scr {a:Addr}{xs:Ζ}{ts:List T} : SqL K F a xs->bZ K F xs ts->Rep K F (.ref a) (.scr ts)
 |dct {a:Addr}{ks:List Key}{xs:Ζ}{ts:List T} : Rd F a (.dK (ks.zip xs))->ks.length=xs.length->bZ K F xs ts->Rep K F (.ref a) (.dct ks ts)
 |ins {a C dx:Addr}{ks:Φ}{xs:Ζ}{ts:List T} : F a=some (.ins C dx (ks.zip xs))->F dx=some (.own a)->ks.length=xs.length->bZ K F xs ts->Rep K F (.ref a) (.ins C ks ts)
inductive bZ(K:Frag)(F:Hp):Ζ->List T->Prop
 |nil:bZ K F [] []
 |cons {x:V}{xs:Ζ}{t:T}{ts:List T} : Rep K F x t->bZ K F xs ts->bZ K F (x::xs) (t::ts)
end
section
variable{K:Frag}{F F' H H':Hp}
theorem Same.rd{a:Addr}{u:HO}(S:Same F F')(h:Rd F a u):Rd F' a u:=h.imp (S _ _) λhP=>by obtain⟨o,e⟩:=hP;exact⟨o,S _ _ e⟩
mutual
theorem Rep.same(S:Same F F'):∀{x:V}{t:T},Rep K F x t->Rep K F' x t
 |_,_,.any v=>.any v
 |_,_,.non=>.non
 |_,_,.bl b=>.bl b
 |_,_,.int i=>.int i
 |_,_,.str s=>.str s
 |_,_,.val v=>.val v
 |_,_,.tup e h=>.tup (S.tup e) (bZ.same S h)
 |_,_,.lst e h=>.lst (S _ _ e) (bZ.same S h)
 |_,_,.scr e h=>.scr (S.seq e) (bZ.same S h)
 |_,_,.dct e l h=>.dct (S.rd e) l (bZ.same S h)
 |_,_,.ins e d l h=>.ins (S _ _ e) (S _ _ d) l (bZ.same S h)
theorem bZ.same(S:Same F F'):∀{xs:Ζ}{ts:List T},bZ K F xs ts->bZ K F' xs ts
 |_,_,.nil=>.nil
 |_,_,.cons h t=>.cons (Rep.same S h) (bZ.same S t)
end
theorem Rep.lstI{x:V}{ts:List T}(h:Rep K F x (.lst ts)):∃a xs,x=.ref a/\F a=some (.lst xs)/\bZ K F xs ts:=by cases h;exact⟨_,_,rfl,by assumption,by assumption⟩
theorem Rep.tupI{x:V}{ts:List T}(h:Rep K F x (.tup ts)):∃a xs,x=.ref a/\SqT K F a xs/\bZ K F xs ts:=by cases h;exact⟨_,_,rfl,by assumption,by assumption⟩
theorem Rep.scrI{x:V}{ts:List T}(h:Rep K F x (.scr ts)):∃a xs,x=.ref a/\SqL K F a xs/\bZ K F xs ts:=by cases h;exact⟨_,_,rfl,by assumption,by assumption⟩
theorem Rep.dctI{x:V}{ks:List Key}{ts:List T}(h:Rep K F x (.dct ks ts)):∃a xs,x=.ref a/\Rd F a (.dK (ks.zip xs))/\ks.length=xs.length/\bZ K F xs ts:=by cases h;exact⟨_,_,rfl,by assumption,by assumption,by assumption⟩
theorem Rep.insI{x:V}{C:Addr}{ks:Φ}{ts:List T}(h:Rep K F x (.ins C ks ts)):∃a dx xs,x=.ref a/\F a=some (.ins C dx (ks.zip xs))/\F dx=some (.own a)/\ks.length=xs.length/\bZ K F xs ts:=by cases h;exact⟨_,_,_,rfl,by assumption,by assumption,by assumption,by assumption⟩
theorem bZ.len:∀{xs:Ζ}{ts:List T},bZ K F xs ts->xs.length=ts.length
 |_,_,.nil=>rfl
 |_,_,.cons _ t=>ZH (· + 1) (bZ.len t)
theorem bZ.app:∀{xs ys:Ζ}{ts us:List T},bZ K F xs ts->bZ K F ys us->bZ K F (xs++ys) (ts++us)
 |_,_,_,_,.nil,h=>h
 |_,_,_,_,.cons a b,h=>.cons a (bZ.app b h)
theorem bZ.at_:∀{xs:Ζ}{ts:List T}{i:Nat}{t:T},bZ K F xs ts->ts[i]?=some t->∃x,xs[i]?=some x/\Rep K F x t
 |_,_,_,_,.nil,e=>by cases e
 |_,_,0,_,.cons a _,e=>by cases e;exact⟨_,rfl,a⟩
 |_,_,i+1,_,.cons _ b,e=>by
  obtain⟨x,q,r⟩:=bZ.at_ (i:=i) b (by simpa using e);exact⟨x,by simpa using q,r⟩
theorem bZ.of_at:∀{xs:Ζ}{ts:List T},xs.length=ts.length->(∀(i:Nat)x t,xs[i]?=some x->ts[i]?=some t->Rep K F x t)->bZ K F xs ts
 |[],[],_,_=>.nil
 |x::xs,t::ts,l,h=>.cons (h 0 x t rfl rfl) (bZ.of_at (Nat.succ.inj l) λi y u e1 e2=>h (i+1) y u e1 e2)
 |[],_::_,l,_=>by cases l
 |_::_,[],l,_=>by cases l
theorem bZ.set{x:V}{t:T}(r:Rep K F x t):∀{xs:Ζ}{ts:List T}(i:Nat),bZ K F xs ts->bZ K F (xs.set i x) (ts.set i t)
 |_,_,_,.nil=>.nil
 |_,_,0,.cons _ h=>.cons r h
 |_,_,i+1,.cons a h=>.cons a (bZ.set r i h)
theorem bZ.take:∀{xs:Ζ}{ts:List T}(n:Nat),bZ K F xs ts->bZ K F (xs.take n) (ts.take n)
 |_,_,0,_=>.nil
 |_,_,_+1,.nil=>.nil
 |_,_,n+1,.cons a h=>.cons a (bZ.take n h)
theorem bZ.drop:∀{xs:Ζ}{ts:List T}(n:Nat),bZ K F xs ts->bZ K F (xs.drop n) (ts.drop n)
 |_,_,0,h=>h
 |_,_,_+1,.nil=>.nil
 |_,_,n+1,.cons _ h=>bZ.drop n h
noncomputable def hd(S:Addr->Prop)(H:Hp):Hp:=λb=>open Classical in if S b then none else H b
theorem pP{S:Addr->Prop}{b:Addr}(h:S b):hd S H b=none:=by unfold hd;rw[ZY h]
theorem cR{S:Addr->Prop}{b:Addr}(h:¬S b):hd S H b=H b:=by unfold hd;rw[ZZ h]
theorem cU{S:Addr->Prop}{b:Addr}{o:HO}(e:hd S H b=some o):¬S b/\H b=some o:=by
 by_cases h:S b
 .rw[pP h]at e;cases e
 .rw[cR h]at e;exact⟨h,e⟩
theorem h_{S S':Addr->Prop}(i:∀b,S' b->S b\/H b=none)(e:Same H H'):Same (hd S H) (hd S' H'):=λb o h=>by
 obtain⟨n,h⟩:=cU h;rw[cR λz=>?_]
 .exact e _ _ h
 .rcases i b z with y|y
  .exact n y
  .rw[h]at y;cases y
theorem dU{S:Addr->Prop} : Same (hd S H) H:=λ_ _ h=>(cU h).2
theorem bU{S:Addr->Prop}(e:Same H H'):Same (hd S H) (hd S H'):=h_ (λ_=>.inl) e
theorem Vg:hd (λ_=>False) H=H:=funext λ_=>cR id
inductive OT where
 |und|fz (t:T)|l1 (ts:List T)|l2 (ar:List (List T))|d1 (ks:List Key) (ts:List T)|ob (a dx C:Addr) (ks:Φ) (ts:List T)|la (a:Addr) (ts:List T)
noncomputable def frz:OT->T
 |.und=>.any
 |.fz t=>t
 |.l1 ts=>.lst ts
 |.l2 ar=>.lst (ar.map T.lst)
 |.d1 ks ts=>.dct ks ts
 |.ob _ _ C ks ts=>.ins C ks ts
 |.la _ ts=>.lst ts
def Slo(K:Frag)(F H:Hp)(v:Option V)(A:Ψ):OT->Prop
 |.und=>A=[]
 |.fz t=>A=[]/\∃u,v=some u/\Rep K F u t
 |.l1 ts=>∃a xs,v=some (.ref a)/\A=[a]/\H a=some (.lst xs)/\bZ K F xs ts
 |.l2 ar=>∃a bs,v=some (.ref a)/\A=a::bs/\(a::bs).Nodup/\H a=some (.lst (bs.map V.ref))/\bs.length=ar.length/\∀(i:Nat)b ts,bs[i]?=some b->ar[i]?=some ts->∃xs,H b=some (.lst xs)/\bZ K F xs ts
 |.d1 ks ts=>∃a xs,v=some (.ref a)/\A=[a]/\H a=some (.dK (ks.zip xs))/\ks.length=xs.length/\bZ K F xs ts
 |.ob a dx C ks ts=>∃xs,v=some (.ref a)/\A=[a,dx]/\H a=some (.ins C dx (ks.zip xs))/\H dx=some (.own a)/\ks.length=xs.length/\bZ K F xs ts
 |.la a ts=>∃xs,v=some (.ref a)/\A=[a]/\H a=some (.lst xs)/\bZ K F xs ts
theorem Slo.same{v:Option V}{A:Ψ}(S:Same F F')(E:Same H H'):∀{x:OT},Slo K F H v A x->Slo K F' H' v A x
 |.und,h=>h
 |.fz _,⟨a,u,e,r⟩=>⟨a,u,e,r.same S⟩
 |.l1 _,⟨a,xs,e,z,h,r⟩=>⟨a,xs,e,z,E _ _ h,r.same S⟩
 |.l2 _,⟨a,bs,e,z,n,h,l,r⟩=>⟨a,bs,e,z,n,E _ _ h,l,λi b ts e1 e2=>let⟨xs,q,r⟩:=r i b ts e1 e2;⟨xs,E _ _ q,r.same S⟩⟩
 |.d1 _ _,⟨a,xs,e,z,h,l,r⟩=>⟨a,xs,e,z,E _ _ h,l,r.same S⟩
 |.ob _ _ _ _ _,⟨xs,e,z,h,d,l,r⟩=>⟨xs,e,z,E _ _ h,E _ _ d,l,r.same S⟩
 |.la _ _,⟨xs,e,z,h,r⟩=>⟨xs,e,z,E _ _ h,r.same S⟩
theorem Slo.off{v:Option V}{A:Ψ} : ∀{x:OT},Slo K F H v A x->(∀b∈A,∀u,H b=some u->H' b=some u)->Slo K F H' v A x
 |.und,s,_=>s
 |.fz _,s,_=>s
 |.l1 _,⟨a,xs,e,z,w,r⟩,off=>⟨a,xs,e,z,off a (by rw[z];simp) _ w,r⟩
 |.l2 _,⟨a,bs,e,z,nd,w,l,r⟩,off=>⟨a,bs,e,z,nd,off a (by rw[z];simp) _ w,l,λi b ts e1 e2=>let⟨xs,q,r⟩:=r i b ts e1 e2;⟨xs,off b (by rw[z];exact aJ _ (aC e1)) _ q,r⟩⟩
 |.d1 _ _,⟨a,xs,e,z,w,r⟩,off=>⟨a,xs,e,z,off a (by rw[z];simp) _ w,r⟩
 |.ob a dx _ _ _,⟨xs,e,z,w,d,r⟩,off=>⟨xs,e,z,off a (by rw[z];simp) _ w,off dx (by rw[z];simp) _ d,r⟩
 |.la a _,⟨xs,e,z,w,r⟩,off=>⟨xs,e,z,off a (by rw[z];simp) _ w,r⟩
def ZJ(H:Hp)(a:Addr):Prop:=∃o,H a=some o/\((∃xs,o=.lst xs)\/(∃k,o=.dK k)\/(∃C d f,o=.ins C d f)\/∃x,o=.own x)
theorem Slo.sole{v:Option V}{A:Ψ}{x:OT}(h:Slo K F H v A x){a:Addr}(ha:a∈A):ZJ H a:=by
 cases x with
 |und=>rw[show A=[]from h]at ha;cases ha
 |fz t=>rw[h.1]at ha;cases ha
 |l1 ts=>obtain⟨b,xs,_,rfl,e,_⟩:=h;cases YR.mp ha;exact⟨_,e,.inl ⟨_,rfl⟩⟩
 |l2 ar =>
  obtain⟨b,bs,_,rfl,_,e,l,r⟩:=h;rcases YU.mp ha with z|z
  .exact⟨_,z ▸ e,.inl ⟨_,rfl⟩⟩
  .obtain⟨i,hi⟩:=aV z;have li:i<ar.length:=l ▸ (ao.mp hi).1;obtain⟨xs,q,_⟩:=r i a _ hi (aj li);exact⟨_,q,.inl ⟨_,rfl⟩⟩
 |d1 ks ts=>obtain⟨b,xs,_,rfl,e,_⟩:=h;cases YR.mp ha;exact⟨_,e,.inr (.inl ⟨_,rfl⟩)⟩
 |ob b dx C ks ts =>
  obtain⟨xs,_,rfl,e,d,_⟩:=h;rcases YU.mp ha with z|z
  .exact⟨_,z ▸ e,.inr (.inr (.inl ⟨_,_,_,rfl⟩))⟩
  .cases YR.mp z;exact⟨_,d,.inr (.inr (.inr ⟨_,rfl⟩))⟩
 |la b ts=>obtain⟨xs,_,rfl,e,_⟩:=h;cases YR.mp ha;exact⟨_,e,.inl ⟨_,rfl⟩⟩
theorem Slo.frz{u:V}{A:Ψ}{x:OT}(h:Slo K F H (some u) A x)(S:Same F F')(E:∀a∈A,F' a=H a):Rep K F' u (frz x):=by
 cases x with
 |und=>exact .any _
 |fz t=>obtain⟨_,w,e,r⟩:=h;cases e;exact r.same S
 |l1 ts=>obtain⟨b,xs,e,rfl,q,r⟩:=h;cases e;exact .lst ((E _ (by simp)).trans q) (r.same S)
 |l2 ar =>
  obtain⟨b,bs,e,rfl,_,q,l,r⟩:=h;cases e;refine .lst ((E _ (by simp)).trans q) (bZ.of_at (by simp[l]) λi x t e1 e2=>?_);rw[aq]at e1 e2;cases e3:bs[i]? with
  |none=>rw[e3]at e1;cases e1
  |some c =>
   cases e4:ar[i]? with
   |none=>rw[e4]at e2;cases e2
   |some ts =>
    rw[e3]at e1;rw[e4]at e2;cases e1;cases e2;obtain⟨xs,q,r⟩:=r i c ts e3 e4;exact .lst ((E _ (aJ _ (aC e3))).trans q) (r.same S)
 |d1 ks ts=>obtain⟨b,xs,e,rfl,q,l,r⟩:=h;cases e;exact .dct (.inl ((E _ (by simp)).trans q)) l (r.same S)
 |ob b dx C ks ts=>obtain⟨xs,e,rfl,q,d,l,r⟩:=h;cases e;exact .ins ((E _ (by simp)).trans q) ((E _ (by simp)).trans d) l (r.same S)
 |la b ts=>obtain⟨xs,e,rfl,q,r⟩:=h;cases e;exact .lst ((E _ (by simp)).trans q) (r.same S)
def Ow(own:Nat->Ψ)(b:Addr):Prop:=∃i,b∈own i
structure SR(K:Frag)(own:Nat->Ψ)(H:Hp)(σ:L2.St)(o:List OT):Prop where
 len:o.length=σ.length
 sl:∀i x,o[i]?=some x->Slo K (hd (Ow own) H) H (σ[i]?.join) (own i) x
 out:∀i,o.length<=i->∀a∈own i,∃xs,H a=some (.lst xs)
 dis:∀i j a,a∈own i->a∈own j->i=j
variable{own:Nat->Ψ}{σ:L2.St}{o:List OT}
theorem SR.same(h:SR K own H σ o)(E:Same H H'):SR K own H' σ o:=⟨h.len,λi x e=>(h.sl i x e).same (bU E) E,λi hi a ha=>let⟨xs,e⟩:=h.out i hi a ha;⟨xs,E _ _ e⟩,h.dis⟩
theorem SR.sole(h:SR K own H σ o){b:Addr}(z:Ow own b):ZJ H b:=by
 obtain⟨i,z⟩:=z;by_cases hi:i<o.length
 .exact(h.sl i _ (aj hi)).sole z
 .obtain⟨xs,e⟩:=h.out i (Nat.not_lt.mp hi) b z;exact⟨_,e,.inl ⟨_,rfl⟩⟩
theorem ZJ.ne{a:Addr}(h:ZJ H a):H a≠none:=by
 obtain⟨o,e,_⟩:=h;rw[e];exact λz=>by cases z
def NR(K:Frag)(S:Addr->Prop)(H H':Hp)(v:V)(x:OT):Prop:=∃B,(∀a∈B,H a=none)/\Slo K (hd (λb=>S b\/b∈B) H') H' (some v) B x
theorem NR.rep{S:Addr->Prop}{v:V}{x:OT}(h:NR K S H H' v x)(hs:∀b,S b->H b≠none):Rep K (hd S H') v (L2.frz x):=by
 obtain⟨B,n,r⟩:=h;exact r.frz (h_ (λb z=>.inl (.inl z)) (λ_ _ z=>z)) λa ha=>cR λz=>hs a z (n a ha)
theorem NR.fz{S:Addr->Prop}{v:V}{t:T}(h:Rep K (hd S H') v t):NR K S H H' v (.fz t):=⟨[],λ_ z=>(nomatch z),rfl,v,rfl,h.same (h_ (λb z=>.inl (z.elim id λy=>(nomatch y))) λ_ _ z=>z)⟩
theorem NR.l1{S:Addr->Prop}{a:Addr}{xs:Ζ}{ts:List T}(n:H a=none)(e:H' a=some (.lst xs))(h:bZ K (hd (λb=>S b\/b=a) H') xs ts):NR K S H H' (.ref a) (.l1 ts) :=
 ⟨[a],λ_ z=>(YR.mp z) ▸ n,a,xs,rfl,rfl,e,h.same (h_ (λb z=>.inl (z.imp id YR.mp)) λ_ _ z=>z)⟩
theorem NR.back{S:Addr->Prop}{H0:Hp}{v:V}{x:OT}(h:NR K S H H' v x)(E:Same H0 H):NR K S H0 H' v x:=by
 obtain⟨B,n,r⟩:=h;exact⟨B,λa ha=>E.free (n a ha),r⟩
noncomputable def own1(own:Nat->Ψ)(i:Nat)(B:Ψ):Nat->Ψ:=λj=>if j=i then B else own j
theorem jh{i:Nat}{B:Ψ} : own1 own i B i=B:=ZY rfl
theorem fB{i j:Nat}{B:Ψ}(h:j≠i):own1 own i B j=own j:=ZZ h
theorem Ow.of1{i:Nat}{B:Ψ}{b:Addr}(h:Ow (own1 own i B) b):Ow own b\/b∈B:=by
 obtain⟨j,h⟩:=h;by_cases z:j=i
 .rw[z,jh]at h;exact .inr h
 .rw[fB z]at h;exact .inl ⟨j,h⟩
theorem SR.put(h:SR K own H σ o)(E:Same H H'){v:V}{x:OT}(n:NR K (Ow own) H H' v x){i:Nat}(hi:i<o.length):∃ah,SR K ah H' (σ.set i (some v)) (o.set i x)/\Same (hd (Ow own) H) (hd (Ow ah) H'):=by
 obtain⟨B,nb,r⟩:=n;have le:Same (hd (Ow own) H) (hd (Ow (own1 own i B)) H'):=h_ (λb z=>z.of1.imp id (nb b)) E;refine⟨own1 own i B,⟨by rw[VS,VS,h.len],λj y e=>?_,λj hj=>?_,λj k a e1 e2=>?_⟩,le⟩
 .by_cases z:j=i
  .subst z;rw[Tu hi]at e;cases e;rw[jh,Tu (h.len ▸ hi)];exact r.same (h_ (λb z=>.inl z.of1) λ_ _ z=>z) λ_ _ z=>z
  .rw[UP (Ne.symm z)]at e;rw[fB z,UP (Ne.symm z)];exact(h.sl j y e).same le E
 .rw[VS]at hj;rw[fB (by lia)];intro a ha;obtain⟨xs,e⟩:=h.out j hj a ha;exact⟨xs,E _ _ e⟩
 .by_cases z:j=i<;>by_cases y:k=i
  .rw[z,y]
  .rw[z,jh]at e1;rw[fB y]at e2;exact absurd (nb a e1) (h.sole ⟨k,e2⟩).ne
  .rw[y,jh]at e2;rw[fB z]at e1;exact absurd (nb a e2) (h.sole ⟨j,e1⟩).ne
  .rw[fB z]at e1;rw[fB y]at e2;exact h.dis j k a e1 e2
theorem SR.frz(h:SR K own H σ o){i:Nat}{x:OT}(e:o[i]?=some x){u:V}(hu:σ[i]?=some (some u)):∃ah,SR K ah H σ (o.set i (.fz (L2.frz x)))/\Same (hd (Ow own) H) (hd (Ow ah) H):=by
 have hi:i<o.length:=(ao.mp e).1;have le:Same (hd (Ow own) H) (hd (Ow (own1 own i [])) H):=h_ (λb z=>.inl (z.of1.elim id λy=>(nomatch y))) λ_ _ z=>z;have hs:=h.sl i x e;rw[hu]at hs;refine⟨own1 own i [],⟨by rw[VS,h.len],λj y e'=>?_,λj hj=>?_,λj k a e1 e2=>?_⟩,le⟩
 .by_cases z:j=i
  .subst z;rw[Tu hi]at e';cases e';rw[jh,hu];exact⟨rfl,u,rfl,Slo.frz hs le λa ha=>cR λz=>by
    obtain⟨k,z⟩:=z;by_cases y:k=j
    .rw[y,jh]at z;cases z
    .rw[fB y]at z;exact y (h.dis k j a z ha)⟩
  .rw[UP (Ne.symm z)]at e';rw[fB z];exact(h.sl j y e').same le λ_ _ z=>z
 .rw[VS]at hj;rw[fB (by lia)];exact h.out j hj
 .by_cases z:j=i
  .rw[z,jh]at e1;cases e1
  by_cases y:k=i
  .rw[y,jh]at e2;cases e2
  .rw[fB z]at e1;rw[fB y]at e2;exact h.dis j k a e1 e2
theorem SR.chg(h:SR K own H σ o){i:Nat}{x:OT}(e:o[i]?=some x){y:OT}(E:∀b u,b∉own i->H b=some u->H' b=some u)(r:Slo K (hd (Ow own) H') H' (σ[i]?.join) (own i) y):SR K own H' σ (o.set i y)/\Same (hd (Ow own) H) (hd (Ow own) H'):=by
 have hi:i<o.length:=(ao.mp e).1;have le:Same (hd (Ow own) H) (hd (Ow own) H'):=λb u z=>by
  obtain⟨n,z⟩:=cU z;rw[cR n];exact E b u (λq=>n ⟨i,q⟩) z
 refine⟨⟨by rw[VS,h.len],λj z e'=>?_,λj hj a ha=>?_,h.dis⟩,le⟩
 rotate_left
 .rw[VS]at hj;obtain⟨xs,e2⟩:=h.out j hj a ha;exact⟨xs,E a _ (λz=>by have:=h.dis j i a ha z;lia) e2⟩
 by_cases q:j=i
 .subst q;rw[Tu hi]at e';cases e';exact r
 .rw[UP (Ne.symm q)]at e';exact((h.sl j z e').same le λ_ _ z=>z).off λb hb u=>E b u λz=>q (h.dis j i b hb z)
theorem SR.get(h:SR K own H σ o){i:Nat}{t:T}(e:o[i]?=some (.fz t)):∃u,σ[i]?=some (some u)/\Rep K (hd (Ow own) H) u t:=by
 obtain⟨_,u,q,r⟩:=h.sl i _ e;refine⟨u,?_,r⟩;cases z:σ[i]? with
 |none=>rw[z]at q;cases q
 |some w=>rw[z]at q;exact ZH some q
end
end L2
namespace L2
open PySem PySem.Spec PyProof.Rows
abbrev RE:=List OT->(OT->Prop)->Prop
abbrev RT:=List OT->(Bool->Prop)->Prop
abbrev RA:=List OT->(List T->Prop)->Prop
def tQ(K:Frag)(r:RE):TE:=λσ H Q=>∃own o R,SR K own H σ o/\r o R/\∀H' v x,R x->Same H H'->NR K (Ow own) H H' v x->Q v H'
def tQT(K:Frag)(r:RT):TT:=λσ H Q=>∃own o R,SR K own H σ o/\r o R/\∀H' b,R b->Same H H'->Q b H'
def tQA(K:Frag)(n:Nat)(r:RA):TA:=λσ H Q=>∃own o R,SR K own H σ o/\r o R/\∀H' vs ts,R ts->ts.length=n->Same H H'->bZ K (hd (Ow own) H') vs ts->Q vs H'
def QE(X:Cx)(e:Expr)(r:RE):Prop:=PE X e (tQ X.K r)
def QT(X:Cx)(e:Expr)(r:RT):Prop:=PT X e (tQT X.K r)
def QW(X:Cx)(e:Expr)(r:RT):Prop:=PW X e (tQT X.K r)
def QA(X:Cx)(es:List Expr)(r:RA):Prop:=PA X es (tQA X.K es.length r)
theorem PT.imp{X:Cx}{e:Expr}{t t':TT}(h:PT X e t)(i:∀σ H Q,t' σ H Q->t σ H Q):PT X e t':=λaa s σ H Q I q=>h aa s σ H Q I (i σ H Q q)
theorem PW.imp{X:Cx}{e:Expr}{t t':TT}(h:PW X e t)(i:∀σ H Q,t' σ H Q->t σ H Q):PW X e t':=λwh aa s σ H Q I q=>h wh aa s σ H Q I (i σ H Q q)
theorem PA.imp{X:Cx}{es:List Expr}{t t':TA}(h:PA X es t)(i:∀σ H Q,t' σ H Q->t σ H Q):PA X es t':=λp aa s σ H Q I q=>h p aa s σ H Q I (i σ H Q q)
section
variable{K:Frag}{own:Nat->Ψ}{H:Hp}{σ:L2.St}{o:List OT}
theorem tQ.mk{r:RE}{R:OT->Prop}{Q:VK}(h:SR K own H σ o)(hr:r o R)(k:∀H' v x,R x->Same H H'->Rep K (hd (Ow own) H') v (frz x)->Q v H'):tQ K r σ H Q :=
 ⟨own,o,R,h,hr,λH' v x rx E n=>k H' v x rx E (n.rep λb z=>(h.sole z).ne)⟩
noncomputable def slot:List OT->Nat->OT
 |[],_=>.und
 |x::_,0=>x
 |_::l,n+1=>slot l n
theorem gw:∀{o:List OT}{i:Nat}{x:OT},slot o i=x->x≠.und->o[i]?=some x
 |[],_,_,e,n=>absurd e.symm n
 |_::_,0,_,e,_=>ZH some e
 |_::l,i+1,x,e,n=>by simpa using gw (o:=l) (i:=i) e n
end
def afT(i:Nat):RE:=λo q=>match slot o i with|.fz t=>q (.fz t)|_=>False
def rC(t:T):RE:=λ_ q=>q (.fz t)
def rOp(g:T->T->(OT->Prop)->Prop)(a b:RE):RE:=λo q=>a o λx=>b o λy=>g (frz x) (frz y) q
def rUn(g:T->(OT->Prop)->Prop)(a:RE):RE:=λo q=>a o λx=>g (frz x) q
def sw(b:Bool)(p q:Prop):Prop:=match b with|true=>p|false=>q
theorem sw2{b:Bool}{p q:Prop}(h1:b=true->p)(h2:b=false->q):sw b p q:=by
 cases b
 .exact h2 rfl
 .exact h1 rfl
theorem swD{c:Prop}[Decidable c]{p q:Prop}(h1:c->p)(h2:¬c->q):sw (decide c) p q:=sw2 (λe=>h1 (of_decide_eq_true e)) λe=>h2 (of_decide_eq_false e)
theorem swT{b:Bool}{p q:Prop}(e:b=true)(h:p):sw b p q:=by subst e;exact h
theorem swF{b:Bool}{p q:Prop}(e:b=false)(h:q):sw b p q:=by subst e;exact h
section
variable{X:Cx}{a b c:Expr}{ra rb rc:RE}{pos:Pos}
theorem qv(i:Nat){x:Str}{pos:Pos}(hN:X.N[i]?=some x:=by rfl)(hv:rO X.env.scope x=true:=by rfl)(hd:(x==("__debug__":Str))=false:=by decide)
 (be:(x==("__classdict__":Str))=false:=by decide):QE X (.Name x pos) (afT i):=(pv i hN hv hd be).imp λσ H Q hP=>by
 obtain⟨own,o,R,h,hr,k⟩:=hP;unfold afT at hr;cases e:slot o i with
 |fz t =>
  rw[e]at hr;obtain⟨u,q,r⟩:=h.get (gw e (by intro z;cases z));exact⟨u,q,k H u _ hr (.refl _) (NR.fz r)⟩
 |_=>rw[e]at hr;exact hr.elim
theorem qC{e:Expr}{v:V}{t:T}(h:PE X e (tC v))(r:∀F,Rep X.K F v t):QE X e (rC t):=h.imp λσ H Q hP=>by obtain⟨own,o,R,_,hr,k⟩:=hP;exact k H v _ hr (.refl _) (NR.fz (r _))
theorem bA{i j pos} : QE X (.Constant (.int i) j pos) (rC (.int i)):=qC aeY λ_=>.int _
theorem u9{b j pos} : QE X (.Constant (.bool b) j pos) (rC (.bl b)):=qC ahg λ_=>.bl _
theorem jg{j pos} : QE X (.Constant .none j pos) (rC .non):=qC aeO λ_=>.non
theorem uL{x j pos} : QE X (.Constant (.str x) j pos) (rC (.str x)):=qC afC λ_=>.str _
theorem Zc{x:Str}{v:V}{t:T}{pos:Pos}(hg:Gl X x)(hm:∃u,X.mg x=some u/\RelV v u)(r:∀F,Rep X.K F v t)(hd:(x==("__debug__":Str))=false:=by decide):QE X (.Name x pos) (rC t):=qC (Y_ hg hm hd) r
def GO(X:Cx)(f:Value->Value->Sem Value)(g:T->T->(OT->Prop)->Prop):Prop:=OpR X f λx y H Q=>∃S t u R,(∀b,S b->H b≠none)/\Rep X.K (hd S H) x t/\Rep X.K (hd S H) y u/\g t u R/\∀H' v z,R z->Same H H'->NR X.K S H H' v z->Q v H'
theorem q2{g:T->T->(OT->Prop)->Prop}{σ:L2.St}{H:Hp}{Q:VK}(h:tQ X.K (rOp g ra rb) σ H Q):tOp (λx y H Q=>∃S t u R,(∀b,S b->H b≠none)/\Rep X.K (hd S H) x t/\Rep X.K (hd S H) y u/\g t u R/\∀H' v z,R z->Same H H'->NR X.K S H H' v z->Q v H') (tQ X.K ra) (tQ X.K rb) σ H Q:=by
 obtain⟨own,o,R,h,hr,k⟩:=h;exact tQ.mk h hr λH1 v x q E1 r1=>tQ.mk (h.same E1) q λH2 w y q2 E2 r2=>⟨Ow own,_,_,R,λb z=>((h.same (E1.trans E2)).sole z).ne,r1.same (bU E2),r2,q2,λH' u z rz E3 n=>k H' u z rz (E1.trans (E2.trans E3)) (n.back (E1.trans E2))⟩
theorem bK{op:Operator}{g:T->T->(OT->Prop)->Prop}(ho:GO X (binaryOp op) g)(ha:QE X a ra)(hb:QE X b rb):QE X (.BinOp a op b pos) (rOp g ra rb):=(aho ho ha hb).imp λ_ _ _=>q2
theorem Dt{op:CmpOp}{g:T->T->(OT->Prop)->Prop}(ho:GO X (compareOp op) g)(ha:QE X a ra)(hb:QE X b rb)(hm:behindInMarks op b=false:=by exact aa9 _):QE X (.Compare a [op] [b] pos) (rOp g ra rb):=(abO ho ha hb hm).imp λ_ _ _=>q2
def gI(g:Int->Int->OT):T->T->(OT->Prop)->Prop
 |.int i,.int j,q=>q (g i j)
 |_,_,_=>False
theorem GO.ints{f:Value->Value->Sem Value}{g:Int->Int->V}{t:Int->Int->T}(h:OpR X f (rI0 g))(r:∀i j F,Rep X.K F (g i j) (t i j)):GO X f (gI λi j=>.fz (t i j)):=h.imp λx y H Q hP=>by
 obtain⟨S,t,u,R,_,hx,hy,hg,k⟩:=hP;cases hx<;>try exact hg.elim
 cases hy<;>try exact hg.elim
 exact⟨_,_,rfl,rfl,k H _ _ hg (.refl _) (NR.fz (r _ _ _))⟩
theorem mj:GO X (binaryOp .Sub) (gI λi j=>.fz (.int (i-j))):=.ints ago λ_ _ _=>.int _
theorem uY:GO X (compareOp .Lt) (gI λi j=>.fz (.bl (decide (i<j)))):=.ints agy λ_ _ _=>.bl _
theorem Rh:GO X (compareOp .LtE) (gI λi j=>.fz (.bl (decide (i<=j)))):=.ints aiQ λ_ _ _=>.bl _
theorem El:GO X (compareOp .Gt) (gI λi j=>.fz (.bl (decide (j<i)))):=.ints ag0 λ_ _ _=>.bl _
theorem Zz:GO X (compareOp .GtE) (gI λi j=>.fz (.bl (decide (j<=i)))):=.ints ald λ_ _ _=>.bl _
def alO:T->T->(OT->Prop)->Prop
 |.int i,.int j,q=>q (.fz (.int (i+j)))
 |.str a,.str b,q=>a.length+b.length<=sizeLine/\q (.fz (.str (a++b)))
 |.lst a,.lst b,q=>a.length+b.length<=sizeLine/\q (.l1 (a++b))
 |_,_,_=>False
theorem zU{S:Addr->Prop}{H H':Hp}{p:Addr}{xs:Ζ}{ts:List T}(r:bZ X.K (hd S H) xs ts)(E:Same H H')(n:H p=none)(e:H' p=some (.lst xs)):NR X.K S H H' (.ref p) (.l1 ts) :=
 NR.l1 n e (r.same (h_ (λb z=>z.imp id λ(y:b=p)=>y ▸ n) E))
theorem cN:GO X (binaryOp .Add) alO:=λaa s σ H x y v u Q I rx ry hP=>by
 obtain⟨S,t,w,R,_,hx,hy,hg,k⟩:=hP;cases t<;>try exact hg.elim
 .cases hx;cases w<;>try exact hg.elim
  cases hy;exact afP aa s σ H _ _ v u Q I rx ry ⟨_,_,rfl,rfl,k H _ _ hg (.refl _) (NR.fz (.int _))⟩
 .cases hx;cases w<;>try exact hg.elim
  cases hy;exact acU aa s σ H _ _ v u Q I rx ry ⟨_,_,rfl,rfl,hg.1,k H _ _ hg.2 (.refl _) (NR.fz (.str _))⟩
 .cases w<;>try exact hg.elim
  obtain⟨a,xs,rfl,e1,r1⟩:=hx.lstI;obtain⟨b,ys,rfl,e2,r2⟩:=hy.lstI;exact adE aa s σ H _ _ v u Q I rx ry ⟨a,b,xs,ys,rfl,rfl,(cU e1).2,(cU e2).2,by rw[r1.len,r2.len];exact hg.1,λp H' E n e=>k H' _ _ hg.2 E (zU (r1.app r2) E n e)⟩
def ano:T->T->(OT->Prop)->Prop
 |.int i,.int j,q=>(Bd i/\Bd j)/\q (.fz (.int (i*j)))
 |.lst a,.int j,q=>(-(2^63)<=j/\j<2^63/\a.length*j.toNat<=sizeLine)/\∀z,z=(List.replicate j.toNat a).flatten->q (.l1 z)
 |.str a,.int j,q=>(∃c,a=⟨#[c]⟩/\1<=j/\j<=1000/\∀z:Str,z.cps.toList=List.replicate j.toNat c->q (.fz (.str z)))
 |_,_,_=>False
def alQ:T->T->(OT->Prop)->Prop
 |.int i,.int j,q=>(j≠0/\Bd j)/\q (.fz (.int (i.fdiv j)))
 |_,_,_=>False
def amy:T->T->(OT->Prop)->Prop
 |.int i,.int j,q=>0<j/\q (.fz (.int (i%j)))
 |_,_,_=>False
def ame:T->T->(OT->Prop)->Prop
 |.int i,.int j,q=>akI i j/\q (.fz (.int (i^j.toNat)))
 |_,_,_=>False
theorem mF:GO X (binaryOp .FloorDiv) alQ:=Yl.imp λx y H Q hP=>by
 obtain⟨S,t,u,R,_,hx,hy,hg,k⟩:=hP;cases hx<;>try exact hg.elim
 cases hy<;>try exact hg.elim
 exact⟨_,_,rfl,rfl,hg.1,k H _ _ hg.2 (.refl _) (NR.fz (.int _))⟩
theorem cC:GO X (binaryOp .Mod) amy:=afc.imp λx y H Q hP=>by
 obtain⟨S,t,u,R,_,hx,hy,hg,k⟩:=hP;cases hx<;>try exact hg.elim
 cases hy<;>try exact hg.elim
 exact⟨_,_,rfl,rfl,hg.1,k H _ _ hg.2 (.refl _) (NR.fz (.int _))⟩
theorem TJ:GO X (binaryOp .Pow) ame:=afl.imp λx y H Q hP=>by
 obtain⟨S,t,u,R,_,hx,hy,hg,k⟩:=hP;cases hx<;>try exact hg.elim
 cases hy<;>try exact hg.elim
 exact⟨_,_,rfl,rfl,hg.1,k H _ _ hg.2 (.refl _) (NR.fz (.int _))⟩
def alu:T->(OT->Prop)->Prop
 |.int i,q=>q (.fz (.int (-i)))
 |_,_=>False
theorem zV(ha:QE X a ra):QE X (.UnaryOp .USub a pos) (rUn alu ra):=(ahk afB ha).imp λσ H Q ⟨own,o,R,h,hr,k⟩=>tQ.mk h hr λH1 v x q E1 r1=>by
 revert r1 q
 generalize frz x=t;intro q r1;cases r1<;>try exact q.elim
 exact⟨_,rfl,k _ _ _ q E1 (NR.fz (.int _))⟩
noncomputable def V6:T->Option Bool
 |.non=>some true
 |.any=>none
 |.val v=>some (decide (v=.non))
 |_=>some false
def gIs(neg:Bool):T->T->(OT->Prop)->Prop:=λt u q=>match u,V6 t with
 |.non,some b=>q (.fz (.bl (xor neg b)))
 |_,_=>False
theorem QV{F:Hp}{K:Frag}{x:V}{t:T}{b:Bool}(h:Rep K F x t)(e:V6 t=some b):decide (x=.non)=b:=by
 cases h<;>cases e<;>first|rfl|(apply Zp;intro z;cases z)
theorem G3:GO X (compareOp .Is) (gIs false):=afi.imp λx y H Q hP=>by
 obtain⟨S,t,u,R,_,hx,hy,hg,k⟩:=hP;cases hy<;>try exact hg.elim
 unfold gIs at hg;cases e:V6 t with
 |none=>rw[e]at hg;exact hg.elim
 |some b=>rw[e]at hg;exact⟨rfl,k H _ _ hg (.refl _) (NR.fz (by rw[QV hx e,Bool.false_xor];exact .bl _))⟩
theorem FT:GO X (compareOp .IsNot) (gIs true):=acw.imp λx y H Q hP=>by
 obtain⟨S,t,u,R,_,hx,hy,hg,k⟩:=hP;cases hy<;>try exact hg.elim
 unfold gIs at hg;cases e:V6 t with
 |none=>rw[e]at hg;exact hg.elim
 |some b=>rw[e]at hg;exact⟨rfl,k H _ _ hg (.refl _) (NR.fz (by rw[QV hx e,Bool.true_xor];exact .bl _))⟩
end
structure Hid(H:Hp)(S:Addr->Prop):Prop where
 sole:∀b,S b->ZJ H b
 ins:∀a C dx fs,S a->H a=some (.ins C dx fs)->S dx
 own:∀b x,S b->H b=some (.own x)->S x
theorem SR.mate{K:Frag}{own:Nat->Ψ}{H:Hp}{σ:L2.St}{o:List OT}(h:SR K own H σ o){j:Nat}{b:Addr}(hb:b∈own j):(∀C d f,H b=some (.ins C d f)->d∈own j)/\∀x,H b=some (.own x)->x∈own j:=by
 have nl:∀{xs:Ζ},H b=some (.lst xs)->(∀C d f,H b=some (.ins C d f)->d∈own j)/\∀x,H b=some (.own x)->x∈own j:=λq=>⟨(λ_ _ _ e=>by rw[q]at e;cases e),(λ_ e=>by rw[q]at e;cases e)⟩;by_cases hj:j<o.length
 .have s:=h.sl j _ (aj hj);cases y:o[j]with
  |und=>rw[y]at s;rw[show own j=[]from s]at hb;cases hb
  |fz t=>rw[y]at s;rw[s.1]at hb;cases hb
  |l1 ts=>rw[y]at s;obtain⟨c,xs,_,w,q,_⟩:=s;rw[w]at hb;cases YR.mp hb;exact nl q
  |l2 ar =>
   rw[y]at s;obtain⟨c,bs,_,w1,_,q1,l,r⟩:=s;rw[w1]at hb;rcases YU.mp hb with z|z
   .exact nl (z ▸ q1)
   .obtain⟨i,hi⟩:=aV z;obtain⟨xs,q2,_⟩:=r i b _ hi (aj (l ▸ (ao.mp hi).1));exact nl q2
  |d1 ks ts=>rw[y]at s;obtain⟨c,xs,_,w,q,_⟩:=s;rw[w]at hb;cases YR.mp hb;exact⟨(λ_ _ _ e=>by rw[q]at e;cases e),(λ_ e=>by rw[q]at e;cases e)⟩
  |la c ts=>rw[y]at s;obtain⟨xs,_,w,q,_⟩:=s;rw[w]at hb;cases YR.mp hb;exact nl q
  |ob c d C' ks ts =>
   rw[y]at s;obtain⟨xs,_,w,q,q2,_⟩:=s;rw[w]at hb ⊢;rcases YU.mp hb with z|z
   .refine⟨λ_ _ _ e=>?_,λ_ e=>?_⟩
    .rw[z,q]at e;cases e;simp
    .rw[z,q]at e;cases e
   .cases YR.mp z;refine⟨λ_ _ _ e=>?_,λ_ e=>?_⟩
    .rw[q2]at e;cases e
    .rw[q2]at e;cases e;simp
 .obtain⟨xs,q⟩:=h.out j (Nat.not_lt.mp hj) b hb;exact nl q
theorem SR.hid{K:Frag}{own:Nat->Ψ}{H:Hp}{σ:L2.St}{o:List OT}(h:SR K own H σ o):Hid H (Ow own) :=
 ⟨λb z=>h.sole z,λa C dx fs ⟨j,z⟩ e=>⟨j,(h.mate z).1 C dx fs e⟩,λb x ⟨j,z⟩ e=>⟨j,(h.mate z).2 x e⟩⟩
noncomputable def mrg(S:Addr->Prop)(H G:Hp):Hp:=λb=>open Classical in if S b then H b else G b
theorem vd{S:Addr->Prop}{H G:Hp}{b:Addr}(h:S b):mrg S H G b=H b:=by unfold mrg;rw[ZY h]
theorem j7{S:Addr->Prop}{H G:Hp}{b:Addr}(h:¬S b):mrg S H G b=G b:=by unfold mrg;rw[ZZ h]
def spH(sp:Sp):Sp:=λvs H Q _=>∃S:Addr->Prop,Hid H S/\sp vs (hd S H) (λv G=>(∀b,S b->G b=none)->Q v (mrg S H G)) λ_ _ _=>False
section
variable{P:Program}{w:World}{K:Frag}{mg:Str->Ω}{base:Heap}
theorem cj.hid{k:Nat}{f:Addr}{fd:FuncData}{ps:Φ}{sp:Sp}(F:cj P w K mg base CX0 k f fd ps sp):cj P w K mg base CX0 k f fd ps (spH sp):=by
 refine⟨λvs H Q E h=>?_,λA outer s H args us vs Q E hr e0 hb r h=>?_⟩
 .obtain⟨S,_,z⟩:=h;exact F.len vs _ _ _ z
 obtain⟨S,hS,z⟩:=h;have non:∀{b:Addr},H b=none->hd S H b=none:=λ{b}e=>by
  by_cases z:S b
  .exact pP z
  .rw[cR z];exact e
 have dQ:∀{b:Addr}{u:HO},S b->H b=some u->(∀xs,u≠.tup xs)/\(∀o v,u≠.frz o v)/\∀ps,u≠.tbl ps:=λ{b u}z e=>by
  obtain⟨o,q,w⟩:=hS.sole b z;rw[e]at q;cases q;rcases w with⟨_,rfl⟩|⟨_,rfl⟩|⟨_,_,_,rfl⟩|⟨_,rfl⟩<;>exact⟨λ_ z=>(nomatch z),λ_ _ z=>(nomatch z),λ_ z=>(nomatch z)⟩
 have e1:Ru P w K mg base A outer s (hd S H):=⟨e0.frames,e0.mod,λb o e=>⟨(e0.bs b o e).1,non (e0.bs b o e).2⟩,e0.bsz,e0.funs,λb hb=>non (e0.frf b hb),λb u e=>by
  obtain⟨nb,e'⟩:=cU e;refine(e0.hok b u e').stay (λ_ _ _ z=>z) (λd z=>?_) λd xs z=>?_
  .rw[cR λy=>nb (hS.own d b y z)];exact z
  .rw[cR λy=>(dQ y z).1 xs rfl];exact z,e0.bare⟩
 refine codeAny_mono (F.run A outer s (hd S H) args us vs _ _ hr e1 hb r z) λres s' hs=>?_;cases res with
 |error e=>exact hs.elim
 |ok fl =>
  cases fl with
  |next=>exact False.elim hs
  |brk=>exact False.elim hs
  |cont=>exact False.elim hs
  |ret u =>
   obtain⟨v,G,os,bare,un,hok,rv,q⟩:=hs;have there:∀{b:Addr},S b->∃o,s.heap.get? b=some o:=λ{b}y=>by
    obtain⟨u,e,w⟩:=hS.sole b y;have x:=e0.hok b u e;rcases w with⟨xs,rfl⟩|⟨kk,rfl⟩|⟨C,d,f,rfl⟩|⟨y,rfl⟩
    .obtain⟨_,_,_,_,e2⟩:=x;exact⟨_,e2⟩
    .obtain⟨_,_,_,_,_,_,_,e2,_⟩:=x;exact⟨_,e2⟩
    .obtain⟨_,_,_,e2,_⟩:=x;exact⟨_,e2⟩
    .exact x
   have keep:∀{b:Addr}{o:Obj},S b->s.heap.get? b=some o->s'.heap.get? b=some o:=λ{b o}y e=>un.keep b o e (pP y) (λz=>(hS.sole b y).ne (e0.frf b z)) (by simp);have gone:∀b,S b->G b=none:=λb y=>by
    obtain⟨o,ho⟩:=there y;exact un.free b o ho (pP y) (by simp)
   have no':∀{b:Addr}{u:HO},G b=some u->¬S b:=λe z=>by rw[gone _ z]at e;cases e
   have c9:∀{b:Addr}{u:HO},G b=some u->mrg S H G b=some u:=λe=>(j7 (no' e)).trans e;refine⟨v,mrg S H G,os,bare,⟨λb o e n=>un.keep b o e (non n),λb o e n=>un.slot b o e (non n),λb o e n z=>?_,un.there,λb xs e=>?_,λb o u e=>?_,λb ps e=>?_⟩,λb u e=>?_,rv,q gone⟩
   .rw[j7 λy=>(hS.sole b y).ne n];exact un.free b o e (non n) z
   .have n:¬S b:=λy=>(dQ y e).1 xs rfl;exact c9 (un.tups b xs ((cR n).trans e))
   .have n:¬S b:=λy=>(dQ y e).2.1 o u rfl;exact c9 (un.frzs b o u ((cR n).trans e))
   .have n:¬S b:=λy=>(dQ y e).2.2 ps rfl;obtain⟨more,this⟩:=un.tbls b ps ((cR n).trans e);exact⟨more,c9 this⟩
   .by_cases z:S b
    .rw[vd z]at e;have x:=e0.hok b u e;obtain⟨u',e',w⟩:=hS.sole b z;rw[e]at e';cases e';rcases w with⟨xs,rfl⟩|⟨kk,rfl⟩|⟨C,d,f,rfl⟩|⟨y,rfl⟩
     .obtain⟨z1,its,n,r,e2⟩:=x;exact⟨z1,its,n,r,keep z e2⟩
     .obtain⟨z1,y,vs,r,ob,es,ep,e2,c⟩:=x;exact⟨z1,y,vs,r,ob,es,ep,keep z e2,c⟩
     .obtain⟨d1,z1,ne,e2,mA,⟨od,es,ep,e3,c⟩,r⟩:=x;have sd:=hS.ins b C d f z e;exact⟨(vd sd).trans d1,z1,ne,keep z e2,mA,⟨od,es,ep,keep sd e3,c⟩,r⟩
     .obtain⟨ob,e2⟩:=x;exact⟨ob,keep z e2⟩
    .rw[j7 z]at e;exact(hok b u e).stay (λ_ _ _ z=>z) (λd z=>c9 z) λd xs z=>c9 z
abbrev ST:=List T->(OT->Prop)->Prop
def spT(K:Frag)(S:ST):Sp:=λvs H Q _=>∃ts R,bZ K H vs ts/\S ts R/\∀H' v x,R x->Same H H'->NR K (λ_=>False) H H' v x->Q v H'
abbrev OkT(P:Program)(w:World)(K:Frag)(mg:Str->Ω)(base:Heap)(k:Nat)(x:Str)(ps:Φ)(S:ST):Prop:=OkF P w K mg base k x ps (spT K S)
end
section
variable{X:Cx}
def ad8:RA:=λ_ q=>q []
def adP(a:RE)(r:RA):RA:=λo q=>a o λx=>r o λts=>q (frz x::ts)
theorem bF:QA X [] ad8:=La.imp λσ H Q hP=>by obtain⟨own,o,R,h,hr,k⟩:=hP;exact k H [] [] hr rfl (.refl _) .nil
theorem tQA.mk{K:Frag}{own:Nat->Ψ}{H:Hp}{σ:L2.St}{o:List OT}{r:RA}{R:List T->Prop}{Q:Ζ->Hp->Prop}(h:SR K own H σ o)(hr:r o R){n:Nat}(k:∀H' vs ts,R ts->ts.length=n->Same H H'->bZ K (hd (Ow own) H') vs ts->Q vs H'):tQA K n r σ H Q:=⟨own,o,R,h,hr,k⟩
theorem bx{e:Expr}{es:List Expr}{a:RE}{r:RA}(ha:QE X e a)(hr:QA X es r)(hs:starEach (e::es) X.env=(false,eval e X.env)::starEach es X.env:=by rfl):QA X (e::es) (adP a r):=(oF ha hr hs).imp λσ H Q ⟨own,o,R,h,hr,k⟩ =>
 tQ.mk h hr λH1 v x q E1 r1=>tQA.mk (h.same E1) q λH2 vs ts q2 ln E2 r2=>k H2 (v::vs) (frz x::ts) q2 (ZH (· + 1) ln) (E1.trans E2) (.cons (r1.same (bU E2)) r2)
def aaO(S:ST)(r:RA):RE:=λo q=>r o λts=>S ts q
theorem bI{p pos:Pos}{e:Expr}{es:List Expr}{r:RA}{x:Str}{k:Nat}{ps:Φ}{S:ST}(G:OkT X.prog X.w X.K X.mg X.base k x ps S)(hr:fD k X.A)(hg:Gl X x)(ha:QA X (e::es) r)(cc:(x==("__debug__":Str))=false:=by decide)
 (he:starEach (e::es) X.env=(false,eval e X.env)::starEach es X.env:=by rfl)(bg:(backTo pos (starEach es X.env)).any (·.1)=false:=by rfl):QE X (.Call (.Name x p) (e::es) [] pos) (aaO S r):=by
 obtain⟨f,fd,F,b,hm,kp⟩:=G;refine(Hh (sp:=spH (spT X.K S)) ⟨f,fd,F.hid,b,hm,kp⟩ hr hg ha cc he bg).imp λσ H Q ⟨own,o,R,h,hr,k⟩=>tQA.mk h hr λH1 vs ts q _ E1 r1=>?_;have h1:=h.same E1;refine⟨Ow own,h1.hid,ts,R,r1,q,λG v x rx E n gone=>?_⟩;have EH:Same H1 (mrg (Ow own) H1 G):=λb u e=>by
  by_cases z:Ow own b
  .rw[vd z];exact e
  .rw[j7 z];exact E b u ((cR z).trans e)
 have EG:Same G (mrg (Ow own) H1 G):=λb u e=>by rw[j7 λz=>by rw[gone b z]at e;cases e];exact e
 refine k _ v x rx (E1.trans EH) (NR.back (H:=H1) ?_ E1);obtain⟨B,nb,s⟩:=n;have out:∀a∈B,¬Ow own a:=λa ha z=>(s.sole ha).ne (gone a z);refine⟨B,λa ha=>by have:=nb a ha;rwa[cR (out a ha)]at this,s.same (h_ (λb z=>?_) EG) EG⟩;rcases z with z|z
 .exact .inr (gone b z)
 .exact .inl (.inr z)
end
def rB(a:RE):RT:=λo q=>a o λx=>match frz x with|.bl b=>q b|_=>False
def tru:T->(Bool->Prop)->Prop
 |.bl b,q=>q b
 |.int i,q=>q (i != 0)
 |.non,q=>q false
 |.lst ts,q=>q (!ts.isEmpty)
 |.tup ts,q=>q (!ts.isEmpty)
 |_,_=>False
def anC(a:RE):RT:=λo q=>a o λx=>tru (frz x) q
def afM(a b:RT):RT:=λo q=>a o λc=>sw c (b o q) (q false)
def rOr(a b:RT):RT:=λo q=>a o λc=>sw c (q true) (b o q)
def anx(a:RT):RT:=λo q=>a o λc=>q (!c)
def aj6(a b:RE):RE:=λo q=>a o λx=>match frz x with|.bl c=>sw c (b o q) (q (.fz (.bl false)))|_=>False
def aiP(a:RE):RE:=λo q=>a o λx=>match frz x with|.bl c=>q (.fz (.bl (!c)))|_=>False
def rIf(c:RT)(a b:RE):RE:=λo q=>c o λk=>sw k (a o q) (b o q)
theorem tQT.mk{K:Frag}{own:Nat->Ψ}{H:Hp}{σ:L2.St}{o:List OT}{r:RT}{R:Bool->Prop}{Q:Bool->Hp->Prop}(h:SR K own H σ o)(hr:r o R)(k:∀H' b,R b->Same H H'->Q b H'):tQT K r σ H Q:=⟨own,o,R,h,hr,k⟩
theorem Rep.isEmpty{K:Frag}{F:Hp}{xs:Ζ}{ts:List T}(h:bZ K F xs ts):xs.isEmpty=ts.isEmpty:=by cases h<;>rfl
theorem Jo{c:Bool}{p q p' q':Prop}(h:sw c p q)(i:p->p')(j:q->q'):if c=true then p' else q':=by
 cases c
 .exact amv (j h)
 .exact als (i h)
section
variable{X:Cx}{a b c:Expr}{ra rb rc:RE}{qa qb qc:RT}{pos:Pos}{rest:List Expr}
theorem bY{op:CmpOp}{g:T->T->(OT->Prop)->Prop}(ho:GO X (compareOp op) g)(ha:QE X a ra)(hb:QE X b rb)(hm:behindInMarks op b=false:=by exact aa9 _):QT X (.Compare a [op] [b] pos) (rB (rOp g ra rb)) :=
 (acA ho ha hb hm).imp λσ H Q ⟨own,o,R,h,hr,k⟩=>q2 (ra:=ra) (rb:=rb) (tQ.mk h hr λH1 v x q E1 r1=>by
  revert r1 q
  generalize frz x=t;intro q r1;cases r1<;>try exact q.elim
  exact⟨_,rfl,k _ _ q E1⟩)
theorem dX(ha:QE X a ra)(he:∀ck,isTrue a X.env ck=(do let v <- ck;standAt a.pos;holding [v] (truthy v)):=by exact λ_=>rfl):QT X a (anC ra):=(aaN ha he).imp λσ H Q ⟨own,o,R,h,hr,k⟩=>tQ.mk h hr λH1 v x q E1 r1=>by
 revert r1 q
 generalize frz x=t;intro q r1;cases t<;>try exact q.elim
 .cases r1;exact⟨false,rfl,k _ _ q E1⟩
 .cases r1;exact⟨_,rfl,k _ _ q E1⟩
 .cases r1;exact⟨_,rfl,k _ _ q E1⟩
 .obtain⟨p,xs,rfl,e,r⟩:=r1.tupI;exact⟨_,.inr (.inl ⟨xs,dU.tup e,rfl⟩),by rw[Rep.isEmpty r];exact k _ _ q E1⟩
 .obtain⟨p,xs,rfl,e,r⟩:=r1.lstI;exact⟨_,.inl ⟨xs,.of (cU e).2,rfl⟩,by rw[Rep.isEmpty r];exact k _ _ q E1⟩
theorem fX(ha:QT X a qa):QT X (.UnaryOp .Not a pos) (anx qa):=(afy ha).imp λσ H Q hP=>by obtain⟨own,o,R,h,hr,k⟩:=hP;exact tQT.mk h hr λH1 b q E1=>k H1 _ q E1
theorem C_(ha:QT X a qa):QW X (.BoolOp .And [a] pos) qa:=pw_and1 ha
theorem k_(ha:QT X a qa):QW X (.BoolOp .Or [a] pos) qa:=pw_or1 ha
theorem Il(ha:QT X a qa)(hb:QW X (.BoolOp .And (b::rest) pos) qb):QW X (.BoolOp .And (a::b::rest) pos) (afM qa qb):=(pw_and ha hb).imp λσ H Q hP=>by obtain⟨own,o,R,h,hr,k⟩:=hP;exact tQT.mk h hr λH1 c q E1=>Jo q (λq=>tQT.mk (h.same E1) q λH2 d q E2=>k H2 d q (E1.trans E2)) λq=>k H1 _ q E1
theorem nR(ha:QT X a qa)(hb:QW X (.BoolOp .Or (b::rest) pos) qb):QW X (.BoolOp .Or (a::b::rest) pos) (rOr qa qb):=(pw_or ha hb).imp λσ H Q hP=>by obtain⟨own,o,R,h,hr,k⟩:=hP;exact tQT.mk h hr λH1 c q E1=>Jo q (λq=>k H1 _ q E1) λq=>tQT.mk (h.same E1) q λH2 d q E2=>k H2 d q (E1.trans E2)
theorem QW.qt(h:QW X a qa):QT X a qa:=PW.pt h
theorem Um{op}(h:QE X a ra):QE X (.BoolOp op [a] pos) ra:=ael h
theorem Uy(ha:QE X a ra)(hb:QE X (.BoolOp .And (b::rest) pos) rb):QE X (.BoolOp .And (a::b::rest) pos) (aj6 ra rb):=(ae3 ha hb).imp λσ H Q ⟨own,o,R,h,hr,k⟩=>tQ.mk h hr λH1 v x q E1 r1=>by
 revert r1 q
 generalize frz x=t;intro q r1;cases r1<;>try exact q.elim
 exact⟨_,rfl,Jo q (λq=>⟨own,o,R,h.same E1,q,λH2 v x q E2 n=>k H2 v x q (E1.trans E2) (n.back E1)⟩) λq=>k H1 _ _ q E1 (NR.fz (.bl _))⟩
theorem af4(ha:QE X a ra):QE X (.UnaryOp .Not a pos) (aiP ra):=(af8 ha).imp λσ H Q ⟨own,o,R,h,hr,k⟩=>tQ.mk h hr λH1 v x q E1 r1=>by
 revert r1 q
 generalize frz x=t;intro q r1;cases r1<;>try exact q.elim
 exact⟨_,rfl,k H1 _ _ q E1 (NR.fz (.bl _))⟩
theorem Wi{c:Expr}(hc:QT X c qc)(ha:QE X a ra)(hb:QE X b rb):QE X (.IfExp c a b pos) (rIf qc ra rb):=(aa8 hc ha hb).imp λσ H Q ⟨own,o,R,h,hr,k⟩=>tQT.mk h hr λH1 c q E1 =>
 Jo q (λq=>⟨own,o,R,h.same E1,q,λH2 v x q E2 n=>k H2 v x q (E1.trans E2) (n.back E1)⟩) λq=>⟨own,o,R,h.same E1,q,λH2 v x q E2 n=>k H2 v x q (E1.trans E2) (n.back E1)⟩
def rCh(g g':T->T->(OT->Prop)->Prop)(a b c:RE):RE:=λo q=>a o λx=>b o λy=>g (frz x) (frz y) λz=>match frz z with|.bl k=>sw k (c o λw=>g' (frz y) (frz w) q) (q (.fz (.bl false)))|_=>False
theorem q3{op dq:CmpOp}{g g':T->T->(OT->Prop)->Prop}(ho:GO X (compareOp op) g)(df:GO X (compareOp dq) g'){σ:L2.St}{H:Hp}{Q:VK}(h:tQ X.K (rCh g g' ra rb rc) σ H Q):Ua (λx y H Q=>∃S t u R,(∀b,S b->H b≠none)/\Rep X.K (hd S H) x t/\Rep X.K (hd S H) y u/\g t u R/\∀H' v z,R z->Same H H'->NR X.K S H H' v z->Q v H') (λx y H Q=>∃S t u R,(∀b,S b->H b≠none)/\Rep X.K (hd S H) x t/\Rep X.K (hd S H) y u/\g' t u R/\∀H' v z,R z->Same H H'->NR X.K S H H' v z->Q v H') (tQ X.K ra) (tQ X.K rb) (tQ X.K rc) σ H Q:=by
 obtain⟨own,o,R,h,hr,k⟩:=h;refine tQ.mk h hr λH1 v x q E1 r1=>tQ.mk (h.same E1) q λH2 w y q2 E2 r2=>?_;have h2:=h.same (E1.trans E2);refine⟨Ow own,_,_,_,λb z=>(h2.sole z).ne,r1.same (bU E2),r2,q2,λH3 u z rz E3 n=>?_⟩;have ku:=n.rep λb z=>(h2.sole z).ne
 revert ku rz
 generalize frz z=t;intro rz ku;cases ku<;>try exact rz.elim
 have h3:=h2.same E3;refine⟨_,rfl,Jo rz (λq=>tQ.mk h3 q λH4 w' z q4 E4 r4=>⟨Ow own,_,_,R,λb z=>((h3.same E4).sole z).ne,r2.same (bU (E3.trans E4)),r4,q4,λH' u z rz E5 n=>k H' u z rz (E1.trans (E2.trans (E3.trans (E4.trans E5)))) (n.back (E1.trans (E2.trans (E3.trans E4))))⟩) λq=>k H3 _ _ q (E1.trans (E2.trans E3)) (NR.fz (.bl _))⟩
theorem RG{op dq:CmpOp}{g g':T->T->(OT->Prop)->Prop}(ho:GO X (compareOp op) g)(df:GO X (compareOp dq) g')(ha:QE X a ra)(hb:QE X b rb)(hc:QE X c rc)(hm:lastMarks [op,dq] [b,c]=false:=by with_unfolding_all rfl):QE X (.Compare a [op,dq] [b,c] pos) (rCh g g' ra rb rc):=(Zo ho df ha hb hc hm).imp λ_ _ _=>q3 ho df
theorem R6{op dq:CmpOp}{g g':T->T->(OT->Prop)->Prop}(ho:GO X (compareOp op) g)(df:GO X (compareOp dq) g')(ha:QE X a ra)(hb:QE X b rb)(hc:QE X c rc)(hm:lastMarks [op,dq] [b,c]=false:=by with_unfolding_all rfl):QT X (.Compare a [op,dq] [b,c] pos) (rB (rCh g g' ra rb rc)) :=
 (ZC ho df ha hb hc hm).imp λσ H Q ⟨own,o,R,h,hr,k⟩=>q3 (ra:=ra) (rb:=rb) (rc:=rc) ho df (tQ.mk h hr λH1 v x q E1 r1=>by
  revert r1 q
  generalize frz x=t;intro q r1;cases r1<;>try exact q.elim
  exact⟨_,rfl,k _ _ q E1⟩)
end
noncomputable def nth{α:Type} : List α->Nat->Option α
 |[],_=>none
 |x::_,0=>some x
 |_::l,n+1=>nth l n
theorem rR{α:Type} : ∀(l:List α)(n:Nat),nth l n=l[n]?
 |[],_=>rfl
 |_::_,0=>rfl
 |_::l,n+1=>by simpa[nth]using rR l n
def ixT{α:Type}(ts:List α):Int->Option α
 |.ofNat n=>nth ts n
 |.negSucc n=>nth ts.reverse n
theorem Tz{α:Type}(ts:List α)(i:Int):ixT ts i=atI ts i:=by
 unfold ixT atI ixN;cases i with
 |ofNat n =>
  show nth ts n=_;rw[rR,ZY (show 0<=Int.ofNat n from Wp n)];by_cases h:n<ts.length
  .rw[ZY (by show(n:Int)<_;lia)];rfl
  .rw[ZZ (by show ¬(n:Int)<_;lia),aM (Nat.not_lt.mp h)];rfl
 |negSucc n =>
  show nth ts.reverse n=_;rw[rR,ZZ (by lia)];by_cases h:n<ts.length
  .rw[ZY (by lia),List.getElem?_reverse h];show _=ts[_]?;rw[show(Int.negSucc n+(ts.length:Int)).toNat=ts.length-1-n by lia]
  .rw[ZZ (by lia),aM (by rw[List.length_reverse];exact VU h)];rfl
theorem bZ.ix{K:Frag}{F:Hp}{xs:Ζ}{ts:List T}{i:Int}{t:T}(h:bZ K F xs ts)(e:ixT ts i=some t):∃x,atI xs i=some x/\Rep K F x t:=by
 rw[Tz]at e;unfold atI at e ⊢;rw[h.len];cases j:ixN ts.length i with
 |none=>rw[j]at e;cases e
 |some n=>rw[j]at e;exact h.at_ e
def oT{α:Type}(x:Option α)(q:α->Prop):Prop:=match x with|some t=>q t|none=>False
theorem adX{α:Type}{x:Option α}{q:α->Prop}(h:oT x q):∃t,x=some t/\q t:=by
 cases x with
 |none=>exact h.elim
 |some t=>exact⟨t,rfl,h⟩
def gIx:T->T->(OT->Prop)->Prop
 |.tup ts,.int i,q=>oT (ixT ts i) λt=>q (.fz t)
 |.lst ts,.int i,q=>∃t,ixT ts i=some t/\q (.fz t)
 |.scr ts,.int i,q=>∃t,ixT ts i=some t/\q (.fz t)
 |.str s,.int i,q=>s.length<=sizeLine/\∃c,ixT s.cps.toList i=some c/\q (.fz (.str ⟨#[c]⟩))
 |_,_,_=>False
section
variable{X:Cx}{a b c e:Expr}{ra rb rc re:RE}{qa qb qc:RT}{pos p2:Pos}{lo hi:Option Expr}
theorem gix:IxR X (λx y H Q=>∃S t u R,(∀b,S b->H b≠none)/\Rep X.K (hd S H) x t/\Rep X.K (hd S H) y u/\gIx t u R/\∀H' v z,R z->Same H H'->NR X.K S H H' v z->Q v H'):=by
 refine(yj.or (af0.or aez)).imp λx y H Q h=>?_;obtain⟨S,t,u,R,_,hx,hy,hg,k⟩:=h;cases u with
 |int i=>?_
 |_=>cases t<;>exact hg.elim
 cases hy;cases t with
 |any=>exact hg.elim
 |non=>exact hg.elim
 |bl _=>exact hg.elim
 |int _=>exact hg.elim
 |val _=>exact hg.elim
 |dct _ _=>exact hg.elim
 |ins _ _ _=>exact hg.elim
 |str s=>?_
 |tup ts=>?_
 |lst ts=>?_
 |scr ts=>?_
 .cases hx;obtain⟨z,c,e,q⟩:=hg;rw[Tz]at e;exact .inr (.inr ⟨_,_,c,rfl,rfl,z,e,k H _ _ q (.refl _) (NR.fz (.str _))⟩)
 .obtain⟨p,xs,rfl,e,r⟩:=hx.tupI;obtain⟨t,j,q⟩:=adX hg;obtain⟨v,e',r'⟩:=r.ix j;exact .inr (.inl ⟨p,xs,i,v,rfl,rfl,dU.tup e,e',k H _ _ q (.refl _) (NR.fz r')⟩)
 .obtain⟨p,xs,rfl,e,r⟩:=hx.lstI;obtain⟨t,j,q⟩:=hg;obtain⟨v,e',r'⟩:=r.ix j;exact .inl ⟨p,xs,_,v,rfl,rfl,.of (cU e).2,e',k H _ _ q (.refl _) (NR.fz r')⟩
 .obtain⟨p,xs,rfl,e,r⟩:=hx.scrI;obtain⟨t,j,q⟩:=hg;obtain⟨v,e',r'⟩:=r.ix j;exact .inl ⟨p,xs,_,v,rfl,rfl,dU.seq e,e',k H _ _ q (.refl _) (NR.fz r')⟩
theorem bJ(ha:QE X a ra)(hb:QE X b rb)(hs:ug b:=by exact λ_ _=>rfl):QE X (.Subscript a b pos) (rOp gIx ra rb):=(KD gix ha hb hs).imp λ_ _ _=>q2
abbrev RO:=List OT->(Option Int->Prop)->Prop
def tQO(K:Frag)(r:RO):TO:=λσ H Q=>∃own o R,SR K own H σ o/\r o R/\∀H' b,R b->Same H H'->Q b H'
def QO(X:Cx)(e:Option Expr)(r:RO):Prop:=PO X e (tQO X.K r)
def amb:RO:=λ_ q=>q none
def agC(a:RE):RO:=λo q=>a o λx=>match frz x with|.int i=>q (some i)|_=>False
theorem PO.imp{X:Cx}{e:Option Expr}{t t':TO}(h:PO X e t)(i:∀σ H Q,t' σ H Q->t σ H Q):PO X e t':=λaa s σ H Q I q=>h aa s σ H Q I (i σ H Q q)
theorem Gj:QO X none amb:=adh.imp λσ H Q hP=>by obtain⟨own,o,R,h,hr,k⟩:=hP;exact k H _ hr (.refl _)
theorem gZ(h:QE X e re):QO X (some e) (agC re):=(ac9 h).imp λσ H Q ⟨own,o,R,h,hr,k⟩=>tQ.mk h hr λH1 v x q E1 r1=>by
 revert r1 q
 generalize frz x=t;intro q r1;cases r1<;>try exact q.elim
 exact⟨_,rfl,k _ _ q E1⟩
noncomputable def gJ{α:Type}(xs:List α)(lo hi:Option Int):List α:=(xs.drop (HT.sIx xs.length 0 lo)).take (HT.sIx xs.length xs.length hi-HT.sIx xs.length 0 lo)
theorem bZ.cut{K:Frag}{F:Hp}{xs:Ζ}{ts:List T}(h:bZ K F xs ts)(lo hi:Option Int):bZ K F (Xf xs lo hi) (gJ ts lo hi):=by
 unfold Xf gJ;rw[h.len];exact(h.drop _).take _
def gSl:T->Option Int->Option Int->(OT->Prop)->Prop
 |.lst ts,lo,hi,q=>q (.l1 (gJ ts lo hi))
 |.scr ts,lo,hi,q=>q (.l1 (gJ ts lo hi))
 |.str s,lo,hi,q=>s.length<=sizeLine/\q (.fz (.str (Fl s lo hi)))
 |_,_,_,_=>False
def rSl(a:RE)(lo hi:RO):RE:=λo q=>a o λx=>lo o λl=>hi o λu=>gSl (frz x) l u q
theorem j4{rl rh:RO}(he:QE X e re)(hl:QO X lo rl)(hu:QO X hi rh):QE X (.Subscript e (.Slice lo hi none p2) pos) (rSl re rl rh):=(Zu (ade.or aeT) he hl hu).imp λσ H Q ⟨own,o,R,h,hr,k⟩ =>
 tQ.mk h hr λH1 v x q E1 r1=>⟨own,o,_,h.same E1,q,λH2 l q E2=>⟨own,o,_,(h.same E1).same E2,q,λH3 u q E3=>by
  have E:=E1.trans (E2.trans E3);have r1:=r1.same (bU (E2.trans E3))
  revert r1 q
  generalize frz x=t;intro q r1;cases t<;>try exact q.elim
  .cases r1;exact .inr ⟨_,rfl,q.1,k _ _ _ q.2 E (NR.fz (.str _))⟩
  .obtain⟨p,xs,rfl,e,r⟩:=r1.lstI;exact .inl ⟨p,xs,rfl,.of (cU e).2,λa ha=>k _ _ _ q (E.trans (Same.upd ha)) ((zU (r.cut l u) (Same.upd ha) ha cM).back E)⟩
  .obtain⟨p,xs,rfl,e,r⟩:=r1.scrI;exact .inl ⟨p,xs,rfl,dU.seq e,λa ha=>k _ _ _ q (E.trans (Same.upd ha)) ((zU (r.cut l u) (Same.upd ha) ha cM).back E)⟩⟩⟩
end
section
variable{X:Cx}{e:Expr}{es:List Expr}{r:RA}{pos:Pos}
def agz(r:RA):RE:=λo q=>r o λts=>q (.fz (.tup ts))
def ai5(r:RA):RE:=λo q=>r o λts=>q (.l1 ts)
theorem cW{k:Nat}(h:QA X es r)(hz:es.length<=sizeLine:=by decide):QE X (.Tuple es k pos) (agz r):=(afr h).imp λσ H Q ⟨own,o,R,h,hr,k⟩=>tQA.mk h hr λH1 vs ts q ln E1 r1 =>
 ⟨by rw[r1.len,ln];exact hz,λp hp=>k _ _ _ q (E1.trans (Same.upd hp)) (NR.fz (.tup (.of (by rw[cR λz=>(h.sole z).ne (E1.free hp)];exact cM)) (r1.same (bU (Same.upd hp)))))⟩
theorem d7(h:QA X es r)(hz:es.length<=sizeLine:=by decide):QE X (.List es pos) (ai5 r):=(aeJ h).imp λσ H Q ⟨own,o,R,h,hr,k⟩=>tQA.mk h hr λH1 vs ts q ln E1 r1 =>
 ⟨by rw[r1.len,ln];exact hz,λp hp=>k _ _ _ q (E1.trans (Same.upd hp)) ((zU r1 (Same.upd hp) hp cM).back E1)⟩
def GC(X:Cx)(f:Value)(g:ST):Prop:=jt X f λxs H Q=>∃S ts R,(∀b,S b->H b≠none)/\bZ X.K (hd S H) xs ts/\g ts R/\∀H' v z,R z->Same H H'->NR X.K S H H' v z->Q v H'
variable{x:Str}{p:Pos}{id Ty:String}{g:ST}
theorem bV(hc:GC X (.builtin id) g)(hg:Gl X x)(hm:X.mg x=none)(hv:bootBuiltins x=some (.builtin id))(ha:QA X (e::es) r)(hn:x≠"__name__":=by decide)(cc:(x==("__debug__":Str))=false:=by decide)
 (he:starEach (e::es) X.env=(false,eval e X.env)::starEach es X.env:=by rfl)(bg:(backTo pos (starEach es X.env)).any (·.1)=false:=by rfl):QE X (.Call (.Name x p) (e::es) [] pos) (aaO g r) :=
 (Pu hc hg hm hv ha hn cc he bg).imp λσ H Q hP=>by obtain⟨own,o,R,h,hr,k⟩:=hP;exact tQA.mk h hr λH1 vs ts q _ E1 r1=>⟨Ow own,ts,R,λb z=>((h.same E1).sole z).ne,r1,q,λH' v z rz E n=>k H' v z rz (E1.trans E) (n.back E1)⟩
theorem xP(hc:GC X (.type Ty) g)(hg:Gl X x)(hm:X.mg x=none)(hv:bootBuiltins x=some (.type Ty))(ha:QA X (e::es) r)(hn:x≠"__name__":=by decide)(cc:(x==("__debug__":Str))=false:=by decide)
 (he:starEach (e::es) X.env=(false,eval e X.env)::starEach es X.env:=by rfl)(bg:(backTo pos (starEach es X.env)).any (·.1)=false:=by rfl):QE X (.Call (.Name x p) (e::es) [] pos) (aaO g r) :=
 (XR hc hg hm hv ha hn cc he bg).imp λσ H Q hP=>by obtain⟨own,o,R,h,hr,k⟩:=hP;exact tQA.mk h hr λH1 vs ts q _ E1 r1=>⟨Ow own,ts,R,λb z=>((h.same E1).sole z).ne,r1,q,λH' v z rz E n=>k H' v z rz (E1.trans E) (n.back E1)⟩
theorem bZ.one{K:Frag}{F:Hp}{xs:Ζ}{t:T}(h:bZ K F xs [t]):∃x,xs=[x]/\Rep K F x t:=by
 cases h with
 |cons a b=>cases b;exact⟨_,rfl,a⟩
theorem bZ.two{K:Frag}{F:Hp}{xs:Ζ}{t u:T}(h:bZ K F xs [t,u]):∃x y,xs=[x,y]/\Rep K F x t/\Rep K F y u:=by
 cases h with
 |cons a b =>
  obtain⟨y,rfl,c⟩:=b.one;exact⟨_,y,rfl,a,c⟩
def g1(g:T->(OT->Prop)->Prop):ST:=λts q=>match ts with|[t]=>g t q|_=>False
theorem GC.one{f:Value}{g:T->(OT->Prop)->Prop}{r:Ζ->Hp->VK->Prop}(h:jt X f r)(i:∀S t x H Q R,Rep X.K (hd S H) x t->g t R->(∀H' v z,R z->Same H H'->NR X.K S H H' v z->Q v H')->r [x] H Q):GC X f (g1 g):=h.imp λxs H Q hP=>by
 obtain⟨S,ts,R,_,rs,hg,k⟩:=hP
 match ts,hg with
 |[t],hg =>
  obtain⟨x,rfl,rx⟩:=rs.one;exact i S t x H Q R rx hg k
def alj:T->(OT->Prop)->Prop
 |.lst ts,q=>q (.fz (.int ts.length))
 |.tup ts,q=>q (.fz (.int ts.length))
 |.scr ts,q=>q (.fz (.int ts.length))
 |_,_=>False
theorem dh:GC X (.builtin "len") (g1 alj):=.one Ny λS t x H Q R rx hg k=>by
 cases t<;>try exact hg.elim
 .obtain⟨p,xs,rfl,e,r⟩:=rx.tupI;exact⟨p,xs,rfl,.inr (dU.tup e),k H _ _ hg (.refl _) (NR.fz (by rw[r.len];exact .int _))⟩
 .obtain⟨p,xs,rfl,e,r⟩:=rx.lstI;exact⟨p,xs,rfl,.inl (.of (cU e).2),k H _ _ hg (.refl _) (NR.fz (by rw[r.len];exact .int _))⟩
 .obtain⟨p,xs,rfl,e,r⟩:=rx.scrI;exact⟨p,xs,rfl,.inl (dU.seq e),k H _ _ hg (.refl _) (NR.fz (by rw[r.len];exact .int _))⟩
def ant:T->(OT->Prop)->Prop
 |.str s,q=>s.length<=sizeLine/\q (.fz (.int s.length))
 |_,_=>False
def anE:T->(OT->Prop)->Prop
 |.dct ks _,q=>q (.fz (.int ks.length))
 |_,_=>False
theorem Wv:jt X (.builtin "len") (λxs H Q=>∃p kvs,xs=[.ref p]/\Rd H p (.dK kvs)/\Q (.int kvs.length) H):=by
 intro aa s σ H xs us Q I r h;obtain⟨p,kvs,rfl,hp,q⟩:=h;obtain⟨u,rfl,rx⟩:=vals1 r;cases rx;have hok:kvs.length<=sizeLine/\(p==sysModules)=false/\∃vs,KV kvs vs/\s.heap.DictOf (iV X.prog X.w) p vs:=by
  rcases hp with hp|⟨o,hp⟩
  .exact I.hok p _ hp
  .exact(I.hok p _ hp).2
 obtain⟨hz,hS,vs,rr,m⟩:=hok;have hl:=wW;have aI:kvs.length=vs.length:=rr.length;exact call_len_dict hS m (by lia) ⟨.int kvs.length,H,I.tok _,⟨_,by rw[aI]⟩,q⟩
theorem Vq:GC X (.builtin "len") (g1 anE):=.one Wv λS t x H Q R rx hg k=>by
 cases t<;>try exact hg.elim
 obtain⟨p,xs,rfl,e,l,r⟩:=rx.dctI;exact⟨p,_,rfl,dU.rd e,k H _ _ hg (.refl _) (NR.fz (by rw[VX,l,UV];exact .int _))⟩
def anz:T->(OT->Prop)->Prop
 |.int i,q=>q (.fz (.int i.natAbs))
 |_,_=>False
theorem HS:GC X (.builtin "abs") (g1 anz):=.one aaY λS t x H Q R rx hg k=>by
 cases t<;>try exact hg.elim
 cases rx;exact⟨_,rfl,k H _ _ hg (.refl _) (NR.fz (by rw[aeN];exact .int _))⟩
theorem bZ.ints{K:Frag}{F:Hp} : ∀{xs:Ζ}{ns:List Int},bZ K F xs (ns.map T.int)->xs=ns.map V.int
 |_,[],.nil=>rfl
 |_,n::ns,.cons a b=>by cases a;rw[bZ.ints b];rfl
theorem bZ.bls{K:Frag}{F:Hp} : ∀{xs:Ζ}{ns:List Bool},bZ K F xs (ns.map T.bl)->xs=ns.map V.bl
 |_,[],.nil=>rfl
 |_,n::ns,.cons a b=>by cases a;rw[bZ.bls b];rfl
theorem Dd{K:Frag}{F:Hp} : ∀(ns:List Int),bZ K F (ns.map V.int) (ns.map T.int)
 |[]=>.nil
 |_::ns=>.cons (.int _) (Dd ns)
def amm:T->(OT->Prop)->Prop
 |.lst ts,q=>∃ns:List Int,ts=ns.map T.int/\q (.fz (.int ns.sum))
 |_,_=>False
theorem Ox(hc:X.calm=true):GC X (.builtin "sum") (g1 amm):=.one (Xu hc) λS t x H Q R rx hg k=>by
 cases t<;>try exact hg.elim
 obtain⟨p,xs,rfl,e,r⟩:=rx.lstI;obtain⟨ns,rfl,q⟩:=hg;exact⟨p,ns,rfl,(r.ints ▸ (cU e).2),k H _ _ q (.refl _) (NR.fz (.int _))⟩
def ama(f:List Bool->Bool):T->(OT->Prop)->Prop
 |.lst ts,q=>∃bs:List Bool,ts=bs.map T.bl/\q (.fz (.bl (f bs)))
 |_,_=>False
theorem agh(hc:X.calm=true):GC X (.builtin "all") (g1 (ama λbs=>bs.all λb=>b)):=.one (XC hc) λS t x H Q R rx hg k=>by
 cases t<;>try exact hg.elim
 obtain⟨p,xs,rfl,e,r⟩:=rx.lstI;obtain⟨ns,rfl,q⟩:=hg;exact⟨p,ns,rfl,(r.bls ▸ (cU e).2),k H _ _ q (.refl _) (NR.fz (.bl _))⟩
def amE:T->(OT->Prop)->Prop
 |.lst ts,q=>∃ns:List Int,ts=ns.map T.int/\ns.length<64/\∀ms:List Int,ms.Perm ns->ms.Pairwise (· <= ·)->q (.l1 (ms.map T.int))
 |_,_=>False
theorem WD:GC X (.builtin "sorted") (g1 amE):=.one W4 λS t x H Q R rx hg k=>by
 cases t<;>try exact hg.elim
 obtain⟨p,xs,rfl,e,r⟩:=rx.lstI;obtain⟨ns,rfl,l,q⟩:=hg;exact⟨p,ns,rfl,(r.ints ▸ (cU e).2),l,λms a ha m1 m2=>k _ _ _ (q ms m1 m2) (Same.upd ha) (zU (Dd ms) (Same.upd ha) ha cM)⟩
def agR:T->(OT->Prop)->Prop
 |.lst ts,q=>q (.l1 ts)
 |_,_=>False
theorem Lq:GC X (.type "list") (g1 agR):=.one UL λS t x H Q R rx hg k=>by
 cases t<;>try exact hg.elim
 obtain⟨p,xs,rfl,e,r⟩:=rx.lstI;exact⟨p,xs,rfl,(cU e).2,λa ha=>k _ _ _ hg (Same.upd ha) (zU r (Same.upd ha) ha cM)⟩
def amd:T->(OT->Prop)->Prop
 |.int i,q=>q (.fz (.int i))
 |.bl b,q=>q (.fz (.int (if b then 1 else 0)))
 |_,_=>False
theorem af9:GC X (.type "int") (g1 amd):=.one WM λS t x H Q R rx hg k=>by
 cases t<;>try exact hg.elim
 .cases rx;exact .inr ⟨_,rfl,k H _ _ hg (.refl _) (NR.fz (.int _))⟩
 .cases rx;exact .inl ⟨_,rfl,k H _ _ hg (.refl _) (NR.fz (.int _))⟩
inductive Knd where
 |int|bool|str|list|tuple
noncomputable def Knd.s:Knd->String
 |.int=>"int"
 |.bool=>"bool"
 |.str=>"str"
 |.list=>"list"
 |.tuple=>"tuple"
noncomputable def isK:Knd->T->Option Bool
 |.int,.int _=>some true
 |.int,.bl _=>some true
 |.bool,.bl _=>some true
 |.str,.str _=>some true
 |.list,.lst _=>some true
 |.tuple,.tup _=>some true
 |_,.any=>none
 |_,.val _=>none
 |_,.scr _=>none
 |_,.ins _ _ _=>none
 |_,.dct _ _=>none
 |_,_=>some false
theorem aeI(kd:Knd):GC X (.builtin "isinstance") (λts q=>match ts with|[t,.val v]=>v=.ty kd.s/\oT (isK kd t) λb=>q (.fz (.bl b))|_=>False):=by
 intro aa s σ H xs us Q I rs h;obtain⟨S,ts,R,_,rp,hg,k⟩:=h
 match ts,hg with
 |[t,.val v],hg =>
  obtain⟨x,y,rfl,rx,ry⟩:=rp.two;cases ry;obtain⟨rfl,hg⟩:=hg;obtain⟨b,j,q⟩:=adX hg;have hk:kd.s∈["bool","int","str","list","tuple","dict"]:=by cases kd<;>decide
  cases t with
  |tup ts =>
   obtain⟨p,ys,rfl,e,r⟩:=rx.tupI;have eb:b=KZ "tuple" kd.s:=by cases kd<;>cases j<;>decide
   exact Qu aa s σ H _ us Q I rs ⟨p,kd.s,ys,rfl,hk,dU.tup e,k H _ _ q (.refl _) (NR.fz (eb ▸ .bl _))⟩
  |lst ts =>
   obtain⟨p,ys,rfl,e,r⟩:=rx.lstI;have eb:b=KZ "list" kd.s:=by cases kd<;>cases j<;>decide
   exact wV aa s σ H _ us Q I rs ⟨_,kd.s,"list",rfl,hk,by show(match H p with|some (.lst _)=>some "list" |some (.tup _)=>some "tuple" |some (.dK _)=>some "dict" |_=>none)=_;rw[(cU e).2],k H _ _ q (.refl _) (NR.fz (eb ▸ .bl _))⟩
  |non =>
   cases rx;have eb:b=KZ "NoneType" kd.s:=by cases kd<;>cases j<;>decide
   exact wV aa s σ H _ us Q I rs ⟨_,kd.s,"NoneType",rfl,hk,rfl,k H _ _ q (.refl _) (NR.fz (eb ▸ .bl _))⟩
  |bl c =>
   cases rx;have eb:b=KZ "bool" kd.s:=by cases kd<;>cases j<;>decide
   exact wV aa s σ H _ us Q I rs ⟨_,kd.s,"bool",rfl,hk,rfl,k H _ _ q (.refl _) (NR.fz (eb ▸ .bl _))⟩
  |int i =>
   cases rx;have eb:b=KZ "int" kd.s:=by cases kd<;>cases j<;>decide
   exact wV aa s σ H _ us Q I rs ⟨_,kd.s,"int",rfl,hk,rfl,k H _ _ q (.refl _) (NR.fz (eb ▸ .bl _))⟩
  |str c =>
   cases rx;have eb:b=KZ "str" kd.s:=by cases kd<;>cases j<;>decide
   exact wV aa s σ H _ us Q I rs ⟨_,kd.s,"str",rfl,hk,rfl,k H _ _ q (.refl _) (NR.fz (eb ▸ .bl _))⟩
  |_=>cases kd<;>cases j
def alN(kd:Knd)(a:RE):RE:=λo q=>a o λx=>oT (isK kd (frz x)) λb=>q (.fz (.bl b))
theorem Ji(kd:Knd){a:Expr}{ra:RE}{y:Str}{p2:Pos}(ha:QE X a ra)(hg:Gl X "isinstance")(hm:X.mg "isinstance"=none)(hg2:Gl X y)(j2:X.mg y=none)(kL:bootBuiltins y=some (.type kd.s))(hJ:y≠"__name__":=by decide)(lh:(y==("__debug__":Str))=false:=by decide)
 (he:starEach (a::[.Name y p2]) X.env=(false,eval a X.env)::starEach [.Name y p2] X.env:=by rfl):QE X (.Call (.Name "isinstance" p) [a,.Name y p2] [] pos) (alN kd ra) :=
 (Pu (aeI kd) hg hm boot_isinstance (oF ha (oF (abJ (v:=.ty kd.s) hg2 j2 kL rfl hJ lh) La) he) (by decide) (by decide) he).imp λσ H Q ⟨own,o,R,h,hr,k⟩=>tQ.mk h hr λH1 v x q E1 r1 =>
  ⟨Ow own,[frz x,.val (.ty kd.s)],R,λb z=>((h.same E1).sole z).ne,.cons r1 (.cons (.val _) .nil),⟨rfl,q⟩,λH' v z rz E n=>k H' v z rz (E1.trans E) (n.back E1)⟩
end
structure DT where
 nx:List OT->Prop
 rt:OT->Prop
 bk:List OT->Prop:=λ_=>False
 ct:List OT->Prop:=λ_=>False
abbrev RS:=DT->List OT->Prop
structure Lnk(K:Frag)(F:Hp)(E:DT)(D:Ends):Prop where
 nx:∀own H σ o,E.nx o->Same F (hd (Ow own) H)->SR K own H σ o->D.nx σ H
 rt:∀S H v x B,E.rt x->Same F (hd S H)->Slo K (hd S H) H (some v) B x->(∀a∈B,S a)->D.rt v H
 bk:∀own H σ o,E.bk o->Same F (hd (Ow own) H)->SR K own H σ o->D.bk σ H
 ct:∀own H σ o,E.ct o->Same F (hd (Ow own) H)->SR K own H σ o->D.ct σ H
theorem Lnk.step{K:Frag}{F F':Hp}{E:DT}{D:Ends}(h:Lnk K F E D)(S:Same F F'):Lnk K F' E D :=
 ⟨λown H σ o e s=>h.nx own H σ o e (S.trans s),λT H v x B e s=>h.rt T H v x B e (S.trans s),λown H σ o e s=>h.bk own H σ o e (S.trans s),λown H σ o e s=>h.ct own H σ o e (S.trans s)⟩
def tQS(K:Frag)(r:RS):TS:=λD σ H=>∃own o E,SR K own H σ o/\r E o/\Lnk K (hd (Ow own) H) E D
def QS(X:Cx)(st:Stmt)(r:RS):Prop:=PS X st (tQS X.K r)
def QSs(X:Cx)(st:List Stmt)(r:RS):Prop:=PSs X st (tQS X.K r)
theorem PS.imp{X:Cx}{st:Stmt}{t t':TS}(h:PS X st t)(i:∀D σ H,t' D σ H->t D σ H):PS X st t':=λaa s σ H D I q=>h aa s σ H D I (i D σ H q)
theorem PSs.imp{X:Cx}{st:List Stmt}{t t':TS}(h:PSs X st t)(i:∀D σ H,t' D σ H->t D σ H):PSs X st t':=λaa s σ H D I q=>h aa s σ H D I (i D σ H q)
def aiw:RS:=λE o=>E.nx o
def jf(a b:RS):RS:=λE o=>a { E with nx:=b E } o
def ak5(i:Nat)(a:RE):RS:=λE o=>a o λx=>E.nx (o.set i (.fz (frz x)))
def aeG(i:Nat)(a:RE):RS:=λE o=>a o λx=>E.nx (o.set i x)
def akm(a:RE):RS:=λE o=>a o λ_=>E.nx o
def anb(a:RE):RS:=λE o=>a o E.rt
def adU(i:Nat):RS:=λE o=>match slot o i with|.und=>False|x=>E.rt x
def akD(c:RT)(a b:RS):RS:=λE o=>c o λk=>sw k (a E o) (b E o)
def aeF:RS:=λ_ _=>False
def akh(i:Nat)(a:RS):RS:=λE o=>match slot o i with|.und=>False|x=>a E (o.set i (.fz (frz x)))
section
variable{K:Frag}{own:Nat->Ψ}{H H':Hp}{σ:L2.St}{o:List OT}
theorem SR.putA(h:SR K own H σ o)(E:Same H H'){v:V}{x:OT}(n:NR K (Ow own) H H' v x)(i:Nat):∃ah,SR K ah H' (σ.set i (some v)) (o.set i x)/\Same (hd (Ow own) H) (hd (Ow ah) H'):=by
 by_cases hi:i<o.length
 .exact h.put E n hi
 .rw[Zyt (Nat.not_lt.mp hi),Zyt (h.len ▸ Nat.not_lt.mp hi)];exact⟨own,h.same E,bU E⟩
theorem NR.frz{S:Addr->Prop}{v:V}{x:OT}(n:NR K S H H' v x)(hs:∀b,S b->H b≠none):NR K S H H' v (.fz (L2.frz x)):=NR.fz (n.rep hs)
theorem Slo.val{F:Hp}{v:Option V}{A:Ψ}{x:OT}(h:Slo K F H v A x)(n:x≠.und):∃u,v=some u:=by
 cases x with
 |und=>exact absurd rfl n
 |fz t=>exact⟨_,h.2.choose_spec.1⟩
 |l1 ts=>obtain⟨a,xs,e,_⟩:=h;exact⟨_,e⟩
 |l2 ts=>obtain⟨a,xs,e,_⟩:=h;exact⟨_,e⟩
 |d1 ks ts=>obtain⟨a,xs,e,_⟩:=h;exact⟨_,e⟩
 |ob a d C ks ts=>obtain⟨xs,e,_⟩:=h;exact⟨_,e⟩
 |la a ts=>obtain⟨xs,e,_⟩:=h;exact⟨_,e⟩
theorem SR.val(h:SR K own H σ o){i:Nat}{x:OT}(e:slot o i=x)(n:x≠.und):∃u,σ[i]?=some (some u)/\Slo K (hd (Ow own) H) H (some u) (own i) x:=by
 have s:=h.sl i x (gw e n);obtain⟨u,hu⟩:=s.val n;rw[hu]at s;refine⟨u,?_,s⟩;cases z:σ[i]? with
 |none=>rw[z]at hu;cases hu
 |some w=>rw[z]at hu;exact ZH some hu
end
section
variable{X:Cx}{st:Stmt}{sts:List Stmt}{a b:RS}{e:Expr}{re:RE}{pos:Pos}
theorem bT:QSs X [] aiw:=abE.imp λD σ H hP=>by obtain⟨own,o,E,h,hr,L⟩:=hP;exact L.nx own H σ o hr (.refl _) h
theorem amY{D:Ends}{σ:L2.St}{H:Hp}(h:tQS X.K (jf a b) D σ H):agF (tQS X.K a) (tQS X.K b) D σ H:=by
 obtain⟨own,o,E,h,hr,L⟩:=h;exact⟨own,o,_,h,hr,λah H' σ' o' q S h'=>⟨ah,o',E,h',q,L.step S⟩,L.rt,L.bk,L.ct⟩
theorem bC(h1:QS X st a)(h2:QSs X sts b):QSs X (st::sts) (jf a b):=(aaj h1 h2).imp λ_ _ _=>amY
theorem bG(h:QS X st a):QSs X [st] a:=abl h
theorem bM(i:Nat){x:Str}{bo:Pos}(hN:X.N.Nodup)(hx:Loc X.env.scope x)(he:QE X e re)(hi:X.N[i]?=some x:=by rfl)(hs:swapsWith e (some (.Name x bo)) pos.line X.env=pure false:=by rfl)(hf:X.fn x=true\/X.env.scope.names.lookup x=some .local:=by first|exact .inl rfl|exact .inr rfl|assumption) :
  QS X (.Assign [.Name x bo] e pos) (ak5 i re):=(aaW hN hi hx he hs hf).imp λD σ H ⟨own,o,E,h,hr,L⟩=>⟨own,o,_,h,hr,λH' v y q S n=>by
 obtain⟨ah,h',S'⟩:=h.putA S (n.frz λb z=>(h.sole z).ne) i;exact L.nx ah H' _ _ q S' h'⟩
theorem iu(i:Nat){x:Str}{bo:Pos}(hN:X.N.Nodup)(hx:Loc X.env.scope x)(he:QE X e re)(hi:X.N[i]?=some x:=by rfl)(hs:swapsWith e (some (.Name x bo)) pos.line X.env=pure false:=by rfl)(hf:X.fn x=true\/X.env.scope.names.lookup x=some .local:=by first|exact .inl rfl|exact .inr rfl|assumption) :
  QS X (.Assign [.Name x bo] e pos) (aeG i re):=(aaW hN hi hx he hs hf).imp λD σ H ⟨own,o,E,h,hr,L⟩=>⟨own,o,_,h,hr,λH' v y q S n=>by
 obtain⟨ah,h',S'⟩:=h.putA S n i;exact L.nx ah H' _ _ q S' h'⟩
theorem jH(he:QE X e re)(hs:swapsWith e none pos.line X.env=pure false:=by rfl):QS X (.Expr e pos) (akm re):=(xO he hs).imp λD σ H hP=>by obtain⟨own,o,E,h,hr,L⟩:=hP;exact⟨own,o,_,h,hr,λH' v y q S n=>L.nx own H' σ o q (bU S) (h.same S)⟩
theorem bQ(he:QE X e re):QS X (.Return (some e) pos) (anb re):=(S_ he).imp λD σ H ⟨own,o,E,h,hr,L⟩=>⟨own,o,_,h,hr,λH' v y q S n=>by
 obtain⟨B,nb,s⟩:=n;exact L.rt _ H' v y B q (h_ (λb z=>z.imp id (nb b)) S) s λa ha=>.inr ha⟩
theorem jJ(i:Nat){x:Str}{p:Pos}(hN:X.N[i]?=some x:=by rfl)(hv:rO X.env.scope x=true:=by rfl)(hd:(x==("__debug__":Str))=false:=by decide)(be:(x==("__classdict__":Str))=false:=by decide):QS X (.Return (some (.Name x p)) pos) (adU i):=(S_ (pv i hN hv hd be)).imp λD σ H hP=>by
 obtain⟨own,o,E,h,hr,L⟩:=hP;have hr:E.rt (slot o i)/\slot o i≠.und:=by
  unfold adU at hr;cases e:slot o i<;>rw[e]at hr<;>first|exact hr.elim|exact⟨hr,λz=>by cases z⟩
 obtain⟨u,e,s⟩:=h.val rfl hr.2;exact⟨u,e,L.rt (Ow own) H u _ _ hr.1 (.refl _) s λa ha=>⟨i,ha⟩⟩
theorem cG{c:Expr}{ss ts:List Stmt}{qc:RT}(hc:QT X c qc)(ha:QSs X ss a)(hb:QSs X ts b):QS X (.If c ss ts pos) (akD qc a b):=(ai7 hc ha hb).imp λD σ H ⟨own,o,E,h,hr,L⟩=>tQT.mk h hr λH1 c q E1 =>
 Jo q (λq=>⟨own,o,E,h.same E1,q,L.step (bU E1)⟩) λq=>⟨own,o,E,h.same E1,q,L.step (bU E1)⟩
theorem fQ:QS X st aeF:=aaw.imp λD σ H hP=>by obtain⟨own,o,E,h,hr,L⟩:=hP;exact hr
theorem Hs(i:Nat)(hs:QS X st a):QS X st (akh i a):=PS.imp hs λD σ H hP=>by
 obtain⟨own,o,E,h,hr,L⟩:=hP;have hr:a E (o.set i (.fz (frz (slot o i))))/\slot o i≠.und:=by
  unfold akh at hr;cases e:slot o i<;>rw[e]at hr<;>first|exact hr.elim|exact⟨hr,λz=>by cases z⟩
 obtain⟨u,e1,s⟩:=h.val rfl hr.2;obtain⟨ah,h',S⟩:=h.frz (gw rfl hr.2) e1;exact⟨ah,_,E,h',hr.1,L.step S⟩
theorem Dg{S:Addr->Prop}{H:Hp}{D:Addr}{u:HO}(h:S D):hd S (upd H D u)=hd S H:=funext λb=>by
 by_cases z:S b
 .rw[pP z,pP z]
 .rw[cR z,cR z,cF λ(e:b=D)=>z (e.symm ▸ h)]
noncomputable def asL:OT->Option (List T×(List T->OT))
 |.l1 ts=>some (ts,.l1)
 |.la a ts=>some (ts,.la a)
 |_=>none
def onL(x:OT)(k:List T->(List T->OT)->Prop):Prop:=match asL x with|some (ts,c)=>k ts c|none=>False
theorem DG{x:OT}{k:List T->(List T->OT)->Prop}(h:onL x k):∃ts c,k ts c/\((x=.l1 ts/\c=.l1)\/∃a,x=.la a ts/\c=.la a):=by
 cases x with
 |l1 ts=>exact⟨ts,_,h,.inl ⟨rfl,rfl⟩⟩
 |la a ts=>exact⟨ts,_,h,.inr ⟨a,rfl,rfl⟩⟩
 |_=>exact h.elim
def alh(i:Nat)(a:RE):RS:=λE o=>onL (slot o i) λts c=>a o λy=>ts.length<sizeLine/\E.nx (o.set i (c (ts++[frz y])))
theorem SR.l1{K:Frag}{own:Nat->Ψ}{H:Hp}{σ:L2.St}{o:List OT}(h:SR K own H σ o){i:Nat}{ts:List T}{c:List T->OT}(e:(slot o i=.l1 ts/\c=.l1)\/∃a,slot o i=.la a ts/\c=.la a):∃l xs,σ[i]?=some (some (.ref l))/\own i=[l]/\H l=some (.lst xs)/\bZ K (hd (Ow own) H) xs ts/\∀(H':Hp)(ys:Ζ)us,H' l=some (.lst ys)->bZ K (hd (Ow own) H') ys us->Slo K (hd (Ow own) H') H' (some (.ref l)) [l] (c us):=by
 rcases e with⟨e,rfl⟩|⟨a,e,rfl⟩
 .obtain⟨u,e1,l,xs,e2,e3,e4,r⟩:=h.val e (by intro z;cases z);cases e2;exact⟨l,xs,e1,e3,e4,r,λH' ys us a b=>⟨l,ys,rfl,rfl,a,b⟩⟩
 .obtain⟨u,e1,xs,e2,e3,e4,r⟩:=h.val e (by intro z;cases z);cases e2;exact⟨a,xs,e1,e3,e4,r,λH' ys us a b=>⟨ys,rfl,rfl,a,b⟩⟩
theorem Ig{o:List OT}{i:Nat}{ts:List T}{c:List T->OT}(e:(slot o i=.l1 ts/\c=.l1)\/∃a,slot o i=.la a ts/\c=.la a):∃x,o[i]?=some x:=by
 rcases e with⟨e,_⟩|⟨a,e,_⟩
 .exact⟨_,gw e (by intro z;cases z)⟩
 .exact⟨_,gw e (by intro z;cases z)⟩
theorem SR.chg1{K:Frag}{own:Nat->Ψ}{H:Hp}{σ:L2.St}{o:List OT}(h:SR K own H σ o){i:Nat}{us:List T}{c:List T->OT}(e:∃x,o[i]?=some x){l:Addr}{ys:Ζ}(eσ:σ[i]?=some (some (.ref l)))(eo:own i=[l])(sl:∀(H':Hp)(ys:Ζ)us,H' l=some (.lst ys)->bZ K (hd (Ow own) H') ys us->Slo K (hd (Ow own) H') H' (some (.ref l)) [l] (c us))(r:bZ K (hd (Ow own) H) ys us):SR K own (upd H l (.lst ys)) σ (o.set i (c us))/\Same (hd (Ow own) H) (hd (Ow own) (upd H l (.lst ys))):=by
 obtain⟨x,e⟩:=e;refine h.chg e (λb u hb e=>(cF λz=>hb (by rw[eo,z];simp)).trans e) ?_;rw[eσ,eo];exact sl _ ys us cM (by rw[Dg ⟨i,by rw[eo];simp⟩];exact r)
theorem nG(i:Nat){x:Str}{am af p:Pos}(he:QE X e re)(hN:X.N[i]?=some x:=by rfl)(hv:rO X.env.scope x=true:=by rfl)(bu:(x==("__debug__":Str))=false:=by decide)(be:(x==("__classdict__":Str))=false:=by decide)
 (hb:attributeBase (.Name x p) "append" X.env (eval (.Name x p) X.env)=eval (.Name x p) X.env:=by rfl)
 (hf:((backTo af (starEach [e] X.env)).all (λx=>!x.1)&&(backToKw af (keywordEach [] X.env)).all (λx=>x.1.isSome)&&decide ([e].length+([] : List Keyword).length+(if([] : List Keyword).isEmpty then 0 else 1)<30))=true:=by rfl)
 (hl:(am.endLine==af.line)=true:=by rfl)(b8:starEach [e] X.env=(false,eval e X.env)::starEach [] X.env:=by rfl)(hp:(backTo af (starEach [] X.env)).any (·.1)=false:=by rfl)
 (hs:swapsWith (.Call (.Attribute (.Name x p) "append" am) [e] [] af) none pos.line X.env=pure false:=by rfl) :
  QS X (.Expr (.Call (.Attribute (.Name x p) "append" am) [e] [] af) pos) (alh i re):=(xO (aak (pv i hN hv bu be) (oF he La b8) hb hf hl b8 hp) hs).imp λD σ H hP=>by
 obtain⟨own,o,E,h,hr,L⟩:=hP;obtain⟨ts,c,hr,es⟩:=DG hr;obtain⟨l,xs,e1,e2,e3,r,sl⟩:=h.l1 es;refine⟨_,e1,l,xs,rfl,e3,tQ.mk h hr λH1 v y q E1 r1=>⟨v,xs,rfl,E1 _ _ e3,by rw[r.len];exact q.1,?_⟩⟩;obtain⟨h',S⟩:=(h.same E1).chg1 (Ig es) e1 e2 sl ((r.same (bU E1)).app (.cons r1 .nil));exact L.nx own _ σ _ q.2 ((bU E1).trans S) h'
def alY(i:Nat)(a b:RE):RS:=λE o=>onL (slot o i) λts c=>a o λy=>b o λk=>(match frz k with|.int j=>∃n,ixN ts.length j=some n/\E.nx (o.set i (c (ts.set n (frz y))))|_=>False)
theorem Dm(i:Nat){x:Str}{k:Expr}{rk:RE}{ay p:Pos}(he:QE X e re)(hk:QE X k rk)(hN:X.N[i]?=some x:=by rfl)(hv:rO X.env.scope x=true:=by rfl)(bu:(x==("__debug__":Str))=false:=by decide)(be:(x==("__classdict__":Str))=false:=by decide)
 (ha:∀v,assign (.Subscript (.Name x p) k ay) X.env v=(do
   let ov <- holding [v] (eval (.Name x p) X.env)
   let iv <- holding [v,ov] (eval k X.env)
   standAt ay
   holding [v,ov,iv] (setItem ov iv v)
   release [v,ov,iv] []):=by intro _;rfl)
 (hs:swapsWithSole [.Subscript (.Name x p) k ay] e pos.line X.env=pure false:=by rfl)(hw:swappedStores [.Subscript (.Name x p) k ay] e X.env=pure none:=by rfl)
 (h1:(assignEach [.Subscript (.Name x p) k ay] X.env).map (·.2)=[assign (.Subscript (.Name x p) k ay) X.env]:=by rfl):QS X (.Assign [.Subscript (.Name x p) k ay] e pos) (alY i re rk):=(S6 he (Yy (pv i hN hv bu be) hk set_list ha) hs hw h1).imp λD σ H hP=>by
 obtain⟨own,o,E,h,hr,L⟩:=hP;obtain⟨ts,c,hr,es⟩:=DG hr;obtain⟨l,xs,e1,e2,e3,r,sl⟩:=h.l1 es;refine tQ.mk h hr λH1 v y q E1 r1=>⟨_,e1,tQ.mk (h.same E1) q λH2 w z q E2 r2=>?_⟩;have r1:=r1.same (bU E2)
 revert r2 q
 generalize frz z=t;intro q r2;cases t<;>try exact q.elim
 cases r2;obtain⟨n,en,q⟩:=q;have bP:=E1.trans E2;refine⟨l,xs,_,n,rfl,rfl,bP _ _ e3,by rw[r.len];exact en,?_⟩;obtain⟨h',S⟩:=(h.same bP).chg1 (Ig es) e1 e2 sl (bZ.set r1 n (r.same (bU bP)));exact L.nx own _ σ _ q ((bU bP).trans S) h'
def anr(i:Nat)(b:RE):RE:=λo q=>onL (slot o i) λts _=>b o λy=>(match frz y with|.int j=>∃t,ixT ts j=some t/\q (.fz t)|_=>False)
theorem uJ(i:Nat){x:Str}{p:Pos}{b:Expr}{rb:RE}(hb:QE X b rb)(hN:X.N[i]?=some x:=by rfl)(hv:rO X.env.scope x=true:=by rfl)(bu:(x==("__debug__":Str))=false:=by decide)
 (be:(x==("__classdict__":Str))=false:=by decide)(hs:ug b:=by exact λ_ _=>rfl):QE X (.Subscript (.Name x p) b pos) (anr i rb):=(KD yj (pv i hN hv bu be) hb hs).imp λσ H Q hP=>by
 obtain⟨own,o,R,h,hr,k⟩:=hP;obtain⟨ts,c,hr,es⟩:=DG hr;obtain⟨a,xs,e1,e2,e3,r,sl⟩:=h.l1 es;refine⟨_,e1,tQ.mk h hr λH1 v y q E1 r1=>?_⟩
 revert r1 q
 generalize frz y=t;intro q r1;cases t<;>try exact q.elim
 cases r1;obtain⟨t,j,q⟩:=q;obtain⟨v,e',r'⟩:=r.ix j;exact⟨a,xs,_,v,rfl,rfl,.of (E1 _ _ e3),e',k H1 _ _ q E1 (NR.fz (r'.same (bU E1)))⟩
def adO(i:Nat)(f:Int->Int->Int)(a:RE):RS:=λE o=>match slot o i with|.fz (.int k)=>a o λy=>(match frz y with|.int j=>E.nx (o.set i (.fz (.int (f k j))))|_=>False)|_=>False
theorem Z4(i:Nat){x:Str}{op:Operator}{f:Int->Int->Int}{bo:Pos}(hN:X.N.Nodup)(hx:Loc X.env.scope x)(ho:PIp X op (ipI f))(he:QE X e re)(hi:X.N[i]?=some x:=by rfl)(hf:X.fn x=true\/X.env.scope.names.lookup x=some .local:=by first|exact .inl rfl|exact .inr rfl|assumption):QS X (.AugAssign (.Name x bo) op e pos) (adO i f re):=(aaS hN hi hx he ho hf).imp λD σ H hP=>by
 obtain⟨own,o,E,h,hr,L⟩:=hP;unfold adO at hr;cases es:slot o i with
 |fz t =>
  rw[es]at hr;cases t<;>try exact hr.elim
  obtain⟨u,e1,r⟩:=h.get (gw es (by intro z;cases z));cases r;refine⟨_,e1,tQ.mk h hr λH1 v y q E1 r1=>?_⟩
  revert r1 q
  generalize frz y=t;intro q r1;cases t<;>try exact q.elim
  cases r1;refine⟨_,_,rfl,rfl,?_⟩;obtain⟨ah,h',S⟩:=(h.same E1).putA (.refl _) (NR.fz (.int _)) i;exact L.nx ah _ _ _ q ((bU E1).trans S) h'
 |_=>rw[es]at hr;exact hr.elim
def DQ(n:Nat)(own ah:Nat->Ψ)(σ σ':L2.St):Prop:=(∀j,ah j=own j\/(j<n/\ah j=[]))/\σ'.length=σ.length/\∀j,n<=j->σ'[j]?=σ[j]?
theorem DQ.refl{n:Nat}{own:Nat->Ψ}{σ:L2.St} : DQ n own own σ σ:=⟨λ_=>.inl rfl,rfl,λ_ _=>rfl⟩
theorem DQ.trans{n:Nat}{own own1 bS:Nat->Ψ}{σ σ1 σ2:L2.St}(a:DQ n own own1 σ σ1)(b:DQ n own1 bS σ1 σ2):DQ n own bS σ σ2 :=
 ⟨λj=>(b.1 j).elim (λe=>(a.1 j).imp (λz=>e.trans z) λz=>⟨z.1,e.trans z.2⟩) .inr,b.2.1.trans a.2.1,λj hj=>(b.2.2 j hj).trans (a.2.2 j hj)⟩
theorem DQ.same{n:Nat}{own ah:Nat->Ψ}{σ σ':L2.St}(a:DQ n own ah σ σ'){H:Hp} : Same (hd (Ow own) H) (hd (Ow ah) H):=h_ (λb hP=>by obtain⟨j,z⟩:=hP;exact .inl ⟨j,(a.1 j).elim (λe=>e ▸ z) λe=>by rw[e.2]at z;cases z⟩) λ_ _ z=>z
def tQG(K:Frag)(n:Nat)(g:T->List OT->(List OT->Prop)->Prop):TG:=λv σ H Q=>∃own o t R,SR K own H σ o/\Rep K (hd (Ow own) H) v t/\g t o R/\∀ah σ' o',R o'->DQ n own ah σ σ'->SR K ah H σ' o'->Q σ' H
def QG(X:Cx)(n:Nat)(tg:Expr)(g:T->List OT->(List OT->Prop)->Prop):Prop:=PG X tg (tQG X.K n g)
def QGs(X:Cx)(n:Nat)(tg:List Expr)(g:List T->List OT->(List OT->Prop)->Prop):Prop:=PGs X tg λv σ H Q=>∃own o t R,SR X.K own H σ o/\bZ X.K (hd (Ow own) H) v t/\g t o R/\∀ah σ' o',R o'->DQ n own ah σ σ'->SR X.K ah H σ' o'->Q σ' H
theorem PGs.imp{tg:List Expr}{t t':TGs}(h:PGs X tg t)(i:∀v σ H Q,t' v σ H Q->t v σ H Q):PGs X tg t':=λaa s σ H v u Q I r q=>h aa s σ H v u Q I r (i _ _ _ _ q)
def hName(i:Nat):T->List OT->(List OT->Prop)->Prop:=λt o q=>q (o.set i (.fz t))
def ank:List T->List OT->(List OT->Prop)->Prop:=λts o q=>match ts with|[]=>q o|_=>False
def akf(g:T->List OT->(List OT->Prop)->Prop)(gs:List T->List OT->(List OT->Prop)->Prop):List T->List OT->(List OT->Prop)->Prop:=λts o q=>match ts with|t::ts=>g t o λo'=>gs ts o' q|_=>False
def ams(n:Nat)(gs:List T->List OT->(List OT->Prop)->Prop):T->List OT->(List OT->Prop)->Prop:=λt o q=>match t with|.tup ts=>ts.length=n/\gs ts o q|_=>False
theorem SR.setF{K:Frag}{own:Nat->Ψ}{H:Hp}{σ:L2.St}{o:List OT}(h:SR K own H σ o){v:V}{t:T}(r:Rep K (hd (Ow own) H) v t){n i:Nat}(hi:i<n):∃ah,SR K ah H (σ.set i (some v)) (o.set i (.fz t))/\DQ n own ah σ (σ.set i (some v)):=by
 have le:Same (hd (Ow own) H) (hd (Ow (own1 own i [])) H):=h_ (λb z=>.inl (z.of1.elim id λy=>(nomatch y))) λ_ _ z=>z;have go:DQ n own (own1 own i []) σ (σ.set i (some v)):=⟨λj=>by
  by_cases z:j=i
  .exact .inr ⟨z ▸ hi,by rw[z,jh]⟩
  .exact .inl (fB z),VS,λj hj=>UP (by lia)⟩
 by_cases hl:i<o.length
 .refine⟨own1 own i [],⟨by rw[VS,VS,h.len],λj y e=>?_,λj hj a ha=>?_,λj k a e1 e2=>?_⟩,go⟩
  .by_cases z:j=i
   .subst z;rw[Tu hl]at e;cases e;rw[jh,Tu (h.len ▸ hl)];exact⟨rfl,v,rfl,r.same le⟩
   .rw[UP (Ne.symm z)]at e;rw[fB z,UP (Ne.symm z)];exact(h.sl j y e).same le λ_ _ z=>z
  .rw[VS]at hj;rw[fB (by lia)]at ha;exact h.out j hj a ha
  .by_cases z:j=i
   .rw[z,jh]at e1;cases e1
   by_cases y:k=i
   .rw[y,jh]at e2;cases e2
   .rw[fB z]at e1;rw[fB y]at e2;exact h.dis j k a e1 e2
 .refine⟨own,?_,⟨λ_=>.inl rfl,go.2⟩⟩;rw[Zyt (Nat.not_lt.mp hl),Zyt (h.len ▸ Nat.not_lt.mp hl)];exact h
theorem b_{n:Nat}(i:Nat){x:Str}(hN:X.N.Nodup)(hx:Loc X.env.scope x)(hi:X.N[i]?=some x:=by rfl)(hn:i<n:=by decide)(hf:X.fn x=true\/X.env.scope.names.lookup x=some .local:=by first|exact .inl rfl|exact .inr rfl|assumption):QG X n (.Name x pos) (hName i):=(lM hN hi hx hf).imp λv σ H Q hP=>by
 obtain⟨own,o,t,R,h,r,hg,k⟩:=hP;obtain⟨ah,h',S⟩:=h.setF r hn;exact k ah _ _ hg S h'
theorem dF{n:Nat} : QGs X n [] ank:=abx.imp λv σ H Q hP=>by
 obtain⟨own,o,t,R,h,r,hg,k⟩:=hP;cases r with
 |nil=>exact⟨rfl,k own σ o hg .refl h⟩
 |cons _ _=>exact hg.elim
theorem bR{n:Nat}{e:Expr}{es:List Expr}{g:T->List OT->(List OT->Prop)->Prop}{gs:List T->List OT->(List OT->Prop)->Prop}(h1:QG X n e g)(h2:QGs X n es gs)(hs:(assignEach (e::es) X.env).map (·.2)=assign e X.env::(assignEach es X.env).map (·.2):=by rfl):QGs X n (e::es) (akf g gs):=(YZ h1 h2 hs).imp λv σ H Q hP=>by
 obtain⟨own,o,t,R,h,r,hg,k⟩:=hP;cases r with
 |nil=>exact hg.elim
 |cons a b=>exact⟨_,_,rfl,own,o,_,_,h,a,hg,λah σ' o' q S h'=>⟨ah,o',_,R,h',b.same S.same,q,λbS σ2 o2 q S2 h2=>k bS σ2 o2 q (S.trans S2) h2⟩⟩
theorem fG{m:Nat}{es:List Expr}{k:Nat}{gs:List T->List OT->(List OT->Prop)->Prop}{n:Nat}(hc:X.calm=true)(h:QGs X m es gs)(hn:(assignEach es X.env).length=n:=by rfl)(b8:(assignEach es X.env).findIdx? (·.1)=none:=by rfl):QG X m (.Tuple es k pos) (ams n gs):=(aeW hc h hn b8).imp λv σ H Q hP=>by
 obtain⟨own,o,t,R,h,r,hg,k⟩:=hP;cases t<;>try exact hg.elim
 obtain⟨a,xs,rfl,e,r⟩:=r.tupI;exact⟨a,xs,rfl,dU.tup e,r.len.trans hg.1,own,o,_,R,h,r,hg.2,k⟩
def al5(a:RE)(g:T->List OT->(List OT->Prop)->Prop):RS:=λE o=>a o λx=>g (frz x) o E.nx
theorem Ui{n:Nat}{tg:Expr}{g:T->List OT->(List OT->Prop)->Prop}(he:QE X e re)(hg:QG X n tg g)(hs:swapsWithSole [tg] e pos.line X.env=pure false:=by rfl)(hw:swappedStores [tg] e X.env=pure none:=by rfl)(h1:(assignEach [tg] X.env).map (·.2)=[assign tg X.env]:=by rfl):QS X (.Assign [tg] e pos) (al5 re g) :=
 (S6 he hg hs hw h1).imp λD σ H hP=>by obtain⟨own,o,E,h,hr,L⟩:=hP;exact tQ.mk h hr λH1 v y q E1 r1=>⟨own,o,_,_,h.same E1,r1,q,λah σ' o' q S h'=>L.nx ah H1 σ' o' q ((bU E1).trans S.same) h'⟩
end
section
variable{P:Program}{w:World}{K:Frag}{mg:Str->Ω}{base:Heap}
noncomputable def start'(n:Nat)(ts:List T):List OT:=ts.map OT.fz++List.replicate (n-ts.length) .und
theorem SR.start{H:Hp}{vs:Ζ}{ts:List T}(r:bZ K H vs ts)(N:Φ):SR K (λ_=>[]) H (start N vs) (start' N.length ts):=by
 have e0:Ow (λ_=>[])=λ_=>False:=funext λb=>propext ⟨λhP=>by obtain⟨_,z⟩:=hP;exact(nomatch z),False.elim⟩;refine⟨by unfold start' L2.start;simp[r.len],λi x e=>?_,λ_ _ _ z=>(nomatch z),λi j a z=>(nomatch z)⟩;rw[e0,Vg];unfold start' at e;unfold L2.start;by_cases hi:i<ts.length
 .rw[aF (by simpa using hi),aq,aj hi]at e;cases e;obtain⟨v,e1,r1⟩:=r.at_ (aj hi);rw[aF (by rw[ak,r.len];exact hi),aq,e1];exact⟨rfl,v,rfl,r1⟩
 .rw[aD (by simpa using hi),ak,X0]at e;by_cases hj:i-ts.length<N.length-ts.length
  .rw[ZY hj]at e;cases e;rfl
  .rw[ZZ hj]at e;cases e
theorem Fun.okT{x ai:Str}{st:Stmt}{f:Addr}{fd:FuncData}{N ps:Φ}{k:Nat}{S:ST}(F:Fun K x ai st f fd)(sc:bL N ps (bH st))(len:∀ts R,S ts R->ts.length=ps.length)
 (ce:∀(ag:Value)(A:Around)(outer:List Env)(s:Shared)(H:Hp)(E:XK),fD k (A.deeper (envOfC ai (bH st) s.heap.objs.size f ag)) ->
   ∃r,QSs (Ov CX0 P w K mg base N ai (bH st) f ag A outer s H E).nox (fL st) r/\∀ts R,S ts R->r { nx:=λ_=>R (.fz .non),rt:=R } (start' N.length ts)):cj P w K mg base CX0 (k+1) f fd ps (spT K S):=by
 refine F.ok sc (λvs H Q E h=>?_) λag A outer s H vs Q E hr h=>?_
 .obtain⟨ts,R,r,hS,_⟩:=h;exact r.len.trans (len ts R hS)
 .obtain⟨ts,R,r,hS,q⟩:=h;obtain⟨rd,h1,h2⟩:=ce ag A outer s H E hr;have e0:hd (Ow λ_=>[]) H=H:=by rw[show Ow (λ_=>[])=λ_=>False from funext λb=>propext ⟨λhP=>by obtain⟨_,z⟩:=hP;exact(nomatch z),False.elim⟩,Vg]
  have br:∀(S:Addr->Prop)H' v x B,R x->Same H (hd S H')->Slo K (hd S H') H' (some v) B x->(∀a∈B,S a)->Q v H':=λS' H' v x B rx E s hB =>
   q H' v x rx (E.trans dU) ⟨B,λa ha=>E.free (pP (hB a ha)),s.same (h_ (λb z=>.inl (z.elim False.elim (hB b))) λ_ _ z=>z) λ_ _ z=>z⟩
  refine⟨_,h1,λ_=>[],_,_,SR.start r N,h2 ts R hS,⟨λown H' σ o rx E h=>?_,λS' H' v x B rx E s hB=>br S' H' v x B rx (e0 ▸ E) s hB,λ_ _ _ _ z=>z.elim,λ_ _ _ _ z=>z.elim⟩⟩;exact br (Ow own) H' .non _ [] rx (e0 ▸ E) ⟨rfl,_,rfl,.non⟩ λ_ z=>(nomatch z)
end
abbrev RI:=List OT->(List T->Prop)->Prop
def Wlk(K:Frag)(J:It)(F:Hp)(xs:List T):Prop:=∀(S:Addr->Prop)(H:Hp)(i:Nat),(∀b,S b->H b≠none)->Same F (hd S H) ->
 (i=xs.length->J.stop i H)/\∀t,xs[i]?=some t->J.go i H/\∀x H',J.yld i H x H'->Same H H'/\Rep K (hd S H') x t
def tQI(K:Frag)(r:RI):TI:=λσ H Q=>∃own o R,SR K own H σ o/\r o R/\∀H' J xs,R xs->Same H H'->Wlk K J (hd (Ow own) H') xs->Q J H'
def QI(X:Cx)(tg it:Expr)(r:RI):Prop:=PI X tg it (tQI X.K r)
theorem PI.imp{X:Cx}{tg it:Expr}{t t':TI}(h:PI X tg it t)(i:∀σ H Q,t' σ H Q->t σ H Q):PI X tg it t':=λaa s σ H Q I q=>h aa s σ H Q I (i σ H Q q)
def anH(a:RE):RI:=λo q=>a o λx=>match frz x with|.lst ts=>q ts|_=>False
theorem ZF{S:Addr->Prop}{H:Hp}{t:Addr}{u:HO}(n:H t=none)(hs:∀b,S b->H b≠none):hd S (upd H t u) t=some u:=by rw[cR λz=>hs t z n];exact cM
section
variable{X:Cx}{tg:Expr}{e a b:Expr}{re ra rb:RE}{p pos ay:Pos}
theorem cH(he:QE X e re):QI X tg e (anH re):=(acN he).imp λσ H Q ⟨own,o,R,h,hr,k⟩=>tQ.mk h hr λH1 v x q E1 r1=>by
 revert r1 q
 generalize frz x=t;intro q r1;cases t<;>try exact q.elim
 obtain⟨a,xs,rfl,e,r⟩:=r1.lstI;refine⟨a,rfl,⟨xs,.of (cU e).2⟩,k H1 _ _ q E1 λS H2 i _ SF=>⟨λhi=>⟨xs,.of (cU (SF _ _ e)).2,by rw[r.len];exact WG hi.symm⟩,λt ht=>?_⟩⟩;obtain⟨y,ey,ry⟩:=r.at_ ht;refine⟨⟨xs,y,.of (cU (SF _ _ e)).2,ey⟩,?_⟩;rintro x H3 ⟨rfl,hx⟩;have:=hx xs (.of (cU (SF _ _ e)).2);rw[ey]at this;cases this;exact⟨.refl _,ry.same SF⟩
noncomputable def rng(lo:Int)(n:Nat):List T:=(List.range n).map λk:Nat=>.int (lo+k)
theorem VH{K:Frag}{lo:Int}{n:Nat}{F:Hp} : Wlk K (Itr lo n) F (rng lo n):=λS H i _ _=>⟨λhi=>by rw[rng,ak,WJ]at hi;exact WG hi.symm,λt ht=>by
 unfold rng at ht;rw[aq]at ht;by_cases hi:i<n
 .rw[Up hi]at ht;cases ht;refine⟨hi,?_⟩;rintro x H' ⟨rfl,rfl⟩;exact⟨.refl _,.int _⟩
 .rw[aM (by simpa using hi)]at ht;cases ht⟩
def amV(r:RA):RI:=λo q=>r o λts=>match ts with|[.int j]=>(-(2^62)<=j/\j<2^62)/\q (rng 0 j.toNat)|_=>False
def amx(r:RA):RI:=λo q=>r o λts=>match ts with|[.int i,.int j]=>(-(2^62)<=i/\i<2^62/\-(2^62)<=j/\j<2^62)/\q (rng i (j-i).toNat)|_=>False
theorem cY{r:RA}(hg:Gl X "range")(hm:X.mg "range"=none)(ha:QA X [a] r)(hs:starEach [a] X.env=[(false,eval a X.env)]:=by rfl):QI X tg (.Call (.Name "range" p) [a] [] pos) (amV r):=(Xq hg hm ha hs).imp λσ H Q ⟨own,o,R,h,hr,k⟩=>⟨own,o,_,h,hr,λH1 vs ts q _ E1 r1=>by
 match ts,q with
 |[.int j],q =>
  obtain⟨x,rfl,rx⟩:=r1.one;cases rx;exact⟨j,rfl,q.1.1,q.1.2,k H1 _ _ q.2 E1 VH⟩⟩
theorem Kr{r:RA}(hg:Gl X "range")(hm:X.mg "range"=none)(ha:QA X [a,b] r)(hs:starEach [a,b] X.env=[(false,eval a X.env),(false,eval b X.env)]:=by rfl)(eJ:starEach [b] X.env=[(false,eval b X.env)]:=by rfl):QI X tg (.Call (.Name "range" p) [a,b] [] pos) (amx r):=(Xv hg hm ha hs eJ).imp λσ H Q ⟨own,o,R,h,hr,k⟩=>⟨own,o,_,h,hr,λH1 vs ts q _ E1 r1=>by
 match ts,q with
 |[.int i,.int j],q =>
  obtain⟨x,y,rfl,rx,ry⟩:=r1.two;cases rx;cases ry;exact⟨i,j,rfl,q.1,k H1 _ _ q.2 E1 VH⟩⟩
def yO(ts:List T):List T:=ts.zipIdx.map λp=>.tup [.int (p.2:Nat),p.1]
def amB(r:RA):RI:=λo q=>r o λts=>match ts with|[.lst ts]=>q (yO ts)|_=>False
theorem z9{r:RA}{bX:List Expr}{x1}(hg:Gl X "enumerate")(hm:X.mg "enumerate"=none)(ha:QA X [a] r)(hs:starEach [a] X.env=[(false,eval a X.env)]:=by rfl):QI X (.Tuple bX x1 ay) (.Call (.Name "enumerate" p) [a] [] pos) (amB r):=(ac4 hg hm ha hs).imp λσ H Q ⟨own,o,R,h,hr,k⟩=>⟨own,o,_,h,hr,λH1 vs ts q _ E1 r1=>by
 match ts,q with
 |[.lst ts],q =>
  obtain⟨x,rfl,rx⟩:=r1.one;obtain⟨a,xs,rfl,e,r⟩:=rx.lstI;refine⟨a,xs,rfl,(cU e).2,k H1 _ _ q E1 λS H2 i hs SF=>⟨λhi=>⟨xs,(cU (SF _ _ e)).2,by rw[r.len,hi];simp[yO]⟩,λt ht=>?_⟩⟩;unfold yO at ht;rw[aq]at ht;by_cases hi:i<ts.length
  .rw[aj (by simpa using hi),List.getElem_zipIdx]at ht;cases ht;obtain⟨y,ey,ry⟩:=r.at_ (aj hi);refine⟨⟨xs,(cU (SF _ _ e)).2,by rw[r.len];exact hi⟩,?_⟩;rintro x H3 ⟨eL,x',t,e',ex,n,rfl,rfl⟩;rw[(cU (SF _ _ e)).2]at e';cases e';rw[ey]at ex;cases ex;refine⟨Same.upd n,.tup (.of (ZF n hs)) (.cons ?_ (.cons (ry.same (SF.trans (bU (Same.upd n)))) .nil))⟩;rw[show((0+i:Nat):Int)=(i:Int)by lia];exact .int _
  .rw[aM (by simpa using hi)]at ht;cases ht⟩
def Dk(ts us:List T):List T:=(ts.zip us).map λp=>.tup [p.1,p.2]
def alk(r:RA):RI:=λo q=>r o λts=>match ts with|[.lst ts,.lst us]=>q (Dk ts us)|_=>False
theorem Hv{r:RA}{bX:List Expr}{x1}(hg:Gl X "zip")(hm:X.mg "zip"=none)(ha:QA X [a,b] r)(hs:starEach [a,b] X.env=[(false,eval a X.env),(false,eval b X.env)]:=by rfl)(eJ:starEach [b] X.env=[(false,eval b X.env)]:=by rfl):QI X (.Tuple bX x1 ay) (.Call (.Name "zip" p) [a,b] [] pos) (alk r):=(agv hg hm ha hs eJ).imp λσ H Q ⟨own,o,R,h,hr,k⟩=>⟨own,o,_,h,hr,λH1 vs ts q _ E1 r1=>by
 match ts,q with
 |[.lst ts,.lst us],q =>
  obtain⟨x,y,rfl,rx,ry⟩:=r1.two;obtain⟨a,xs,rfl,e,r⟩:=rx.lstI;obtain⟨b,ys,rfl,e2,r2⟩:=ry.lstI;refine⟨a,b,xs,ys,rfl,(cU e).2,(cU e2).2,k H1 _ _ q E1 λS H2 i hs SF=>⟨λhi=>⟨xs,ys,(cU (SF _ _ e)).2,(cU (SF _ _ e2)).2,?_⟩,λt ht=>?_⟩⟩
  .rw[r.len,r2.len];rw[Dk,ak,VX]at hi;lia
  .unfold Dk at ht;rw[aq]at ht;by_cases hi:i<ts.length/\i<us.length
   .rw[aj (by rw[VX];omega),Zys]at ht;cases ht;obtain⟨y,ey,ry⟩:=r.at_ (aj hi.1);obtain⟨z,ez,rz⟩:=r2.at_ (aj hi.2);refine⟨⟨xs,ys,(cU (SF _ _ e)).2,(cU (SF _ _ e2)).2,by rw[r.len];exact hi.1,by rw[r2.len];exact hi.2⟩,?_⟩;rintro x H3 ⟨eL,i',x',y',t,e',kb,ex,ey',n,rfl,rfl⟩;rw[(cU (SF _ _ e)).2]at e';cases e';rw[(cU (SF _ _ e2)).2]at kb;cases kb;rw[ey]at ex;cases ex;rw[ez]at ey';cases ey';have S3:=SF.trans (bU (S:=S) (Same.upd (o:=.tup [y,z]) n));exact⟨Same.upd n,.tup (.of (ZF n hs)) (.cons (ry.same S3) (.cons (rz.same S3) .nil))⟩
   .rw[aM (by rw[VX];omega)]at ht;cases ht⟩
def uO(g:T->List OT->(List OT->Prop)->Prop)(b:RS)(E:DT):List T->List OT->Prop
 |[],o=>E.nx o
 |t::ts,o=>∃N:List OT->Prop,(∀o,N o->uO g b E ts o)/\g t o λo'=>b { E with nx:=N,ct:=N,bk:=E.nx } o'
def alL(it:RI)(g:T->List OT->(List OT->Prop)->Prop)(b:RS):RS:=λE o=>it o λxs=>uO g b E xs o
theorem dB{n:Nat}{iter:Expr}{b6:List Stmt}{ri:RI}{g:T->List OT->(List OT->Prop)->Prop}{rb:RS}(hp:PassesOwn (model X.prog X.w) X.A X.env X.xe)(hc:X.calm=true)(hi:QI X tg iter ri)(hg:QG X n tg g)(hb:QSs X b6 rb)
 (hs:∀x,foldedSetIterable iter X.env x=pure x:=by intro _;rfl):QS X (.For tg iter b6 [] pos) (alL ri g rb):=(aeR hp hc hi hg hb hs).imp λD σ H ⟨own,o,E,h,hr,L⟩=>⟨own,o,_,h,hr,λH1 J xs q E1 wk=>by
 refine⟨λi m σ' H'=>∃ah o',SR X.K ah H' σ' o'/\Same (hd (Ow own) H1) (hd (Ow ah) H')/\uO g rb E (xs.drop i) o'/\i<=xs.length/\m=xs.length-i,⟨_,own,o,h.same E1,.refl _,q,aZ _,rfl⟩,?_⟩;rintro i m σ' H' ⟨ah,o',h',S',hl,il,rfl⟩;obtain⟨w1,w2⟩:=wk (Ow ah) H' i (λb z=>(h'.sole z).ne) S';have S0:=(bU E1).trans S';by_cases hi:i<xs.length
 .right;obtain⟨go,yl⟩:=w2 _ (aj hi);rw[Zzv hi]at hl;obtain⟨N,hN,hl⟩:=hl;refine⟨go,λσ2 H2=>∃bS o2,SR X.K bS H2 σ2 o2/\Same (hd (Ow own) H1) (hd (Ow bS) H2)/\uO g rb E (xs.drop (i+1)) o2,λσ2 H2 ⟨bS,o2,a,b,c⟩=>⟨xs.length-(i+1),by omega,bS,o2,a,b,c,hi,rfl⟩,λx H2 y=>?_⟩;obtain⟨E2,rx⟩:=yl x H2 y;refine⟨ah,o',_,_,h'.same E2,rx,hl,λeT σ3 o3 q3 gX h3=>⟨eT,o3,_,h3,q3,?_⟩⟩;have S3:=S'.trans ((bU (S:=Ow ah) E2).trans gX.same);have L3:=L.step ((bU E1).trans S3);exact⟨λcr H4 σ4 o4 q S h=>⟨cr,o4,h,S3.trans S,hN _ q⟩,L3.rt,λcr H4 σ4 o4 q S h=>L3.nx cr H4 σ4 o4 q S h,λcr H4 σ4 o4 q S h=>⟨cr,o4,h,S3.trans S,hN _ q⟩⟩
 .left;refine⟨w1 (by lia),?_⟩;rw[TR (Nat.not_lt.mp hi)]at hl;exact L.nx ah H' σ' o' hl S0 h'⟩
def aey(c:RT)(b:RS):RS:=λE o=>∃W:Nat->List OT->Prop,(∃m,W m o)/\∀m o,W m o->c o λk=>sw k (∃N:List OT->Prop,(∀o',N o'->∃m',m'<m/\W m' o')/\b { E with nx:=N,ct:=N,bk:=E.nx } o) (E.nx o)
theorem Ae{c:Expr}{b6:List Stmt}{rc:RT}{rb:RS}(hp:PassesOwn (model X.prog X.w) X.A X.env X.xe)(hc:QT X c rc)(hb:QSs X b6 rb):QS X (.While c b6 [] pos) (aey rc rb):=(Ye hp hc hb).imp λD σ H hP=>by
 obtain⟨own,o,E,h,hr,L⟩:=hP;obtain⟨W,⟨m0,w0⟩,st⟩:=hr;refine⟨λm σ' H'=>∃ah o',SR X.K ah H' σ' o'/\Same (hd (Ow own) H) (hd (Ow ah) H')/\W m o',⟨m0,own,o,h,.refl _,w0⟩,?_⟩;rintro m σ' H' ⟨ah,o',h',S',wm⟩;refine tQT.mk h' (st m o' wm) λH1 k q E1=>Jo q (λhP=>?_) λq=>L.nx ah H1 σ' o' q (S'.trans (bU E1)) (h'.same E1);obtain⟨N,hN,q⟩:=hP;have S1:=S'.trans (bU E1);have L1:=L.step S1;refine⟨λσ2 H2=>∃bS o2,SR X.K bS H2 σ2 o2/\Same (hd (Ow own) H) (hd (Ow bS) H2)/\N o2,λσ2 H2 hP=>?_,ah,o',_,h'.same E1,q,⟨λcr H4 σ4 o4 q S h=>⟨cr,o4,h,S1.trans S,q⟩,L1.rt,λcr H4 σ4 o4 q S h=>L1.nx cr H4 σ4 o4 q S h,λcr H4 σ4 o4 q S h=>⟨cr,o4,h,S1.trans S,q⟩⟩⟩;obtain⟨bS,o2,a,b,c⟩:=hP;obtain⟨m',lt,w⟩:=hN o2 c;exact⟨m',lt,bS,o2,a,b,w⟩
end
def jd(g:T->List OT->(List OT->Prop)->Prop)(c:RT)(e:RE)(o:List OT):List T->(List T->Prop)->Prop
 |[],q=>q []
 |t::ts,q=>∃(N:T->Prop)(M:Prop),(∀y,N y->jd g c e o ts λus=>q (y::us))/\(M->jd g c e o ts q)/\g t o λo'=>c o' λb=>sw b (e o' λy=>N (frz y)) M
def alv:RT:=λ_ q=>q true
def W9(it:RI)(n:Nat)(g:T->List OT->(List OT->Prop)->Prop)(c:RT)(e:RE):RE:=λo q=>it o λxs=>xs.length<=sizeLine/\jd g c e (List.replicate n .und++o) xs λus=>q (.l1 us)
noncomputable def ownS(n L:Nat)(own:Nat->Ψ)(D:Addr):Nat->Ψ:=λi=>if i<n then[]else if i<n+L then own (i-n)else if i=n+L then[D]else own (i-n-1)
theorem Ow.ownS{n L:Nat}{own:Nat->Ψ}{D b:Addr} : Ow (ownS n L own D) b↔Ow own b\/b=D:=by
 constructor
 .rintro⟨i,z⟩;unfold L2.ownS at z;by_cases h1:i<n
  .rw[ZY h1]at z;cases z
  rw[ZZ h1]at z;by_cases h2:i<n+L
  .rw[ZY h2]at z;exact .inl ⟨_,z⟩
  rw[ZZ h2]at z;by_cases h3:i=n+L
  .rw[ZY h3]at z;exact .inr (YR.mp z)
  .rw[ZZ h3]at z;exact .inl ⟨_,z⟩
 .rintro(⟨i,z⟩|rfl)
  .by_cases h:i<L
   .exact⟨n+i,by unfold L2.ownS;rw[ZZ (Ts (X2 _ _)),ZY (Nat.add_lt_add_left h _),show n+i-n=i by exact JU _ _];exact z⟩
   .exact⟨n+i+1,by unfold L2.ownS;rw[ZZ (by lia),ZZ (by lia),ZZ (by lia),show n+i+1-n-1=i by lia];exact z⟩
  .exact⟨n+L,by unfold L2.ownS;rw[ZZ (Ts (X2 _ _)),ZZ (X9 _),ZY rfl];simp⟩
theorem SR.block{K:Frag}{own:Nat->Ψ}{H:Hp}{σ:L2.St}{o:List OT}(h:SR K own H σ o){D:Addr}{ys:Ζ}{H':Hp}(E:Same H H')(nD:H D=none)(eD:H' D=some (.lst ys))(pre:L2.St):SR K (ownS pre.length o.length own D) H' (pre++σ) (List.replicate pre.length .und++o):=by
 have le:Same (hd (Ow own) H) (hd (Ow (ownS pre.length o.length own D)) H'):=h_ (λb z=>(Ow.ownS.mp z).imp id λ(e:b=D)=>e ▸ nD) E;have fh:∀j,D∉own j:=λj z=>(h.sole ⟨j,z⟩).ne nD;refine⟨by simp[h.len],λi x e=>?_,λi hi a ha=>?_,λi j a e1 e2=>?_⟩
 .by_cases h1:i<pre.length
  .rw[aF (by simpa using h1),X0,ZY h1]at e;cases e;show ownS _ _ _ _ i=[];unfold ownS;rw[ZY h1]
  .rw[aD (by simpa using h1),aN]at e;have h2:i-pre.length<o.length:=(ao.mp e).1;rw[aD (Nat.not_lt.mp h1)];have:ownS pre.length o.length own D i=own (i-pre.length):=by unfold ownS;rw[ZZ h1,ZY (by omega)]
   rw[this];exact(h.sl _ x e).same le E
 .rw[aA,aN]at hi;unfold ownS at ha;rw[ZZ (by lia),ZZ (Ts hi)]at ha;by_cases h3:i=pre.length+o.length
  .rw[ZY h3]at ha;cases YR.mp ha;exact⟨_,eD⟩
  .rw[ZZ h3]at ha;obtain⟨xs,e⟩:=h.out _ (by lia) a ha;exact⟨xs,E _ _ e⟩
 .unfold ownS at e1 e2;by_cases a1:i<pre.length
  .rw[ZY a1]at e1;cases e1
  by_cases b1:j<pre.length
  .rw[ZY b1]at e2;cases e2
  rw[ZZ a1]at e1;rw[ZZ b1]at e2;by_cases a2:i<pre.length+o.length<;>by_cases b2:j<pre.length+o.length
  .rw[ZY a2]at e1;rw[ZY b2]at e2;have:=h.dis _ _ a e1 e2;omega
  .rw[ZY a2]at e1;rw[ZZ b2]at e2;by_cases b3:j=pre.length+o.length
   .rw[ZY b3]at e2;cases YR.mp e2;exact absurd e1 (fh _)
   .rw[ZZ b3]at e2;have:=h.dis _ _ a e1 e2;omega
  .rw[ZZ a2]at e1;rw[ZY b2]at e2;by_cases a3:i=pre.length+o.length
   .rw[ZY a3]at e1;cases YR.mp e1;exact absurd e2 (fh _)
   .rw[ZZ a3]at e1;have:=h.dis _ _ a e1 e2;lia
  .rw[ZZ a2]at e1;rw[ZZ b2]at e2;by_cases a3:i=pre.length+o.length<;>by_cases b3:j=pre.length+o.length
   .exact Eq.trans a3 (Eq.symm b3)
   .rw[ZY a3]at e1;rw[ZZ b3]at e2;cases YR.mp e1;exact absurd e2 (fh _)
   .rw[ZZ a3]at e1;rw[ZY b3]at e2;cases YR.mp e2;exact absurd e1 (fh _)
   .rw[ZZ a3]at e1;rw[ZZ b3]at e2;have:=h.dis _ _ a e1 e2;lia
theorem QK{n:Nat}{own ah:Nat->Ψ}{pre σ σ':L2.St}(hp:pre.length=n)(g:DQ n own ah (pre++σ) σ'):∃b5:L2.St,b5.length=n/\σ'=b5++σ:=by
 obtain⟨_,l,k⟩:=g;refine⟨σ'.take n,by rw[aY,l,aA];lia,?_⟩;refine Zzs λi=>?_;by_cases hi:i<n
 .rw[aF (by rw[aY,l,aA];lia),List.getElem?_take_of_lt hi]
 .rw[aD (by rw[aY,l,aA];lia),k i (VU hi),aD (by lia),aY,l,aA]
  congr 1
  lia
theorem RV{K:Frag}{σ:L2.St}{Q:VK}{n:Nat}{g:T->List OT->(List OT->Prop)->Prop}{rc:RT}{re:RE}{own:Nat->Ψ}{o:List OT}{H1:Hp}{J:It}{xs:List T}{R:OT->Prop}{D:Addr}(h1:SR K own H1 σ o)(wk:Wlk K J (hd (Ow own) H1) xs)(lx:xs.length<=sizeLine)(q:jd g rc re (List.replicate n .und++o) xs λus=>R (.l1 us))(nD:H1 D=none)(k:∀H' v x,R x->Same H1 H'->NR K (Ow own) H1 H' v x->Q v H') :
  ∃W:Nat->Nat->Ζ->Hp->Prop,(∃m,W 0 m [] (upd H1 D (.lst [])))/\∀i m ys Hc,W i m ys Hc ->
   (J.stop i Hc/\Q (.ref D) Hc)\/(J.go i Hc/\∀x H',J.yld i Hc x H'->∀pre:L2.St,pre.length=n->tMG (tQG K n g) x (pre++σ) H' λσ2 H2=>∃b5:L2.St,b5.length=n/\σ2=b5++σ/\tMT (tQT K rc) σ2 H2 λb H3 =>
    match b with
    |true=>tM (tQ K re) σ2 H3 λy H4=>ys.length<sizeLine/\H4 D=some (.lst ys)/\∃m',m'<m/\W (i+1) m' (ys++[y]) (upd H4 D (.lst (ys++[y])))
    |false=>∃m',m'<m/\W (i+1) m' ys H3):=by
 generalize hO:List.replicate n OT.und++o=ob at q;refine⟨λi m ys Hc=>∃ts,Hc D=some (.lst ys)/\Same H1 Hc/\bZ K (hd (λb=>Ow own b\/b=D) Hc) ys ts/\ys.length<=i/\i<=xs.length/\m=xs.length-i/\jd g rc re ob (xs.drop i) λus=>R (.l1 (ts++us)),⟨_,[],cM,Same.upd nD,.nil,aG _,aZ _,rfl,q⟩,?_⟩;rintro i m ys Hc ⟨ts,eD,Ec,rs,il,ix,rfl,hl⟩;have hn:∀b,Ow own b\/b=D->Hc b≠none:=λb z=>z.elim (λz=>((h1.same Ec).sole z).ne) λe z=>by rw[e,eD]at z;cases z
 have SD:Same (hd (Ow own) H1) (hd (λb=>Ow own b\/b=D) Hc):=h_ (λb z=>z.imp id λ(e:b=D)=>e ▸ nD) Ec;obtain⟨w1,w2⟩:=wk (λb=>Ow own b\/b=D) Hc i hn SD;by_cases hi:i<xs.length
 .right;obtain⟨go,yl⟩:=w2 _ (aj hi);rw[Zzv hi]at hl;obtain⟨N,M,hN,hM,hl⟩:=hl;refine⟨go,λx H2 y pre hp=>?_⟩;obtain⟨E2,rx⟩:=yl x H2 y;have eO:(λb=>Ow own b\/b=D)=Ow (ownS n o.length own D):=funext λb=>propext Ow.ownS.symm;have hb:SR K (ownS n o.length own D) H2 (pre++σ) ob:=by
   have:=h1.block (Ec.trans E2) nD (E2 _ _ eD) pre;rw[hp,hO]at this;exact this
  rw[eO]at rx rs;refine⟨_,⟨ownS n o.length own D,ob,_,_,hb,rx,hl,λeT σ3 o3 q3 gX h3=>?_⟩,λ_ _ z=>z⟩;obtain⟨b5,c8,rfl⟩:=QK hp gX;have e3:eT=ownS n o.length own D:=funext λj=>by
   rcases gX.1 j with e|⟨e1,e2⟩
   .exact e
   .rw[e2];unfold ownS;rw[ZY e1]
  subst e3;refine⟨b5,c8,rfl,_,tQT.mk h3 q3 λH3 b q4 E3=>?_,λ_ _ z=>z⟩;have q4:sw b (re o3 λy=>N (frz y)) M:=q4;cases b with
  |false=>exact⟨xs.length-(i+1),by lia,ts,E3 _ _ (E2 _ _ eD),Ec.trans (E2.trans E3),by rw[eO];exact rs.same (bU (E2.trans E3)),by exact aL il (X2 _ _),by exact hi,rfl,hM q4⟩
  |true =>
   refine⟨_,tQ.mk (h3.same E3) q4 λH4 v y q5 E4 r4=>⟨by lia,E4 _ _ (E3 _ _ (E2 _ _ eD)),xs.length-(i+1),by lia,ts++[frz y],cM,λb u e=>?_,?_,by rw[aA,List.length_singleton];exact Nat.succ_le_succ il,by exact hi,rfl,?_⟩,λ_ _ z=>z⟩
   .rw[cF λz=>by rw[z,nD]at e;cases e];exact E4 _ _ (E3 _ _ (E2 _ _ (Ec _ _ e)))
   .rw[Dg (S:=λb=>Ow own b\/b=D) (.inr rfl),eO];exact(rs.same (bU (E2.trans (E3.trans E4)))).app (.cons r4 .nil)
   .have:=hN _ q5;simp only[WZ,List.singleton_append];exact this
 .left;have:i=xs.length:=by lia
  refine⟨w1 this,?_⟩;rw[TR (VU hi)]at hl;have hl:R (.l1 (ts++[])):=hl;rw[List.append_nil]at hl;exact k Hc _ _ hl Ec (NR.l1 nD eD rs)
theorem Jf{K:Frag}{σ:L2.St}{H:Hp}{Q:VK}{ri:RI}{n:Nat}{g:T->List OT->(List OT->Prop)->Prop}{rc:RT}{re:RE}(h:tQ K (W9 ri n g rc re) σ H Q):q_ (tQI K ri) n (tMG (tQG K n g)) (tMT (tQT K rc)) (tM (tQ K re)) σ H Q:=by
 obtain⟨own,o,R,h,hr,k⟩:=h;exact⟨own,o,_,h,hr,λH1 J xs q E1 wk D nD=>RV (h.same E1) wk q.1 q.2 nD λH' v x rx E n=>k H' v x rx (E1.trans E) (n.back E1)⟩
section
variable{X:Cx}{tg iter a8:Expr}{aE:List Expr}{ri:RI}{g:T->List OT->(List OT->Prop)->Prop}{rc:RT}{re:RE}{scope:Scope}{pos:Pos}
def QTs(X:Cx)(aE:List Expr)(r:RT):Prop:=PTs X aE (tQT X.K r)
theorem cI:QTs X [] alv:=λaa s σ H Q I hP=>by obtain⟨own,o,R,h,hr,k⟩:=hP;exact acT aa s σ H Q I (k H true hr (.refl _))
theorem Lx{c:Expr}{rc:RT}(h:QT X c rc):QTs X [c] rc:=abo h
theorem dI(sc:Scope)(N N' xs:Φ)(hi:QI X tg iter ri)(hg:∀{C s₀ H₀ ex pn},QG (X.compG N' scope xs C s₀ H₀ ex pn) xs.length tg g)(ht:∀{C s₀ H₀ ex pn},QTs (X.compG N' scope xs C s₀ H₀ ex pn) aE rc)(he:∀{C s₀ H₀ ex pn},QE (X.compG N' scope xs C s₀ H₀ ex pn) a8 re)
 (cx:X.env.scope=sc:=by rfl)(cS:X.N=N:=by rfl)(hc:X.calm=true:=by rfl)(hk:scope.kind=.function:=by rfl)(h:CK sc scope N N' xs:=by decide +kernel)(hs:∀z,foldedSetIterable iter X.env z=pure z:=by intro _;rfl):QE X (.ListComp a8 [⟨tg,iter,aE,0⟩] scope pos) (W9 ri xs.length g rc re) :=
 (YB (gt:=tQG X.K xs.length g) (tc:=tQT X.K rc) (te:=tQ X.K re) sc N N' xs hi hg ht he cx cS hc hk h hs).imp λ_ _ _=>Jf
theorem adi(sc:Scope)(N N':Φ)(x0:Str)(hi:QI X tg iter ri)(hg:∀{C s₀ H₀ ex pn},QG (X.compGC N' scope x0 C s₀ H₀ ex pn) 1 tg g)(ht:∀{C s₀ H₀ ex pn},QTs (X.compGC N' scope x0 C s₀ H₀ ex pn) aE rc)(he:∀{C s₀ H₀ ex pn},QE (X.compGC N' scope x0 C s₀ H₀ ex pn) a8 re)
 (cx:X.env.scope=sc:=by rfl)(cS:X.N=N:=by rfl)(hc:X.calm=true:=by rfl)(hk:scope.kind=.function:=by rfl)(fy:∀n acc,cellsFrom n scope.names acc=(x0,n)::acc:=by intro _ _;rfl)(fr:∀h,pushCells h scope.names=h.push { cls:=.type "cell",data:=.cell none }:=by intro _;rfl)(h:(∀y∈scope.names,y.2=.cell->y.1=x0)/\CK0 sc scope N N' [x0]:=by decide +kernel)(hs:∀z,foldedSetIterable iter X.env z=pure z:=by intro _;rfl):QE X (.ListComp a8 [⟨tg,iter,aE,0⟩] scope pos) (W9 ri 1 g rc re) :=
 (aay (gt:=tQG X.K 1 g) (tc:=tQT X.K rc) (te:=tQ X.K re) sc N N' x0 hi hg ht he cx cS hc hk fy fr h hs).imp λ_ _ _=>Jf
theorem Wc{N0:Φ}{x0:Str}{sO:Scope}{C0:Addr}{s0:Shared}{H0:Hp}{eh:Ψ}{dL:Δ}(sc:Scope)(N N' xs:Φ)(hi:QI (X.compGC N0 sO x0 C0 s0 H0 eh dL) tg iter ri)(hg:∀{C s₀ H₀ ex pn},QG ((X.compGC N0 sO x0 C0 s0 H0 eh dL).compG N' scope xs C s₀ H₀ ex pn) xs.length tg g)(ht:∀{C s₀ H₀ ex pn},QTs ((X.compGC N0 sO x0 C0 s0 H0 eh dL).compG N' scope xs C s₀ H₀ ex pn) aE rc)(he:∀{C s₀ H₀ ex pn},QE ((X.compGC N0 sO x0 C0 s0 H0 eh dL).compG N' scope xs C s₀ H₀ ex pn) a8 re)
 (cx:X.env.scope=sc:=by rfl)(cS : [x0]++N0=N:=by rfl)(hc:X.calm=true:=by rfl)(hk:scope.kind=.function:=by rfl)(h:CK (rlb sc sO) scope N N' xs:=by decide +kernel)(hs:∀z,foldedSetIterable iter (X.compGC N0 sO x0 C0 s0 H0 eh dL).env z=pure z:=by intro _;rfl):QE (X.compGC N0 sO x0 C0 s0 H0 eh dL) (.ListComp a8 [⟨tg,iter,aE,0⟩] scope pos) (W9 ri xs.length g rc re) :=
 PE.imp (aea (gt:=tQG X.K xs.length g) (tc:=tQT X.K rc) (te:=tQ X.K re) sc N N' xs hi hg ht he cx cS hc hk h hs) λ_ _ _=>Jf
theorem aef{i0:Nat}{y0:Str}{py b7:Pos}(sc:Scope)(N N' xs:Φ)(hi:QI X tg iter ri)(hg:∀{C s₀ H₀ ex pn},QG (X.compG N' scope xs C s₀ H₀ ex pn) xs.length tg g)(ht:∀{C s₀ H₀ ex pn},QTs (X.compG N' scope xs C s₀ H₀ ex pn) aE rc)(he:∀{C s₀ H₀ ex pn},QE (X.compG N' scope xs C s₀ H₀ ex pn) a8 re)(fx:PG X (.Name y0 py) (yR i0))
 (cx:X.env.scope=sc:=by rfl)(cS:X.N=N:=by rfl)(hc:X.calm=true:=by rfl)(hk:scope.kind=.function:=by rfl)(h:CK sc scope N N' xs:=by decide +kernel)(fm:swapsWith (.ListComp a8 [⟨tg,iter,aE,0⟩] scope pos) (some (.Name y0 py)) b7.line X.env=pure true:=by rfl)(hs:∀z,foldedSetIterable iter X.env z=pure z:=by intro _;rfl) :
  QS X (.Assign [.Name y0 py] (.ListComp a8 [⟨tg,iter,aE,0⟩] scope pos) b7) (aeG i0 (W9 ri xs.length g rc re)):=(Z5 (gt:=tQG X.K xs.length g) (tc:=tQT X.K rc) (te:=tQ X.K re) sc N N' xs hi hg ht he fx cx cS hc hk h fm hs).imp λD σ H ⟨own,o,E,h,hr,L⟩=>Jf ⟨own,o,_,h,hr,λH' v y q S n=>by
 obtain⟨ah,h',S'⟩:=h.putA S n i0;exact L.nx ah H' _ _ q S' h'⟩
theorem fj{N' xs:Φ}{C s₀ H₀ ex pn}{n i:Nat}{x:Str}{p:Pos}(hN:(xs++N').Nodup:=by decide +kernel)(hi:(xs++N')[i]?=some x:=by rfl)(hn:i<n:=by decide)(hx:Loc (X.compG N' scope xs C s₀ H₀ ex pn).env.scope x:=by exact Or.inl rfl)(hf:(X.compG N' scope xs C s₀ H₀ ex pn).fn x=true\/(X.compG N' scope xs C s₀ H₀ ex pn).env.scope.names.lookup x=some .local:=by exact Or.inr rfl):QG (X.compG N' scope xs C s₀ H₀ ex pn) n (.Name x p) (hName i):=b_ i hN hx hi hn hf
theorem adT{N':Φ}{x0:Str}{C s₀ H₀ ex pn}{p:Pos}(hN:([x0]++N').Nodup:=by decide +kernel)(hx:Loc (X.compGC N' scope x0 C s₀ H₀ ex pn).env.scope x0:=by exact Or.inr rfl):QG (X.compGC N' scope x0 C s₀ H₀ ex pn) 1 (.Name x0 p) (hName 0)   := b_ 0 hN hx rfl (by decide) (.inl (beq_self_eq_true _))
end
theorem Xi{g:T->List OT->(List OT->Prop)->Prop}{c:RT}{e:RE}{o:List OT}{t:T}{ts:List T}{q:List T->Prop}(h:g t o λo'=>c o' λb=>sw b (e o' λy=>jd g c e o ts λus=>q (frz y::us)) (jd g c e o ts q)):jd g c e o (t::ts) q:=⟨λy=>jd g c e o ts λus=>q (y::us),_,λ_ h=>h,id,h⟩
section
variable{X:Cx}{a b e:Expr}{ra rb re:RE}{rt:RT}{pos:Pos}
theorem bZ.reps{K:Frag}{F:Hp}{xs:Ζ}{ts:List T}(h:bZ K F xs ts):∀n:Nat,bZ K F (List.replicate n xs).flatten (List.replicate n ts).flatten
 |0=>.nil
 |n+1=>by rw[List.replicate_succ,List.replicate_succ,List.flatten_cons,List.flatten_cons];exact h.app (bZ.reps h n)
theorem cB:GO X (binaryOp .Mult) ano:=λaa s σ H x y v u Q I rx ry h=>by
 obtain⟨S,t,w,R,_,hx,hy,hg,k⟩:=h;cases w with
 |int j=>?_
 |_=>cases t<;>exact hg.elim
 cases hy;cases t<;>try exact hg.elim
 .cases hx;exact ab8 aa s σ H _ _ v u Q I rx ry ⟨_,_,rfl,rfl,hg.1,k H _ _ hg.2 (.refl _) (NR.fz (.int _))⟩
 .cases hx;obtain⟨c,rfl,h1,h2,q⟩:=hg;exact acV aa s σ H _ _ v u Q I rx ry ⟨c,j,rfl,rfl,h1,h2,λz hz=>k H _ _ (q z hz) (.refl _) (NR.fz (.str _))⟩
 .obtain⟨p,xs,rfl,e,r⟩:=hx.lstI;obtain⟨⟨h1,h2,h3⟩,q⟩:=hg;exact aem aa s σ H _ _ v u Q I rx ry ⟨p,j,xs,rfl,rfl,(cU e).2,h1,h2,by rw[r.len];exact h3,λa ha=>k _ _ _ (q _ rfl) (Same.upd ha) (zU (r.reps j.toNat) (Same.upd ha) ha cM)⟩
mutual
def ofD:PyData->T
 |.none=>.non
 |.bool b=>.bl b
 |.int i=>.int i
 |.str s=>.str s
 |.list ds=>.lst (ZL ds)
 |.tuple ds=>.tup (ZL ds)
 |.dict _=>.any
def ZL:List PyData->List T
 |[]=>[]
 |d::ds=>ofD d::ZL ds
end
mutual
theorem Rep.shows{K:Frag}{F:Hp} : ∀{x:V}{t:T},Rep K F x t->∀d,t=ofD d->d.canLay0=true->gk K F x d
 |_,_,.any v,d,e,s=>by cases d<;>cases e;cases s
 |_,_,.non,d,e,_=>by cases d<;>cases e;exact .non
 |_,_,.bl b,d,e,_=>by cases d<;>cases e;exact .bl _
 |_,_,.int i,d,e,_=>by cases d<;>cases e;exact .int _
 |_,_,.str s,d,e,_=>by cases d<;>cases e;exact .str _
 |_,_,.val v,d,e,_=>by cases d<;>cases e
 |_,_,.tup q h,d,e,s=>by
  cases d<;>cases e;exact .tup q (bZ.shows h _ rfl s)
 |_,_,.lst q h,d,e,s=>by
  cases d<;>cases e;exact .lst q (bZ.shows h _ rfl s)
 |_,_,.scr q h,d,e,_=>by cases d<;>cases e
 |_,_,.dct q l h,d,e,_=>by cases d<;>cases e
 |_,_,.ins q d' l h,d,e,_=>by cases d<;>cases e
theorem bZ.shows{K:Frag}{F:Hp} : ∀{xs:Ζ}{ts:List T},bZ K F xs ts->∀ds,ts=ZL ds->PyData.canLayAll0 ds=true->eG K F xs ds
 |_,_,.nil,ds,e,_=>by cases ds<;>cases e;exact .nil
 |_,_,.cons a b,ds,e,s=>by
  cases ds<;>cases e;obtain⟨s1,s2⟩:=Bool.and_eq_true_iff.mp s;exact .cons (Rep.shows a _ rfl s1) (bZ.shows b _ rfl s2)
end
noncomputable def xr:Bool->Bool->Bool
 |false,b=>b
 |true,b=>!b
noncomputable def eqS:T->T->Option Bool
 |.int i,.int j=>some (decide (i=j))
 |.str i,.str j=>some (decide (i=j))
 |.bl i,.bl j=>some (decide (i=j))
 |.non,.non=>some true
 |.non,.int _=>some false
 |.int _,.non=>some false
 |.non,.str _=>some false
 |.str _,.non=>some false
 |.int _,.str _=>some false
 |.str _,.int _=>some false
 |.tup [.int a,.int b],.tup [.int c,.int d]=>some (decide (a=c)&&decide (b=d))
 |_,_=>none
def gEq(neg:Bool)(t u:T)(q:OT->Prop):Prop:=match eqS t u with
 |some b=>q (.fz (.bl (xr neg b)))
 |none=>∃d e,t=ofD d/\u=ofD e/\SeqAt.shaped d=true/\SeqAt.shaped e=true/\q (.fz (.bl (xr neg (PyData.eqv d e))))
theorem adJ(a b c d:Int):PyData.eqv (.tuple [.int a,.int b]) (.tuple [.int c,.int d])=(decide (a=c)&&decide (b=d)):=by
 simp only[PyData.eqv,PyData.eqvAll,Bool.and_true]
 rfl
theorem agr{K:Frag}{F H:Hp}{x y:V}{t u:T}{b:Bool}(S:Same F H)(hx:Rep K F x t)(hy:Rep K F y u)(e:eqS t u=some b):(acu x y=true/\decide (x=y)=b)\/∃d e,gk K H x d/\gk K H y e/\SeqAt.shaped d=true/\SeqAt.shaped e=true/\PyData.eqv d e=b:=by
 unfold eqS at e;split at e<;>cases e
 .cases hx;cases hy;exact .inl ⟨rfl,by simp⟩
 .cases hx;cases hy;exact .inl ⟨rfl,by simp⟩
 .cases hx;cases hy;exact .inl ⟨rfl,by simp⟩
 .cases hx;cases hy;exact .inl ⟨rfl,rfl⟩
 .cases hx;cases hy;exact .inl ⟨rfl,rfl⟩
 .cases hx;cases hy;exact .inl ⟨rfl,rfl⟩
 .cases hx;cases hy;exact .inl ⟨rfl,rfl⟩
 .cases hx;cases hy;exact .inl ⟨rfl,rfl⟩
 .cases hx;cases hy;exact .inl ⟨rfl,rfl⟩
 .cases hx;cases hy;exact .inl ⟨rfl,rfl⟩
 .exact .inr ⟨.tuple [.int _,.int _],.tuple [.int _,.int _],(hx.shows _ rfl rfl).same S,(hy.shows _ rfl rfl).same S,rfl,rfl,adJ _ _ _ _⟩
theorem YF(neg:Bool){op:CmpOp}(h1:OpR X (compareOp op) λx y H Q=>acu x y=true/\Q (.bl (xr neg (decide (x=y)))) H)(h2:OpR X (compareOp op) (aeo X.K neg)):GO X (compareOp op) (gEq neg):=λaa s σ H x y v u Q I rx ry h=>by
 obtain⟨S,t,w,R,_,hx,hy,hg,k⟩:=h;have xe:∀b:Bool,(if neg then !b else b)=xr neg b:=λb=>by cases neg<;>rfl
 unfold gEq at hg;cases es:eqS t w with
 |some b =>
  rw[es]at hg;rcases agr dU hx hy es with⟨a,c⟩|⟨d,e,s1,s2,s3,s4,c⟩
  .exact h1 aa s σ H x y v u Q I rx ry ⟨a,by rw[c];exact k H _ _ hg (.refl _) (NR.fz (.bl _))⟩
  .exact h2 aa s σ H x y v u Q I rx ry ⟨d,e,s1,s2,s3,s4,by rw[xe,c];exact k H _ _ hg (.refl _) (NR.fz (.bl _))⟩
 |none =>
  rw[es]at hg;obtain⟨d,e,e1,e2,s1,s2,q⟩:=hg;exact h2 aa s σ H x y v u Q I rx ry ⟨d,e,(hx.shows d e1 (Bool.and_eq_true_iff.mp s1).1).same dU,(hy.shows e e2 (Bool.and_eq_true_iff.mp s2).1).same dU,s1,s2,by rw[xe];exact k H _ _ q (.refl _) (NR.fz (.bl _))⟩
theorem go_eq(hu:X.A.units+64<cLine):GO X (compareOp .Eq) (gEq false):=YF false ahC (afZ hu)
theorem tO(hu:X.A.units+64<cLine):GO X (compareOp .NotEq) (gEq true):=YF true ake (aew hu)
def flat:OT->Prop
 |.fz (.int _)=>True
 |.fz (.bl _)=>True
 |.fz (.str _)=>True
 |.fz .non=>True
 |_=>False
def ami(i:Nat)(a:RE):RE:=λo q=>match slot o i with|.und=>False|x=>a (o.set i (.fz (frz x))) λy=>flat y/\q y
def aib(i:Nat)(a:RT):RT:=λo q=>match slot o i with|.und=>False|x=>a (o.set i (.fz (frz x))) q
theorem VP{i:Nat}{o:List OT}{P:OT->Prop}(h:match slot o i with|.und=>False|x=>P x):P (slot o i)/\slot o i≠.und:=by
 cases e:slot o i<;>rw[e]at h<;>first|exact h.elim|exact⟨h,λz=>by cases z⟩
theorem LC(i:Nat)(h:QE X e re):QE X e (ami i re):=PE.imp h λσ H Q hP=>by
 obtain⟨own,o,R,h,hr,k⟩:=hP;obtain⟨hr,ne⟩:=VP (P:=λx=>re (o.set i (.fz (frz x))) λy=>flat y/\R y) hr;obtain⟨u,e1,s⟩:=h.val rfl ne;obtain⟨ah,h',S⟩:=h.frz (gw rfl ne) e1;refine⟨ah,_,_,h',hr,λH' v x q E n=>k H' v x q.2 E ?_⟩;have fl:=q.1;have rp:=n.rep λb z=>(h'.sole z).ne;cases x with
 |fz t=>cases t<;>first|exact fl.elim|(cases rp;first|exact NR.fz (.int _)|exact NR.fz (.bl _)|exact NR.fz (.str _)|exact NR.fz .non)
 |_=>exact fl.elim
theorem T8(i:Nat)(h:QT X e rt):QT X e (aib i rt):=PT.imp h λσ H Q hP=>by
 obtain⟨own,o,R,h,hr,k⟩:=hP;obtain⟨hr,ne⟩:=VP (P:=λx=>rt (o.set i (.fz (frz x))) R) hr;obtain⟨u,e1,s⟩:=h.val rfl ne;obtain⟨ah,h',S⟩:=h.frz (gw rfl ne) e1;exact⟨ah,_,_,h',hr,k⟩
noncomputable def Xh:T->Option Key
 |.int i=>some (.inl i)
 |.str s=>some (.inr s)
 |_=>none
noncomputable def qd{α:Type} : List Key->List α->Key->Option α
 |k::ks,t::ts,j=>if k=j then some t else qd ks ts j
 |_,_,_=>none
theorem Nv{K:Frag}{F:Hp}{x:V}{t:T}{k:Key}(h:Rep K F x t)(e:Xh t=some k):x=kV k:=by
 cases h<;>cases e<;>rfl
theorem Dl{K:Frag}{F:Hp}{k:Key} : ∀{ks:List Key}{xs:Ζ}{ts:List T},bZ K F xs ts->(∀t,qd ks ts k=some t->∃x,Hy (ks.zip xs) k=some x/\Rep K F x t)/\(qd ks ts k=none->Hy (ks.zip xs) k=none)
 |[],_,_,_=>⟨λ_ z=>(nomatch z),λ_=>rfl⟩
 |_::_,_,_,.nil=>⟨λ_ z=>(nomatch z),λ_=>rfl⟩
 |j::ks,_,_,.cons a b=>by
  by_cases h:j=k
  .refine⟨λt z=>?_,λz=>?_⟩
   .unfold qd at z;rw[ZY h]at z;cases z;exact⟨_,Qz h,a⟩
   .unfold qd at z;rw[ZY h]at z;cases z
  .obtain⟨i1,i2⟩:=Dl (k:=k) (ks:=ks) b;refine⟨λt z=>?_,λz=>?_⟩
   .unfold qd at z;rw[ZZ h]at z;obtain⟨x,e,r⟩:=i1 t z;exact⟨x,(HB h).trans e,r⟩
   .unfold qd at z;rw[ZZ h]at z;exact(HB h).trans (i2 z)
def ajq:T->T->(OT->Prop)->Prop
 |.dct ks ts,u,q=>∃k t,Xh u=some k/\qd ks ts k=some t/\q (.fz t)
 |_,_,_=>False
theorem Lk(hu:X.A.units+1<cLine)(ha:QE X a ra)(hb:QE X b rb)(hs:afn b:=by exact λ_ _=>rfl):QE X (.Subscript a b pos) (rOp ajq ra rb):=(adq hu ha hb hs).imp λσ H Q ⟨own,o,R,h,hr,k⟩=>tQ.mk h hr λH1 v x q E1 r1=>tQ.mk (h.same E1) q λH2 w y q E2 r2=>by
 have r1:=r1.same (bU E2)
 revert r1 q
 generalize frz x=t;intro q r1;cases t<;>try exact q.elim
 obtain⟨d,xs,rfl,e,l,r⟩:=r1.dctI;obtain⟨j,t,e1,e2,q⟩:=q;obtain⟨z,e3,r3⟩:=(Dl r).1 t e2;cases Nv r2 e1;exact⟨d,z,rfl,.inl ⟨_,_,dU.rd e,rfl,e3.symm⟩,k H2 _ _ q (E1.trans E2) (NR.fz r3)⟩
def aeg(neg:Bool):T->T->(OT->Prop)->Prop
 |u,.dct ks ts,q=>∃k,Xh u=some k/\q (.fz (.bl (xr neg (qd ks ts k).isSome)))
 |_,_,_=>False
theorem Yp{neg:Bool}{σ:L2.St}{H:Hp}{Q:VK}(h:tQ X.K (rOp (aeg neg) ra rb) σ H Q):(tQ X.K ra) σ H λy H1=>(tQ X.K rb) σ H1 λx H2=>∃a o,x=.ref a/\DR H2 a y o/\Q (.bl (xr neg o.isSome)) H2:=by
 obtain⟨own,o,R,h,hr,k⟩:=h;refine tQ.mk h hr λH1 v x q E1 r1=>tQ.mk (h.same E1) q λH2 w y q E2 r2=>?_;have r1:=r1.same (bU E2)
 revert r2 q
 generalize frz y=t;intro q r2;cases t with
 |dct ks ts =>
  obtain⟨d,xs,rfl,e,l,r⟩:=r2.dctI;obtain⟨j,e1,q⟩:=q;cases Nv r1 e1;refine⟨d,_,rfl,.inl ⟨_,_,dU.rd e,rfl,rfl⟩,?_⟩;have:(Hy (ks.zip xs) j).isSome=(qd ks ts j).isSome:=by
   cases z:qd ks ts j with
   |none=>rw[(Dl r).2 z];rfl
   |some t=>obtain⟨x,e,_⟩:=(Dl r).1 t z;rw[e];rfl
  rw[this];exact k H2 _ _ q (E1.trans E2) (NR.fz (.bl _))
 |_=>cases frz x<;>exact q.elim
theorem adK{r:RE}{tt:TE}(i:∀σ H Q,tQ X.K r σ H Q->tt σ H Q){σ:L2.St}{H:Hp}{Q:Bool->Hp->Prop}(h:tQT X.K (rB r) σ H Q):tB tt σ H Q:=by
 obtain⟨own,o,R,h,hr,k⟩:=h;refine i σ H _ (tQ.mk h hr λH1 v x q E1 r1=>?_)
 revert r1 q
 generalize frz x=t;intro q r1;cases r1<;>try exact q.elim
 exact⟨_,rfl,k _ _ q E1⟩
theorem YW(hu:X.A.units+1<cLine)(ha:QE X a ra)(hb:QE X b rb)(h1:behindInMarks .In b=false:=by rfl):QT X (.Compare a [.In] [b] pos) (rB (rOp (aeg false) ra rb)):=(aaH (agl hu ha hb) h1).imp λ_ _ _=>adK λ_ _ _=>Yp (neg:=false)
theorem W7(hu:X.A.units+1<cLine)(ha:QE X a ra)(hb:QE X b rb)(h1:behindInMarks .NotIn b=false:=by rfl):QT X (.Compare a [.NotIn] [b] pos) (rB (rOp (aeg true) ra rb)):=(aaH (XD hu ha hb) h1).imp λ_ _ _=>adK λ_ _ _=>Yp (neg:=true)
def ahJ:RE:=λ_ q=>q (.d1 [] [])
theorem O4:QE X (.Dict [] [] pos) ahJ:=aaC.imp λσ H Q ⟨own,o,R,h,hr,k⟩ p hp=>k _ _ _ hr (Same.upd hp) ⟨[p],λa ha=>(YR.mp ha) ▸ hp,p,[],rfl,rfl,cM,rfl,.nil⟩
def anI(i:Nat)(a b:RE):RS:=λE o=>match slot o i with|.d1 ks ts=>a o λy=>b o λk=>∃j,Xh (frz k)=some j/\qd ks ts j=none/\ks.length<sizeLine/\ks.length=ts.length/\E.nx (o.set i (.d1 (ks++[j]) (ts++[frz y])))|_=>False
end
noncomputable def lkF{α:Type} : Φ->List α->Str->Option α
 |k::ks,t::ts,f=>if k=f then some t else lkF ks ts f
 |_,_,_=>none
noncomputable def IV:Φ->Str->Φ
 |[],f=>[f]
 |k::ks,f=>if k=f then k::ks else k::IV ks f
noncomputable def yI{α:Type} : Φ->List α->Str->α->List α
 |k::ks,t::ts,f,v=>if k=f then v::ts else t::yI ks ts f v
 |_,ts,_,v=>ts++[v]
theorem Z_{K:Frag}{F:Hp}{f:Str} : ∀{ks:Φ}{xs:Ζ}{ts:List T},bZ K F xs ts->(∀t,lkF ks ts f=some t->∃x,(ks.zip xs).lookup f=some x/\Rep K F x t)/\(lkF ks ts f=none->(ks.zip xs).lookup f=none)
 |[],_,_,_=>⟨λ_ z=>(nomatch z),λ_=>rfl⟩
 |_::_,_,_,.nil=>⟨λ_ z=>(nomatch z),λ_=>rfl⟩
 |j::ks,_,_,.cons a b=>by
  obtain⟨i1,i2⟩:=Z_ (f:=f) (ks:=ks) b;by_cases h:j=f
  .refine⟨λt z=>?_,λz=>?_⟩
   .unfold lkF at z;rw[ZY h]at z;cases z;exact⟨_,by rw[List.zip_cons_cons,List.lookup_cons,h,beq_self_eq_true],a⟩
   .unfold lkF at z;rw[ZY h]at z;cases z
  .have e:∀x(r:List (Str×V)),((j,x)::r).lookup f=r.lookup f:=λx r=>by rw[List.lookup_cons,beq_false_of_ne (Ne.symm h)]
   refine⟨λt z=>?_,λz=>?_⟩
   .unfold lkF at z;rw[ZZ h]at z;obtain⟨x,e1,r⟩:=i1 t z;exact⟨x,(e _ _).trans e1,r⟩
   .unfold lkF at z;rw[ZZ h]at z;exact(e _ _).trans (i2 z)
theorem Qp{f:Str}{v:V} : ∀{ks:Φ}{xs:Ζ},ks.length=xs.length->uT f v (ks.zip xs)=(IV ks f).zip (yI ks xs f v)/\(IV ks f).length=(yI ks xs f v).length
 |[],[],_=>⟨rfl,rfl⟩
 |k::ks,x::xs,l=>by
  obtain⟨i1,i2⟩:=Qp (f:=f) (v:=v) (ks:=ks) (xs:=xs) (Nat.succ.inj l);show(if k=f then(k,v)::ks.zip xs else(k,x)::uT f v (ks.zip xs))=_/\_;unfold IV yI;by_cases h:k=f
  .rw[ZY h,ZY h,ZY h];exact⟨rfl,l⟩
  .rw[ZZ h,ZZ h,ZZ h,i1];exact⟨rfl,ZH (· + 1) i2⟩
 |[],_::_,l=>by cases l
 |_::_,[],l=>by cases l
theorem bZ.put{K:Frag}{F:Hp}{f:Str}{v:V}{t:T}(r:Rep K F v t):∀{ks:Φ}{xs:Ζ}{ts:List T},bZ K F xs ts->bZ K F (yI ks xs f v) (yI ks ts f t)
 |[],_,_,h=>h.app (.cons r .nil)
 |_::_,_,_,.nil=>.cons r .nil
 |k::ks,_,_,.cons a b=>by
  unfold yI;by_cases h:k=f
  .rw[ZY h,ZY h];exact .cons r b
  .rw[ZZ h,ZZ h];exact .cons a (bZ.put r b)
abbrev SI:=Addr->Φ->List T->List T->(Φ->List T->Prop)->Prop
def Slf(a dx b:Addr):Prop:=b=a\/b=dx
def spI(K:Frag)(S:SI):Sp:=λvs H Q _=>∃a dx C ks xs ts us as R,vs=.ref a::us/\H a=some (.ins C dx (ks.zip xs))/\H dx=some (.own a)/\ks.length=xs.length/\bZ K (hd (Slf a dx) H) xs ts/\bZ K (hd (Slf a dx) H) us as/\S C ks ts as R /\
 ∀H' dS eL eI,R dS eI->Same (hd (Slf a dx) H) (hd (Slf a dx) H')->H' a=some (.ins C dx (dS.zip eL))->H' dx=some (.own a)->dS.length=eL.length->bZ K (hd (Slf a dx) H') eL eI->Q .non H'
section
variable{P:Program}{w:World}{K:Frag}{mg:Str->Ω}{base:Heap}
def startI(n:Nat)(a dx C:Addr)(ks:Φ)(ts as:List T):List OT:=.ob a dx C ks ts::start' (n-1) as
noncomputable def akR(a dx:Addr):Nat->Ψ
 |0=>[a,dx]
 |_+1=>[]
theorem V0(a dx:Addr):Ow (akR a dx)=Slf a dx:=funext λb=>propext ⟨(λh=>by
  obtain⟨i,z⟩:=h;cases i with
  |zero =>
   rcases YU.mp z with z|z
   .exact .inl z
   .exact .inr (YR.mp z)
  |succ i=>cases z),λz=>⟨0,by show b∈[a,dx];rcases z with rfl|rfl<;>simp⟩⟩
theorem SR.startI{H:Hp}{a dx C:Addr}{ks:Φ}{xs:Ζ}{ts as:List T}{us:Ζ}(ha:H a=some (.ins C dx (ks.zip xs)))(bu:H dx=some (.own a))(l:ks.length=xs.length)(r:bZ K (hd (Slf a dx) H) xs ts)(r2:bZ K (hd (Slf a dx) H) us as)(N:Φ)(hN:us.length+1<=N.length) :
  SR K (akR a dx) H (L2.start N (.ref a::us)) (L2.startI N.length a dx C ks ts as):=by
 have eO:=V0 a dx;refine⟨?_,λi x e=>?_,λi hi b hb=>?_,λi j b e1 e2=>?_⟩
 .unfold L2.startI start' L2.start;have:=r2.len;simp only[List.length_cons,aA,ak,aN];lia
 .rw[eO];unfold L2.startI at e;cases i with
  |zero =>
   cases e;exact⟨xs,rfl,rfl,ha,bu,l,r⟩
  |succ i =>
   rw[List.getElem?_cons_succ]at e;show Slo K _ _ _ [] x;unfold start' at e;unfold L2.start;rw[List.map_cons,List.cons_append,List.getElem?_cons_succ];by_cases hi:i<as.length
   .rw[aF (by simpa using hi),aq,aj hi]at e;cases e;obtain⟨v,e1,r1⟩:=r2.at_ (aj hi);rw[aF (by rw[ak,r2.len];exact hi),aq,e1];exact⟨rfl,v,rfl,r1⟩
   .rw[aD (by simpa using hi),ak,X0]at e;by_cases hj:i-as.length<N.length-1-as.length
    .rw[ZY hj]at e;cases e;rfl
    .rw[ZZ hj]at e;cases e
 .unfold L2.startI at hi;cases i with
  |zero=>cases hi
  |succ i=>cases hb
 .cases i with
  |zero =>
   cases j with
   |zero=>rfl
   |succ j=>cases e2
  |succ i=>cases e1
theorem Fun.okI{x ai:Str}{st:Stmt}{f:Addr}{fd:FuncData}{N ps:Φ}{k:Nat}{S:SI}(F:Fun K x ai st f fd)(sc:bL N ps (bH st))(len:∀C ks ts as R,S C ks ts as R->as.length+1=ps.length)(hn:ps.length<=N.length)
 (ce:∀(ag:Value)(A:Around)(outer:List Env)(s:Shared)(H:Hp)(E:XK),fD k (A.deeper (envOfC ai (bH st) s.heap.objs.size f ag)) ->
   ∃r,QSs (Ov CX0 P w K mg base N ai (bH st) f ag A outer s H E).nox (fL st) r/\∀a dx C ks ts as R,S C ks ts as R->r { nx:=λo=>∃dS eI,slot o 0=.ob a dx C dS eI/\R dS eI,rt:=λ_=>False } (startI N.length a dx C ks ts as)):cj P w K mg base CX0 (k+1) f fd ps (spI K S):=by
 refine F.ok sc (λvs H Q E h=>?_) λag A outer s H vs Q E hr h=>?_
 .obtain⟨a,dx,C,ks,xs,ts,us,as,R,rfl,_,_,_,_,r2,hS,_⟩:=h;rw[List.length_cons,r2.len];exact len _ _ _ _ _ hS
 .obtain⟨a,dx,C,ks,xs,ts,us,as,R,rfl,ha,bu,l,r,r2,hS,q⟩:=h;obtain⟨rd,h1,h2⟩:=ce ag A outer s H E hr;have s0:=SR.startI ha bu l r r2 N (by rw[r2.len,len _ _ _ _ _ hS];exact hn);have eO:=V0 a dx;refine⟨_,h1,_,_,_,s0,h2 a dx C ks ts as R hS,⟨λown H' σ o rx E h=>?_,λ_ _ _ _ _ z=>z.elim,λ_ _ _ _ z=>z.elim,λ_ _ _ _ z=>z.elim⟩⟩;obtain⟨dS,eI,es,rx⟩:=rx;rw[eO]at E;obtain⟨u,_,eL,e1,e2,e3,e4,e5,e6⟩:=h.val es (by intro z;cases z);have sub:Same (hd (Ow own) H') (hd (Slf a dx) H'):=h_ (λb z=>.inl ⟨0,by rw[e2];rcases z with rfl|rfl<;>simp⟩) λ_ _ z=>z;exact q H' dS eL eI rx (E.trans sub) e3 e4 e5 (e6.same sub)
end
section
variable{X:Cx}{e:Expr}{es:List Expr}{re:RE}{r:RA}{f:Str}{pos am p:Pos}{Fm:Addr->Prop}
def ad5(Fm:Addr->Prop)(i:Nat)(f:Str):RE:=λo q=>match slot o i with|.ob _ _ C ks ts=>Fm C/\∃t,lkF ks ts f=some t/\q (.fz t)|_=>False
theorem adz(i:Nat){x:Str}(c:∀C,Fm C->Cls X.K C/\cA X.K C f)(hN:X.N[i]?=some x:=by rfl)(hv:rO X.env.scope x=true:=by rfl)(bu:(x==("__debug__":Str))=false:=by decide)(be:(x==("__classdict__":Str))=false:=by decide)(hb:attributeBase (.Name x p) f X.env (eval (.Name x p) X.env)=eval (.Name x p) X.env:=by rfl):QE X (.Attribute (.Name x p) f pos) (ad5 Fm i f):=(aao (pv i hN hv bu be) hb).imp λσ H Q hP=>by
 obtain⟨own,o,R,h,hr,k⟩:=hP;unfold ad5 at hr;cases es:slot o i with
 |ob a dx C ks ts =>
  rw[es]at hr;obtain⟨u,e1,xs,e2,e3,e4,e5,l,r⟩:=h.val es (by intro z;cases z);cases e2;obtain⟨hf,t,e6,q⟩:=hr;obtain⟨v,e7,r7⟩:=(Z_ r).1 t e6;exact⟨_,e1,a,C,dx,_,v,rfl,e4,(c C hf).1,(c C hf).2,e7,k H _ _ q (.refl _) (NR.fz r7)⟩
 |_=>rw[es]at hr;exact hr.elim
def ad6(Fm:Addr->Prop)(i:Nat)(f:Str)(a:RE):RS:=λE o=>match slot o i with|.ob b dx C ks ts=>a o λy=>(Fm C/\ks.length<1000)/\E.nx (o.set i (.ob b dx C (IV ks f) (yI ks ts f (frz y))))|_=>False
theorem qJ(i:Nat){x:Str}{ay:Pos}(c:∀C,Fm C->Cls X.K C/\cA X.K C f)(he:QE X e re)(hN:X.N[i]?=some x:=by rfl)(hv:rO X.env.scope x=true:=by rfl)(bu:(x==("__debug__":Str))=false:=by decide)(be:(x==("__classdict__":Str))=false:=by decide)(hs:swapsWith e (some (.Attribute (.Name x p) f ay)) pos.line X.env=pure false:=by rfl):QS X (.Assign [.Attribute (.Name x p) f ay] e pos) (ad6 Fm i f re):=(afI (pv i hN hv bu be) he hs).imp λD σ H hP=>by
 obtain⟨own,o,E,h,hr,L⟩:=hP;unfold ad6 at hr;cases es:slot o i with
 |ob a dx C ks ts =>
  rw[es]at hr;obtain⟨u,e1,xs,e2,e3,e4,e5,l,r⟩:=h.val es (by intro z;cases z);cases e2;refine tQ.mk h hr λH1 v y q E1 r1=>⟨_,e1,a,C,dx,_,rfl,E1 _ _ e4,(c C q.1.1).1,(c C q.1.1).2,by rw[VX,<- l,UV];exact q.1.2,?_⟩;obtain⟨pz,pl⟩:=Qp (f:=f) (v:=v) l;rw[pz];have gL:dx≠a:=ajr e5 e4 (by intro z;cases z);obtain⟨h',S⟩:=(h.same E1).chg (gw es (by intro z;cases z)) (y:=.ob a dx C (IV ks f) (yI ks ts f (frz y))) (H':=upd H1 a (.ins C dx ((IV ks f).zip (yI ks xs f v)))) (λb u hb e=>(cF λz=>hb (by rw[e3,z];simp)).trans e) (by
   rw[e1,Dg ⟨i,by rw[e3];simp⟩];exact⟨_,rfl,e3,cM,(cF gL).trans (E1 _ _ e5),pl,bZ.put r1 (r.same (bU E1))⟩)
  exact L.nx own _ σ _ q.2 ((bU E1).trans S) h'
 |_=>rw[es]at hr;exact hr.elim
def am0(Fm:Addr->Prop)(f:Str)(a:RE):RE:=λo q=>a o λx=>match frz x with|.ins C ks ts=>Fm C/\∃t,lkF ks ts f=some t/\q (.fz t)|_=>False
theorem pY(c:∀C,Fm C->Cls X.K C/\cA X.K C f)(he:QE X e re)(hb:attributeBase e f X.env (eval e X.env)=eval e X.env:=by rfl):QE X (.Attribute e f pos) (am0 Fm f re):=(aao he hb).imp λσ H Q ⟨own,o,R,h,hr,k⟩=>tQ.mk h hr λH1 v x q E1 r1=>by
 revert r1 q
 generalize frz x=t;intro q r1;cases t<;>try exact q.elim
 obtain⟨a,dx,xs,rfl,e,d,l,r⟩:=r1.insI;obtain⟨hf,t,e6,q⟩:=q;obtain⟨v,e7,r7⟩:=(Z_ r).1 t e6;exact⟨a,_,dx,_,v,rfl,(cU e).2,(c _ hf).1,(c _ hf).2,e7,k H1 _ _ q E1 (NR.fz r7)⟩
abbrev OkM(X:Cx)(k:Nat)(fa:Addr)(ps:Φ)(S:ST):Prop:=OkI X.prog X.w X.K X.mg X.base CX0 k fa ps (spT X.K S)
theorem OkI.hid{P:Program}{w:World}{K:Frag}{mg:Str->Ω}{base:Heap}{k:Nat}{fa:Addr}{ps:Φ}{sp:Sp}(G:OkI P w K mg base CX0 k fa ps sp):OkI P w K mg base CX0 k fa ps (spH sp):=by obtain⟨fd,F,b⟩:=G;exact⟨fd,F.hid,b⟩
theorem RP{S:ST}{H1:Hp}{σ:L2.St}{own:Nat->Ψ}{o:List OT}{R:OT->Prop}{Q:VK}{vs:Ζ}{ts:List T}{E:XK}(h1:SR X.K own H1 σ o)(r1:bZ X.K (hd (Ow own) H1) vs ts)(q:S ts R)(k:∀H' v x,R x->Same H1 H'->NR X.K (Ow own) H1 H' v x->Q v H'):spH (spT X.K S) vs H1 Q E:=by
 refine⟨Ow own,h1.hid,ts,R,r1,q,λG v x rx E n gone=>?_⟩;have EH:Same H1 (mrg (Ow own) H1 G):=λb u e=>by
  by_cases z:Ow own b
  .rw[vd z];exact e
  .rw[j7 z];exact E b u ((cR z).trans e)
 have EG:Same G (mrg (Ow own) H1 G):=λb u e=>by rw[j7 λz=>by rw[gone b z]at e;cases e];exact e
 refine k _ v x rx EH ?_;obtain⟨B,nb,s⟩:=n;have out:∀a∈B,¬Ow own a:=λa ha z=>(s.sole ha).ne (gone a z);refine⟨B,λa ha=>by have:=nb a ha;rwa[cR (out a ha)]at this,s.same (h_ (λb z=>?_) EG) EG⟩;rcases z with z|z
 .exact .inr (gone b z)
 .exact .inl (.inr z)
def adI(C:Addr)(KS:Φ)(S:ST)(a:RE)(r:RA):RE:=λo q=>a o λx=>match frz x with|.ins C' ks ts=>(C'=C/\ks=KS)/\r o λas=>S (.ins C' ks ts::as) q|_=>False
theorem NP{f:Str} : ∀{KS:Φ}{xs:Ζ},f∉KS->(KS.zip xs).lookup f=none
 |[],_,_=>rfl
 |_::_,[],_=>rfl
 |k::KS,x::xs,h=>by
  rw[List.zip_cons_cons,List.lookup_cons,beq_false_of_ne λ(z:f=k)=>h (by rw[z];exact aO ..)];exact NP λz=>h (aJ _ z)
theorem Ba{o:Expr}{ro:RE}{k:Nat}{fa C:Addr}{ps KS:Φ}{S:ST}{pl:Sem Bool}(he:QE X o ro)(c:Cls X.K C)(hm:Meth X.K C f fa)(G:OkM X k fa ps S)(hr:fD k X.A)(ha:QA X (e::es) r)(hk:f∉KS:=by decide +kernel)
 (b8:starEach (e::es) X.env=(false,eval e X.env)::starEach es X.env:=by rfl)(bg:(backTo pos (starEach es X.env)).any (·.1)=false:=by rfl)
 (ht:eval (.Call (.Attribute o f am) (e::es) [] pos) X.env=(do
   let ov <- eval o X.env
   standAt am.atName
   let(f,first) <- holding [ov] (getMethod ov f pl)
   callWith pos f first (backTo pos (starEach (e::es) X.env)) (backToKw pos (keywordEach [] X.env))):=by rfl) :
  QE X (.Call (.Attribute o f am) (e::es) [] pos) (adI C KS S ro r):=(Zm (pl:=pl) he c hm (OkI.hid G) hr ha b8 bg ht).imp λσ H Q ⟨own,o,R,h,hr,k⟩=>tQ.mk h hr λH1 v x q E1 r1=>by
 revert r1 q
 generalize frz x=t;intro q r1;cases t<;>try exact q.elim
 obtain⟨a,dx,xs,rfl,e,d,l,r⟩:=r1.insI;obtain⟨⟨rfl,rfl⟩,q⟩:=q;refine⟨a,dx,_,rfl,(cU e).2,NP hk,tQA.mk (h.same E1) q λH2 vs as q _ E2 r2=>?_⟩;exact RP ((h.same E1).same E2) (.cons (r1.same (bU E2)) r2) q λH' v x rx E n=>k H' v x rx (E1.trans (E2.trans E)) (n.back (E1.trans E2))
theorem CP{o:Expr}{ro:RE}{k:Nat}{fa C:Addr}{ps KS:Φ}{S:ST}{pl:Sem Bool}(he:QE X o ro)(c:Cls X.K C)(hm:Meth X.K C f fa)(G:OkM X k fa ps S)(hr:fD k X.A)(hk:f∉KS:=by decide +kernel)
 (ht:eval (.Call (.Attribute o f am) [] [] pos) X.env=(do
   let ov <- eval o X.env
   standAt am.atName
   let(f,first) <- holding [ov] (getMethod ov f pl)
   callWith pos f first (backTo pos (starEach [] X.env)) (backToKw pos (keywordEach [] X.env))):=by rfl) :
  QE X (.Call (.Attribute o f am) [] [] pos) (adI C KS S ro ad8):=(WQ (pl:=pl) he c hm (OkI.hid G) hr ht).imp λσ H Q ⟨own,o,R,h,hr,k⟩=>tQ.mk h hr λH1 v x q E1 r1=>by
 revert r1 q
 generalize frz x=t;intro q r1;cases t<;>try exact q.elim
 obtain⟨a,dx,xs,rfl,e,d,l,r⟩:=r1.insI;obtain⟨⟨rfl,rfl⟩,q⟩:=q;refine⟨a,dx,_,rfl,(cU e).2,NP hk,?_⟩;exact RP (E:=E0) (h.same E1) (.cons r1 .nil) q λH' v x rx E n=>k H' v x rx (E1.trans E) (n.back E1)
def ahD(C:Addr)(S:SI)(r:RA):RE:=λo q=>r o λas=>S C [] [] as λks ts=>q (.fz (.ins C ks ts))
theorem Bs{x:Str}{k:Nat}{fa C:Addr}{ps:Φ}{S:SI}(M:Mk X.K C fa)(G:OkI X.prog X.w X.K X.mg X.base CX0 k fa ps (spI X.K S))(hr:fD (k+1) X.A)(hg:Gl X x)(hm:X.mg x=some (.ref C))(ha:QA X (e::es) r)(cc:(x==("__debug__":Str))=false:=by decide)
 (he:starEach (e::es) X.env=(false,eval e X.env)::starEach es X.env:=by rfl)(bg:(backTo pos (starEach es X.env)).any (·.1)=false:=by rfl):QE X (.Call (.Name x p) (e::es) [] pos) (ahD C S r):=(aam M (OkI.hid G) hr hg hm ha cc he bg).imp λσ H Q ⟨own,o,R,h,hr,k⟩=>tQA.mk h hr λH1 vs as q _ E1 r1 a dx na nd ne=>by
 have h1:=h.same E1;have E2:Same H1 (upd (upd H1 dx (.own a)) a (.ins C dx [])):=(Same.upd nd).trans (Same.upd ((cF (Ne.symm ne)).trans na));have h2:=h1.same E2;have oa:¬Ow own a:=λz=>(h1.sole z).ne na;have od:¬Ow own dx:=λz=>(h1.sole z).ne nd;refine⟨Ow own,h2.hid,a,dx,C,[],[],[],vs,as,_,rfl,(cR oa).trans cM,(cR od).trans ((cF ne).trans cM),rfl,.nil,r1.same (λb u e=>?_),q,λG dS eL eI rx E ea ed l r gone=>⟨rfl,?_⟩⟩
 .obtain⟨n,e⟩:=cU e;have n2:¬Slf a dx b:=λz=>by rcases z with rfl|rfl<;>rw[e]at *<;>contradiction
  rw[cR n2,cR n];exact E2 _ _ e
 .have EG:Same G (mrg (Ow own) (upd (upd H1 dx (.own a)) a (.ins C dx [])) G):=λb u e=>by rw[j7 λz=>by rw[gone b z]at e;cases e];exact e
  refine k _ _ _ rx (E1.trans λb u e=>?_) (NR.fz (.ins (dx:=dx) (ks:=dS) (xs:=eL) ?_ ?_ l (r.same λb u e=>?_)))
  .by_cases z:Ow own b
   .rw[vd z];exact E2 _ _ e
   .have n2:¬Slf a dx b:=λz=>by rcases z with rfl|rfl<;>rw[e]at *<;>contradiction
    exact EG _ _ (cU (E b u ((cR n2).trans ((cR z).trans (E2 _ _ e))))).2
  .rw[cR oa];exact EG _ _ ea
  .rw[cR od];exact EG _ _ ed
  .have e':=(cU e).2;rw[cR λz=>by rw[gone b z]at e';cases e'];exact EG _ _ e'
def ad1(i:Nat)(S:SI)(r:RA):RS:=λE o=>match slot o i with|.ob a dx C ks ts=>r o λas=>S C ks ts as λdS eI=>E.nx (o.set i (.ob a dx C dS eI))|_=>False
theorem Gy(i:Nat){x y m:Str}{p2 af:Pos}{k:Nat}{fa B:Addr}{ps:Φ}{S:SI}{pl:Sem Bool}(c:Er X.K B m fa)(G:OkI X.prog X.w X.K X.mg X.base CX0 k fa ps (spI X.K S))(hr:fD k X.A)(hg:Gl X x)(hm:X.mg x=some (.ref B))(ha:QA X es r)
 (hN:X.N[i]?=some y:=by rfl)(hv:rO X.env.scope y=true:=by rfl)(bu:(y==("__debug__":Str))=false:=by decide)(be:(y==("__classdict__":Str))=false:=by decide)(cc:(x==("__debug__":Str))=false:=by decide)
 (b8:starEach (.Name y p2::es) X.env=(false,eval (.Name y p2) X.env)::starEach es X.env:=by rfl)(bg:(backTo af (starEach es X.env)).any (·.1)=false:=by rfl)
 (ht:eval (.Call (.Attribute (.Name x p) m am) (.Name y p2::es) [] af) X.env=(do
   let ov <- eval (.Name x p) X.env
   standAt am.atName
   let(f,first) <- holding [ov] (getMethod ov m pl)
   callWith af f first (backTo af (starEach (.Name y p2::es) X.env)) (backToKw af (keywordEach [] X.env))):=by rfl)
 (hs:swapsWith (.Call (.Attribute (.Name x p) m am) (.Name y p2::es) [] af) none pos.line X.env=pure false:=by rfl) :
  QS X (.Expr (.Call (.Attribute (.Name x p) m am) (.Name y p2::es) [] af) pos) (ad1 i S r):=(xO (Z1 (pl:=pl) c (OkI.hid G) hr hg hm (oF (pv i hN hv bu be) ha b8) cc b8 bg ht) hs).imp λD σ H hP=>by
 obtain⟨own,o,E,h,hr,L⟩:=hP;unfold ad1 at hr;cases es:slot o i with
 |ob a dx C ks ts =>
  rw[es]at hr;obtain⟨u,e1,xs,e2,e3,e4,e5,l,r⟩:=h.val es (by intro z;cases z);cases e2;refine⟨_,e1,tQA.mk h hr λH1 vs as q _ E1 r1=>?_⟩;have h1:=h.same E1;have sub:∀b,Slf a dx b->b∈own i:=λb z=>by rw[e3];rcases z with rfl|rfl<;>simp
  have bus:∀b,b∈own i->Slf a dx b:=λb z=>by
   rw[e3]at z;rcases YU.mp z with z|z
   .exact .inl z
   .exact .inr (YR.mp z)
  have hid:Hid H1 (λb=>Ow own b/\¬Slf a dx b):=⟨λb z=>h1.sole z.1,λb C d f ⟨⟨j,z⟩,n⟩ e=>⟨⟨j,(h1.mate z).1 C d f e⟩,λy=>n (bus b ((h1.dis j i d ((h1.mate z).1 C d f e) (sub d y)) ▸ z))⟩,λb x ⟨⟨j,z⟩,n⟩ e=>⟨⟨j,(h1.mate z).2 x e⟩,λy=>n (bus b ((h1.dis j i x ((h1.mate z).2 x e) (sub x y)) ▸ z))⟩⟩;have eqF:∀H':Hp,hd (Slf a dx) (hd (λb=>Ow own b/\¬Slf a dx b) H')=hd (Ow own) H':=λH'=>funext λb=>by
   by_cases z:Slf a dx b
   .rw[pP z,pP ⟨i,sub b z⟩]
   .rw[cR z];by_cases y:Ow own b
    .rw[pP (⟨y,z⟩ : Ow own b/\¬Slf a dx b),pP y]
    .rw[cR (λw=>y w.1),cR y]
  have na:¬(Ow own a/\¬Slf a dx a):=λz=>z.2 (.inl rfl);have nd:¬(Ow own dx/\¬Slf a dx dx):=λz=>z.2 (.inr rfl);refine⟨_,hid,a,dx,C,ks,xs,ts,vs,as,_,rfl,(cR na).trans (E1 _ _ e4),(cR nd).trans (E1 _ _ e5),l,by rw[eqF];exact r.same (bU E1),by rw[eqF];exact r1,q,λG dS eL eI rx EE ea ed l' r' gone=>?_⟩;rw[eqF]at EE;have c9:∀{b:Addr}{u:HO},G b=some u->mrg (λb=>Ow own b/\¬Slf a dx b) H1 G b=some u:=λ{b u}e=>(j7 λz=>by rw[gone b z]at e;cases e).trans e;obtain⟨h',S'⟩:=h1.chg (gw es (by intro z;cases z)) (y:=.ob a dx C dS eI) (H':=mrg (λb=>Ow own b/\¬Slf a dx b) H1 G) (λb u hb e=>by
   by_cases z:Ow own b
   .rw[vd ⟨z,λy=>hb (sub b y)⟩];exact e
   .exact c9 (cU (EE b u ((cR z).trans e))).2) (by
   rw[e1];refine⟨eL,rfl,e3,c9 ea,c9 ed,l',r'.same λb u e=>?_⟩;obtain⟨n1,e⟩:=cU e;rw[cR λz=>by rw[gone b ⟨z,n1⟩]at e;cases e];exact c9 e)
  exact L.nx own _ σ _ rx ((bU E1).trans S') h'
 |_=>rw[es]at hr;exact hr.elim
end
section
variable{X:Cx}{a b c e:Expr}{ra rb rc re:RE}{pos p:Pos}
theorem lW{x:Str}{A:Addr}{i j:Int}{pos:Pos}(hg:Gl X x)(hm:X.mg x=some (.ref A))(kt:∀H,SqT X.K H A [.int i,.int j])(hd:(x==("__debug__":Str))=false:=by decide):QE X (.Name x pos) (rC (.tup [.int i,.int j])):=qC (Zt hg hm hd) λF=>.tup (kt F) (.cons (.int _) (.cons (.int _) .nil))
theorem QE.any{Fm:Addr->Prop}{r:Addr->RE}(h:∀C,Fm C->QE X e (r C)):QE X e (λo q=>∃C,Fm C/\r C o q):=λaa s σ H Q I ⟨own,o,R,hs,⟨C,hC,hr⟩,k⟩=>h C hC aa s σ H Q I ⟨own,o,R,hs,hr,k⟩
theorem qM{tg iter a8:Expr}{aE:List Expr}{ri:RI}{g:T->List OT->(List OT->Prop)->Prop}{rc:RT}{scope:Scope}{i0:Nat}{y0:Str}{py b7:Pos}(sc:Scope)(N N' xs:Φ)(hi:QI X tg iter ri)(hg:∀{C s₀ H₀ ex pn},QG (X.compG N' scope xs C s₀ H₀ ex pn) xs.length tg g)(ht:∀{C s₀ H₀ ex pn},QTs (X.compG N' scope xs C s₀ H₀ ex pn) aE rc)(he:∀{C s₀ H₀ ex pn},QE (X.compG N' scope xs C s₀ H₀ ex pn) a8 re)(fx:PG X (.Name y0 py) (yR i0))
 (cx:X.env.scope=sc:=by rfl)(cS:X.N=N:=by rfl)(hc:X.calm=true:=by rfl)(hk:scope.kind=.function:=by rfl)(h:CK sc scope N N' xs:=by decide +kernel)(fm:swapsWith (.ListComp a8 [⟨tg,iter,aE,0⟩] scope pos) (some (.Name y0 py)) b7.line X.env=pure true:=by rfl)(hs:∀z,foldedSetIterable iter X.env z=pure z:=by intro _;rfl) :
  QS X (.Assign [.Name y0 py] (.ListComp a8 [⟨tg,iter,aE,0⟩] scope pos) b7) (ak5 i0 (W9 ri xs.length g rc re)):=(Z5 (gt:=tQG X.K xs.length g) (tc:=tQT X.K rc) (te:=tQ X.K re) sc N N' xs hi hg ht he fx cx cS hc hk h fm hs).imp λD σ H ⟨own,o,E,h,hr,L⟩=>Jf ⟨own,o,_,h,hr,λH' v y q S n=>by
 obtain⟨ah,h',S'⟩:=h.putA S (n.frz λb z=>(h.sole z).ne) i0;exact L.nx ah H' _ _ q S' h'⟩
def alZ(i j:Nat)(r:RA):RS:=λE o=>r o λts=>match ts with|[t,u]=>E.nx ((o.set i (.fz t)).set j (.fz u))|_=>False
theorem agi(i j:Nat){x y:Str}{r:RA}{px py pt:Pos}{kt k2 pt2}(hc:X.calm=true)(hN:X.N.Nodup)(hV:i≠j)(ha:QA X [a,b] r)(hi:X.N[i]?=some x:=by rfl)(hj:X.N[j]?=some y:=by rfl)
 (hx:X.env.scope.names.lookup x=some .local:=by rfl)(hy:X.env.scope.names.lookup y=some .local:=by rfl)
 (hw:swappedStores [.Tuple [.Name x px,.Name y py] kt pt] (.Tuple [a,b] k2 pt2) X.env=pure (some [x,y]):=by rfl)
 (hs:swapsWithSole [.Tuple [.Name x px,.Name y py] kt pt] (.Tuple [a,b] k2 pt2) pos.line X.env=pure false:=by rfl) :
  QS X (.Assign [.Tuple [.Name x px,.Name y py] kt pt] (.Tuple [a,b] k2 pt2) pos) (alZ i j r):=(agg hc hN hi hj hV hx hy ha hw hs).imp λD σ H ⟨own,o,E,h,hr,L⟩=>⟨own,o,_,h,hr,λH1 vs ts q _ E1 r1=>by
 match ts,q with
 |[t,u],q =>
  obtain⟨v,w,rfl,rv,kx⟩:=r1.two;refine⟨v,w,rfl,?_⟩;obtain⟨ah,h',go⟩:=(h.same E1).setF rv (X1 i);obtain⟨bS,h2,S2⟩:=h'.putA (.refl _) (NR.fz (kx.same go.same)) j;exact L.nx bS H1 _ _ q ((bU E1).trans (go.same.trans S2)) h2⟩
theorem ix2{α β:Type}{xs:List α}{ys:List β}{j:Int}{y:β}(l:xs.length=ys.length)(e:ixT ys j=some y):∃n x,ixN ys.length j=some n/\ys[n]?=some y/\xs[n]?=some x/\atI xs j=some x:=by
 rw[Tz]at e;unfold atI at e ⊢;rw[l];cases z:ixN ys.length j with
 |none=>rw[z]at e;cases e
 |some n =>
  rw[z]at e;have hn:n<xs.length:=l ▸ (ao.mp e).1;exact⟨n,xs[n],rfl,e,aj hn,aj hn⟩
theorem Ip{α:Type} : ∀{l:List α},l.Nodup->∀{i j:Nat}{x:α},l[i]?=some x->l[j]?=some x->i=j
 |[],_,_,_,_,e,_=>by cases e
 |y::l,nd,i,j,x,e1,e2=>by
  obtain⟨n1,n2⟩:=List.nodup_cons.mp nd;cases i with
  |zero =>
   cases j with
   |zero=>rfl
   |succ j=>cases e1;exact absurd (aC (by simpa using e2)) n1
  |succ i =>
   cases j with
   |zero=>cases e2;exact absurd (aC (by simpa using e1)) n1
   |succ j=>exact ZH (· + 1) (Ip n2 (by simpa using e1) (by simpa using e2))
theorem SR.l2{K:Frag}{own:Nat->Ψ}{H:Hp}{σ:L2.St}{o:List OT}(h:SR K own H σ o){i:Nat}{ar:List (List T)}(e:slot o i=.l2 ar):∃l bs,σ[i]?=some (some (.ref l))/\own i=l::bs/\(l::bs).Nodup/\H l=some (.lst (bs.map V.ref))/\bs.length=ar.length/\∀(i:Nat)b ts,bs[i]?=some b->ar[i]?=some ts->∃xs,H b=some (.lst xs)/\bZ K (hd (Ow own) H) xs ts:=by
 obtain⟨u,e1,l,bs,e2,e3,nd,e4,ln,r⟩:=h.val e (by intro z;cases z);cases e2;exact⟨l,bs,e1,e3,nd,e4,ln,r⟩
theorem SR.chg2{K:Frag}{own:Nat->Ψ}{H:Hp}{σ:L2.St}{o:List OT}(h:SR K own H σ o){i n:Nat}{ar:List (List T)}(e:slot o i=.l2 ar){l b:Addr}{bs:Ψ}{ys:Ζ}{us:List T}(eσ:σ[i]?=some (some (.ref l)))(eo:own i=l::bs)(nd:(l::bs).Nodup)(e4:H l=some (.lst (bs.map V.ref)))(ln:bs.length=ar.length)(r:∀(i:Nat)b ts,bs[i]?=some b->ar[i]?=some ts->∃xs,H b=some (.lst xs)/\bZ K (hd (Ow own) H) xs ts)(eb:bs[n]?=some b)(ry:bZ K (hd (Ow own) H) ys us) :
  SR K own (upd H b (.lst ys)) σ (o.set i (.l2 (ar.set n us)))/\Same (hd (Ow own) H) (hd (Ow own) (upd H b (.lst ys))):=by
 have bm:=aC eb;obtain⟨nl,jv⟩:=List.nodup_cons.mp nd;refine h.chg (gw e (by intro z;cases z)) (λc u hc e=>(cF λz=>hc (by rw[eo,z];exact aJ _ bm)).trans e) ?_;rw[eσ,Dg ⟨i,by rw[eo];exact aJ _ bm⟩];refine⟨l,bs,rfl,eo,nd,(cF λ(z:l=b)=>nl (by rw[z];exact bm)).trans e4,by rw[VS];exact ln,λk c ts e1 e2=>?_⟩;by_cases z:k=n
 .subst z;rw[eb]at e1;cases e1;rw[Tu (ln ▸ (ao.mp eb).1)]at e2;cases e2;exact⟨ys,cM,ry⟩
 .rw[UP (Ne.symm z)]at e2;obtain⟨xs,q,rx⟩:=r k c ts e1 e2;refine⟨xs,(cF λy=>?_).trans q,rx⟩;have h1:=(ao.mp e1).1;have h2:=(ao.mp eb).1;exact z (Ip jv e1 (by rw[eb,y]))
theorem T6{bs:Ψ}{j:Int}{c:Addr}(e:atI bs j=some c):atI (bs.map V.ref) j=some (.ref c):=by
 have:atI (bs.map V.ref) j=(atI bs j).map V.ref:=by unfold atI;rw[ak];cases ixN bs.length j<;>simp
 rw[this,e];rfl
def adH(i:Nat)(a b:RE):RE:=λo q=>match slot o i with
 |.l2 ar=>a o λx=>(match frz x with|.int j=>∃ts,ixT ar j=some ts/\b o λy=>(match frz y with|.int m=>∃t,ixT ts m=some t/\q (.fz t)|_=>False)|_=>False)
 |_=>False
theorem adn(i:Nat){x:Str}{p2:Pos}(ha:QE X a ra)(hb:QE X b rb)(hN:X.N[i]?=some x:=by rfl)(hv:rO X.env.scope x=true:=by rfl)(bu:(x==("__debug__":Str))=false:=by decide)
 (be:(x==("__classdict__":Str))=false:=by decide)(iF:ug a:=by exact λ_ _=>rfl)(hs:ug b:=by exact λ_ _=>rfl):QE X (.Subscript (.Subscript (.Name x p) a p2) b pos) (adH i ra rb):=(KD yj (KD yj (pv i hN hv bu be) ha iF) hb hs).imp λσ H Q hP=>by
 obtain⟨own,o,R,h,hr,k⟩:=hP;unfold adH at hr;cases es:slot o i with
 |l2 ar =>
  rw[es]at hr;obtain⟨l,bs,e1,e3,nd,e4,ln,r⟩:=h.l2 es;refine⟨_,e1,tQ.mk h hr λH1 v x q E1 r1=>?_⟩
  revert r1 q
  generalize frz x=t;intro q r1;cases t<;>try exact q.elim
  cases r1;obtain⟨ts,ej,q⟩:=q;obtain⟨n,c,_,et,ec,ei⟩:=ix2 (xs:=bs) ln ej;obtain⟨xs,eq,rx⟩:=r n c ts ec et;refine⟨l,bs.map V.ref,_,.ref c,rfl,rfl,.of (E1 _ _ e4),?_,tQ.mk (h.same E1) q λH2 w y q E2 r2=>?_⟩
  .exact T6 ei
  .revert r2 q
   generalize frz y=t;intro q r2;cases t<;>try exact q.elim
   cases r2;obtain⟨t,em,q⟩:=q;obtain⟨z,e7,r7⟩:=rx.ix em;have bP:=E1.trans E2;exact⟨c,xs,_,z,rfl,rfl,.of (bP _ _ eq),e7,k H2 _ _ q bP (NR.fz (r7.same (bU bP)))⟩
 |_=>rw[es]at hr;exact hr.elim
def adG(i:Nat)(a b:RE):RS:=λE o=>match slot o i with
 |.l2 ar=>a o λx=>(match frz x with|.int j=>∃n ts,ixN ar.length j=some n/\ar[n]?=some ts/\ts.length<sizeLine/\b o λy=>E.nx (o.set i (.l2 (ar.set n (ts++[frz y]))))|_=>False)
 |_=>False
theorem ix3{α β:Type}{xs:List α}{ys:List β}{j:Int}{n:Nat}{y:β}(l:xs.length=ys.length)(e:ixN ys.length j=some n)(ey:ys[n]?=some y):∃x,xs[n]?=some x/\atI xs j=some x:=by
 have hn:n<xs.length:=l ▸ (ao.mp ey).1;exact⟨xs[n],aj hn,by unfold atI;rw[l,e];exact aj hn⟩
theorem acB(i:Nat){x:Str}{am af p2:Pos}(ha:QE X a ra)(he:QE X e re)(hN:X.N[i]?=some x:=by rfl)(hv:rO X.env.scope x=true:=by rfl)(bu:(x==("__debug__":Str))=false:=by decide)(be:(x==("__classdict__":Str))=false:=by decide)(iF:ug a:=by exact λ_ _=>rfl)
 (hb:attributeBase (.Subscript (.Name x p) a p2) "append" X.env (eval (.Subscript (.Name x p) a p2) X.env)=eval (.Subscript (.Name x p) a p2) X.env:=by rfl)
 (hf:((backTo af (starEach [e] X.env)).all (λx=>!x.1)&&(backToKw af (keywordEach [] X.env)).all (λx=>x.1.isSome)&&decide ([e].length+([] : List Keyword).length+(if([] : List Keyword).isEmpty then 0 else 1)<30))=true:=by rfl)
 (hl:(am.endLine==af.line)=true:=by rfl)(b8:starEach [e] X.env=(false,eval e X.env)::starEach [] X.env:=by rfl)(hp:(backTo af (starEach [] X.env)).any (·.1)=false:=by rfl)
 (hs:swapsWith (.Call (.Attribute (.Subscript (.Name x p) a p2) "append" am) [e] [] af) none pos.line X.env=pure false:=by rfl) :
  QS X (.Expr (.Call (.Attribute (.Subscript (.Name x p) a p2) "append" am) [e] [] af) pos) (adG i ra re):=(xO (aak (KD yj (pv i hN hv bu be) ha iF) (oF he La b8) hb hf hl b8 hp) hs).imp λD σ H hP=>by
 obtain⟨own,o,E,h,hr,L⟩:=hP;unfold adG at hr;cases es:slot o i with
 |l2 ar =>
  rw[es]at hr;obtain⟨l,bs,e1,e3,nd,e4,ln,r⟩:=h.l2 es;refine⟨_,e1,tQ.mk h hr λH1 v x q E1 r1=>?_⟩
  revert r1 q
  generalize frz x=t;intro q r1;cases t<;>try exact q.elim
  cases r1;obtain⟨n,ts,en,et,sz,q⟩:=q;obtain⟨c,ec,ei⟩:=ix3 (xs:=bs) ln en et;obtain⟨xs,eq,rx⟩:=r n c ts ec et;refine⟨l,bs.map V.ref,_,.ref c,rfl,rfl,.of (E1 _ _ e4),T6 ei,c,xs,rfl,E1 _ _ eq,tQ.mk (h.same E1) q λH2 w y q E2 r2=>?_⟩;have bP:=E1.trans E2;refine⟨w,xs,rfl,bP _ _ eq,by rw[rx.len];exact sz,?_⟩;obtain⟨h',S⟩:=(h.same bP).chg2 es e1 e3 nd (bP _ _ e4) ln (λi b ts a c=>let⟨xs,p,q⟩:=r i b ts a c;⟨xs,bP _ _ p,q.same (bU bP)⟩) ec ((rx.same (bU bP)).app (.cons r2 .nil));exact L.nx own _ σ _ q ((bU bP).trans S) h'
 |_=>rw[es]at hr;exact hr.elim
def adY(i:Nat)(c a b:RE):RS:=λE o=>match slot o i with
 |.l2 ar=>c o λy=>a o λx=>(match frz x with|.int j=>∃n ts,ixN ar.length j=some n/\ar[n]?=some ts/\b o λz=>(match frz z with|.int m=>∃k,ixN ts.length m=some k/\E.nx (o.set i (.l2 (ar.set n (ts.set k (frz y)))))|_=>False)|_=>False)
 |_=>False
theorem acM(i:Nat){x:Str}{ay p2:Pos}(he:QE X e re)(ha:QE X a ra)(hk:QE X b rb)(hN:X.N[i]?=some x:=by rfl)(hv:rO X.env.scope x=true:=by rfl)(bu:(x==("__debug__":Str))=false:=by decide)(be:(x==("__classdict__":Str))=false:=by decide)(iF:ug a:=by exact λ_ _=>rfl)
 (hq:∀v,assign (.Subscript (.Subscript (.Name x p) a p2) b ay) X.env v=(do
   let ov <- holding [v] (eval (.Subscript (.Name x p) a p2) X.env)
   let iv <- holding [v,ov] (eval b X.env)
   standAt ay
   holding [v,ov,iv] (setItem ov iv v)
   release [v,ov,iv] []):=by intro _;rfl)
 (hs:swapsWithSole [.Subscript (.Subscript (.Name x p) a p2) b ay] e pos.line X.env=pure false:=by rfl)(hw:swappedStores [.Subscript (.Subscript (.Name x p) a p2) b ay] e X.env=pure none:=by rfl)
 (h1:(assignEach [.Subscript (.Subscript (.Name x p) a p2) b ay] X.env).map (·.2)=[assign (.Subscript (.Subscript (.Name x p) a p2) b ay) X.env]:=by rfl):QS X (.Assign [.Subscript (.Subscript (.Name x p) a p2) b ay] e pos) (adY i re ra rb):=(S6 he (Yy (KD yj (pv i hN hv bu be) ha iF) hk set_list hq) hs hw h1).imp λD σ H hP=>by
 obtain⟨own,o,E,h,hr,L⟩:=hP;unfold adY at hr;cases es:slot o i with
 |l2 ar =>
  rw[es]at hr;obtain⟨l,bs,e1,e3,nd,e4,ln,r⟩:=h.l2 es;refine tQ.mk h hr λH0 v0 y q E0' r0=>⟨_,e1,tQ.mk (h.same E0') q λH1 v x q E1 r1=>?_⟩
  revert r1 q
  generalize frz x=t;intro q r1;cases t<;>try exact q.elim
  cases r1;obtain⟨n,ts,en,et,q⟩:=q;obtain⟨c,ec,ei⟩:=ix3 (xs:=bs) ln en et;obtain⟨xs,eq,rx⟩:=r n c ts ec et;have E01:=E0'.trans E1;refine⟨l,bs.map V.ref,_,.ref c,rfl,rfl,.of (E01 _ _ e4),T6 ei,tQ.mk (h.same E01) q λH2 w z q E2 r2=>?_⟩
  revert r2 q
  generalize frz z=t;intro q r2;cases t<;>try exact q.elim
  cases r2;obtain⟨k,ek,q⟩:=q;have bP:=E01.trans E2;refine⟨c,xs,_,k,rfl,rfl,bP _ _ eq,by rw[rx.len];exact ek,?_⟩;obtain⟨h',S⟩:=(h.same bP).chg2 es e1 e3 nd (bP _ _ e4) ln (λi b ts a c=>let⟨xs,p,q⟩:=r i b ts a c;⟨xs,bP _ _ p,q.same (bU bP)⟩) ec (bZ.set (r0.same (bU (E1.trans E2))) k (rx.same (bU bP)));exact L.nx own _ σ _ q ((bU bP).trans S) h'
 |_=>rw[es]at hr;exact hr.elim
def alA:T->T->(OT->Prop)->Prop
 |.str i,.str j,q=>q (.fz (.bl (!decide (j.cps.toList<i.cps.toList))))
 |_,_,_=>False
theorem Zi:GO X (compareOp .LtE) alA:=aeQ.imp λx y H Q hP=>by
 obtain⟨S,t,u,R,_,hx,hy,hg,k⟩:=hP;cases hx<;>try exact hg.elim
 cases hy<;>try exact hg.elim
 exact⟨_,_,rfl,rfl,k H _ _ hg (.refl _) (NR.fz (.bl _))⟩
theorem abp:GC X (.builtin "len") (g1 ant):=.one Od λS t x H Q R rx hg k=>by
 cases t<;>try exact hg.elim
 cases rx;exact⟨_,rfl,hg.1,k H _ _ hg.2 (.refl _) (NR.fz (.int _))⟩
def anD(a:RE):RI:=λo q=>a o λx=>match frz x with|.str s=>q (s.cps.toList.map λc=>.str ⟨#[c]⟩)|_=>False
theorem aeh{tg:Expr}(he:QE X e re):QI X tg e (anD re):=(afK he).imp λσ H Q ⟨own,o,R,h,hr,k⟩=>tQ.mk h hr λH1 v x q E1 r1=>by
 revert r1 q
 generalize frz x=t;intro q r1;cases t<;>try exact q.elim
 cases r1;refine⟨_,rfl,k H1 _ _ q E1 λS H2 i _ SF=>⟨λhi=>show i=_ by simpa using hi,λt ht=>?_⟩⟩;rw[aq]at ht;cases z:(‹Str›.cps.toList)[i]? with
 |none=>rw[z]at ht;cases ht
 |some c =>
  rw[z]at ht;cases ht;refine⟨show i<_ by simpa using(ao.mp z).1,?_⟩;rintro x H3 ⟨rfl,c',e',rfl⟩;rw[<- Array.getElem?_toList,z]at e';cases e';exact⟨.refl _,.str _⟩
end
abbrev HG:=T->List OT->(List OT->Prop)->Prop
section
variable{α β:Type}{g:HG}{b:RS}{E:DT}{o:List OT}
theorem Wr(h:α->T)(l:List α)(J:List α->List OT->Prop)(st:∀as a bs o,l=as++a::bs->J as o->g (h a) o λo'=>b { E with nx:=J (as++[a]),ct:=J (as++[a]),bk:=E.nx } o')(br:∀o,J l o->E.nx o):∀(bs as:List α)(o:List OT),l=as++bs->J as o->uO g b E (bs.map h) o
 |[],as,o,e,j=>br o (by rw[List.append_nil]at e;rw[e];exact j)
 |a::bs,as,o,e,j=>⟨J (as++[a]),λo k=>Wr h l J st br bs (as++[a]) o (by rw[e];simp) k,st as a bs o e j⟩
theorem fV(h:α->T)(l:List α)(J:List α->List OT->Prop)(j:J [] o)(st:∀as a bs o,l=as++a::bs->J as o->g (h a) o λo'=>b { E with nx:=J (as++[a]),ct:=J (as++[a]),bk:=E.nx } o')(br:∀o,J l o->E.nx o):uO g b E (l.map h) o:=Wr h l J st br l [] o rfl j
theorem Bk(J:Nat->List OT->Prop):∀(xs:List T)(k:Nat){o:List OT},J k o->(∀i t o,xs[i]?=some t->J (k+i) o->g t o λo'=>b { E with nx:=J (k+i+1),ct:=J (k+i+1),bk:=E.nx } o')->(∀o,J (k+xs.length) o->E.nx o)->uO g b E xs o
 |[],_,o,j,_,br=>br o j
 |t::ts,k,o,j,st,br=>⟨J (k+1),λo z=>Bk J ts (k+1) z (λi t o e z=>by
   have:=st (i+1) t o (by simpa using e) (by rw[show k+(i+1)=k+1+i by lia];exact z);rw[show k+(i+1)+1=k+1+i+1 by lia]at this;exact this) (λo z=>br o (by rw[List.length_cons,show k+(ts.length+1)=k+1+ts.length by lia];exact z)),st 0 t o rfl j⟩
theorem jr{n:Nat}(J:Nat->List OT->Prop)(j:J 0 o)(st:∀k o,k<n->J k o->g (.int (k:Nat)) o λo'=>b { E with nx:=J (k+1),ct:=J (k+1),bk:=E.nx } o')(br:∀o,J n o->E.nx o):uO g b E (rng 0 n) o:=by
 refine Bk J (rng 0 n) 0 j (λi t o e z=>?_) λo z=>br o (by rw[rng,ak,WJ,Nat.zero_add]at z;exact z);unfold rng at e;rw[aq]at e;by_cases hi:i<n
 .rw[Up hi]at e;cases e;rw[Nat.zero_add]at z ⊢;have:=st i o hi z;show g (.int (0+((i:Nat):Int))) o _;rw[show(0:Int)+((i:Nat):Int)=((i:Nat):Int)by exact Int.zero_add _];exact this
 .rw[aM (by simpa using hi)]at e;cases e
theorem xV(h:α->T)(l:List α)(J:Nat->List OT->Prop)(j:J 0 o)(st:∀k a o,l[k]?=some a->J k o->g (.tup [.int (k:Nat),h a]) o λo'=>b { E with nx:=J (k+1),ct:=J (k+1),bk:=E.nx } o')(br:∀o,J l.length o->E.nx o):uO g b E (yO (l.map h)) o:=by
 refine Bk J (yO (l.map h)) 0 j (λi t o e z=>?_) λo z=>br o (by rw[yO,ak,List.length_zipIdx,ak,Nat.zero_add]at z;exact z);unfold yO at e;rw[aq]at e;by_cases hi:i<l.length
 .rw[aj (by simpa using hi),List.getElem_zipIdx,UU]at e;cases e;rw[Nat.zero_add]at z ⊢;have:=st i _ o (aj hi) z;exact this
 .rw[aM (by simpa using hi)]at e;cases e
variable{c:RT}{e:RE}{q:List T->Prop}
theorem comp_map(h:α->T)(f:α->T):∀(l:List α){q:List T->Prop},(∀a∈l,∀(N:T->Prop)(M:Prop),N (f a)->g (h a) o λo'=>c o' λb=>sw b (e o' λy=>N (frz y)) M)->q (l.map f)->jd g c e o (l.map h) q
 |[],_,_,k=>k
 |a::l,q,st,k=>⟨λy=>y=f a,False,λy z=>comp_map h f l (λa ha=>st a (aJ _ ha)) (z ▸ k),False.elim,st a (aO ..) (λy=>y=f a) False rfl⟩
theorem ni(h:α->T)(p:α->Bool)(f:α->T):∀(l:List α){q:List T->Prop},(∀a∈l,∀(N:T->Prop)(M:Prop),(p a=true->N (f a))->(p a=false->M)->g (h a) o λo'=>c o' λb=>sw b (e o' λy=>N (frz y)) M)->q ((l.filter p).map f)->jd g c e o (l.map h) q
 |[],_,_,k=>k
 |a::l,q,st,k=>⟨λy=>y=f a/\p a=true,p a=false,λy z=>ni h p f l (λa ha=>st a (aJ _ ha)) (by rw[Zxq z.2]at k;exact z.1 ▸ k),λz=>ni h p f l (λa ha=>st a (aJ _ ha)) (by rw[Zyr (by rw[z];decide)]at k;exact k),st a (aO ..) (λy=>y=f a/\p a=true) (p a=false) (λz=>⟨rfl,z⟩) id⟩
inductive aeb(R:α->T->Prop):List α->List T->Prop
 |nil:aeb R [] []
 |cons {a:α}{t:T}{l:List α}{ts:List T} : R a t->aeb R l ts->aeb R (a::l) (t::ts)
theorem Mh(f:Nat->T)(n:Nat)(st:∀k,k<n->∀(N:T->Prop)(M:Prop),N (f k)->g (.int (k:Nat)) o λo'=>c o' λb=>sw b (e o' λy=>N (frz y)) M)(k:q ((List.range n).map f)):jd g c e o (rng 0 n) q:=by
 refine comp_map (λk:Nat=>.int (0+k)) f (List.range n) (λa ha N M hN=>?_) k;have:=st a (List.mem_range.mp ha) N M hN;show g (.int (0+((a:Nat):Int))) o _;rw[show(0:Int)+((a:Nat):Int)=((a:Nat):Int)by exact Int.zero_add _];exact this
theorem zip_map{α β:Type}(h:α->T)(k:β->T)(xs:List α)(ys:List β):Dk (xs.map h) (ys.map k)=(xs.zip ys).map λp=>.tup [h p.1,k p.2]:=by
 unfold Dk;rw[List.zip_map,WP]
 rfl
theorem YS{α:Type}(h:α->T)(xs:List α):yO (xs.map h)=xs.zipIdx.map λp=>.tup [.int (p.2:Nat),h p.1]:=by
 unfold yO;rw[List.zipIdx_map,WP]
 rfl
end
noncomputable def M9(ks:List Key)(j:Key):Bool:=ks.any λk=>decide (k=j)
def kpK(ks:List Key)(j:Key):List Key:=if M9 ks j=true then ks else ks++[j]
def kpT{α:Type}(ks:List Key)(ts:List α)(j:Key)(t:α):List α:=if M9 ks j=true then ks.zipWith (λk x=>if k=j then t else x) ts else ts++[t]
theorem YH{j:Key}{v:V}{ks:List Key}{xs:Ζ}(l:ks.length=xs.length):putK (ks.zip xs) j v=(kpK ks j).zip (kpT ks xs j v)/\(kpK ks j).length=(kpT ks xs j v).length:=by
 have any:∀{ks:List Key}{xs:Ζ},ks.length=xs.length->((ks.zip xs).any λkv=>decide (kv.1=j))=M9 ks j:=λ{ks}=>by
  induction ks with
  |nil=>intro xs _;rfl
  |cons k ks ih =>
   intro xs l;cases xs with
   |nil=>cases l
   |cons x xs=>rw[List.zip_cons_cons,List.any_cons,ih (Nat.succ.inj l)];rfl
 unfold putK kpK kpT;rw[any l];by_cases h:M9 ks j=true
 .rw[ZY h,ZY h,ZY h];refine⟨?_,by rw[JS,l,UV]⟩
  clear any h
  induction ks generalizing xs with
  |nil=>rfl
  |cons k ks ih =>
   cases xs with
   |nil=>cases l
   |cons x xs =>
    rw[List.zip_cons_cons,List.map_cons,ih (Nat.succ.inj l),List.zipWith_cons_cons,List.zip_cons_cons];by_cases h:k=j
    .rw[ZY h,ZY h]
    .rw[ZZ h,ZZ h]
 .rw[ZZ h,ZZ h,ZZ h];exact⟨by rw[List.zip_append l];rfl,by simp[l]⟩
theorem bZ.kp{K:Frag}{F:Hp}{j:Key}{v:V}{t:T}(r:Rep K F v t){ks:List Key}{xs:Ζ}{ts:List T}(h:bZ K F xs ts):bZ K F (kpT ks xs j v) (kpT ks ts j t):=by
 unfold kpT;by_cases z:M9 ks j=true
 .rw[ZY z,ZY z]
  clear z
  induction ks generalizing xs ts with
  |nil=>exact .nil
  |cons k ks ih =>
   cases h with
   |nil=>exact .nil
   |cons a b =>
    rw[List.zipWith_cons_cons,List.zipWith_cons_cons];refine .cons ?_ (ih b);by_cases y:k=j
    .rw[ZY y,ZY y];exact r
    .rw[ZZ y,ZZ y];exact a
 .rw[ZZ z,ZZ z];exact h.app (.cons r .nil)
section
variable{X:Cx}{a b c e:Expr}{ra rb rc re:RE}{pos p:Pos}
def ad3(i:Nat)(a b:RE):RS:=λE o=>match slot o i with|.d1 ks ts=>a o λy=>b o λk=>∃j,Xh (frz k)=some j/\ks.length<sizeLine/\E.nx (o.set i (.d1 (kpK ks j) (kpT ks ts j (frz y))))|_=>False
theorem SR.d1{K:Frag}{own:Nat->Ψ}{H:Hp}{σ:L2.St}{o:List OT}(h:SR K own H σ o){i:Nat}{ks:List Key}{ts:List T}(e:slot o i=.d1 ks ts):∃l xs,σ[i]?=some (some (.ref l))/\own i=[l]/\H l=some (.dK (ks.zip xs))/\ks.length=xs.length/\bZ K (hd (Ow own) H) xs ts:=by
 obtain⟨u,e1,l,xs,e2,e3,e4,r⟩:=h.val e (by intro z;cases z);cases e2;exact⟨l,xs,e1,e3,e4,r⟩
theorem Oe(i:Nat){x:Str}{ay:Pos}(hu:X.A.units+1<cLine)(he:QE X e re)(hb:QE X b rb)(hN:X.N[i]?=some x:=by rfl)(hv:rO X.env.scope x=true:=by rfl)(bu:(x==("__debug__":Str))=false:=by decide)(be:(x==("__classdict__":Str))=false:=by decide)
 (hs:swapsWith e (some (.Subscript (.Name x p) b ay)) pos.line X.env=pure false:=by rfl):QS X (.Assign [.Subscript (.Name x p) b ay] e pos) (ad3 i re rb):=(adA hu (pv i hN hv bu be) hb he hs).imp λD σ H hP=>by
 obtain⟨own,o,E,h,hr,L⟩:=hP;unfold ad3 at hr;cases es:slot o i with
 |d1 ks ts =>
  rw[es]at hr;obtain⟨l,xs,e1,e3,e4,ln,r⟩:=h.d1 es;refine tQ.mk h hr λH1 v y q E1 r1=>⟨_,e1,tQ.mk (h.same E1) q λH2 w z q E2 r2=>?_⟩;obtain⟨j,ek,sz,q⟩:=q;have bP:=E1.trans E2;cases Nv r2 ek;obtain⟨pk,pl⟩:=YH (j:=j) (v:=v) ln;have lz:(ks.zip xs).length<sizeLine:=by rw[VX,<- ln,UV];exact sz
  refine⟨l,_,rfl,.inl ⟨_,j,bP _ _ e4,rfl,lz,rfl⟩,?_⟩;rw[pk];obtain⟨h',S⟩:=(h.same bP).chg (gw es (by intro z;cases z)) (y:=.d1 (kpK ks j) (kpT ks ts j (frz y))) (H':=upd H2 l (.dK ((kpK ks j).zip (kpT ks xs j v)))) (λb u hb e=>(cF λz=>hb (by rw[e3,z];simp)).trans e) (by
   rw[e1,Dg ⟨i,by rw[e3];simp⟩];exact⟨l,_,rfl,e3,cM,pl,bZ.kp (r1.same (bU E2)) (r.same (bU bP))⟩)
  exact L.nx own _ σ _ q ((bU bP).trans S) h'
 |_=>rw[es]at hr;exact hr.elim
def ad4(i:Nat)(a b:RE):RE:=λo q=>match slot o i with|.d1 ks ts=>a o λy=>b o λz=>∃j,Xh (frz y)=some j/\q (.fz ((qd ks ts j).getD (frz z)))|_=>False
theorem adw(i:Nat){x:Str}{am af:Pos}(hu:X.A.units+1<cLine)(ha:QE X a ra)(hb:QE X b rb)(m:M2 X (.Name x p) "get" am a b af:=by first|exact⟨rfl,rfl,rfl,rfl⟩|constructor<;>rfl)(hN:X.N[i]?=some x:=by rfl)(hv:rO X.env.scope x=true:=by rfl)(bu:(x==("__debug__":Str))=false:=by decide)(be:(x==("__classdict__":Str))=false:=by decide) :
  QE X (.Call (.Attribute (.Name x p) "get" am) [a,b] [] af) (ad4 i ra rb):=(aaB hu (pv i hN hv bu be) ha hb m).imp λσ H Q hP=>by
 obtain⟨own,o,R,h,hr,k⟩:=hP;unfold ad4 at hr;cases es:slot o i with
 |d1 ks ts =>
  rw[es]at hr;obtain⟨l,xs,e1,e3,e4,ln,r⟩:=h.d1 es;refine⟨_,e1,l,rfl,.inl ⟨_,.inl e4⟩,tQ.mk h hr λH1 v y q E1 r1=>tQ.mk (h.same E1) q λH2 w z q E2 r2=>?_⟩;obtain⟨j,ek,q⟩:=q;have bP:=E1.trans E2;cases Nv r1 ek;refine⟨_,DR.k (bP _ _ e4),?_⟩;have r:=r.same (bU bP);cases z1:qd ks ts j with
  |none =>
   rw[z1]at q;rw[(Dl r).2 z1];exact k H2 _ _ q bP (NR.fz r2)
  |some t =>
   rw[z1]at q;obtain⟨u,e5,r5⟩:=(Dl r).1 t z1;rw[e5];exact k H2 _ _ q bP (NR.fz r5)
 |_=>rw[es]at hr;exact hr.elim
noncomputable def kT:Key->T
 |.inl i=>.int i
 |.inr s=>.str s
def adW(i n:Nat)(g:T->List OT->(List OT->Prop)->Prop)(c:RT)(e:RE):RS:=λE o=>match slot o i with
 |.d1 ks ts=>ks.length<=sizeLine/\jd g c e (List.replicate n .und++o.set i (.fz (.dct ks ts))) (ks.map kT) λus=>E.rt (.l1 us)
 |_=>False
theorem acD{K:Frag}{a:Addr}{ob:Obj}{ks:List Key}{xs:Ζ}{F:Hp}(l:ks.length=xs.length)(e:F a=some (.frz ob (.dK (ks.zip xs)))):Wlk K (Itk a ob (ks.zip xs)) F (ks.map kT):=λS H i _ SF=>by
 have eH:=(cU (SF _ _ e)).2;have lz:(ks.zip xs).length=ks.length:=by rw[VX,<- l,UV]
 refine⟨λhi=>⟨eH,by rw[lz];simpa using hi⟩,λt ht=>?_⟩;rw[aq]at ht;cases z:ks[i]? with
 |none=>rw[z]at ht;cases ht
 |some k =>
  rw[z]at ht;cases ht;have hi:=(ao.mp z).1;refine⟨⟨eH,by rw[lz];exact hi⟩,?_⟩;rintro x H' ⟨rfl,k',y,e1,rfl⟩;rw[aj (by rw[lz];exact hi),Zys]at e1;rw[aj hi]at z;cases z;cases e1;refine⟨.refl _,?_⟩;cases ks[i]with
  |inl j=>exact .int _
  |inr s=>exact .str _
theorem ach{tg a8:Expr}{aE:List Expr}{g:T->List OT->(List OT->Prop)->Prop}{rc:RT}{scope:Scope}{x:Str}{af:Pos}(i:Nat)(sc:Scope)(N N' xs:Φ)(hg:∀{C s₀ H₀ ex pn},QG (X.compG N' scope xs C s₀ H₀ ex pn) xs.length tg g)(ht:∀{C s₀ H₀ ex pn},QTs (X.compG N' scope xs C s₀ H₀ ex pn) aE rc)(he:∀{C s₀ H₀ ex pn},QE (X.compG N' scope xs C s₀ H₀ ex pn) a8 re)
 (hN:X.N[i]?=some x:=by rfl)(hv:rO X.env.scope x=true:=by rfl)(bu:(x==("__debug__":Str))=false:=by decide)(be:(x==("__classdict__":Str))=false:=by decide)
 (cx:X.env.scope=sc:=by rfl)(cS:X.N=N:=by rfl)(hc:X.calm=true:=by rfl)(hk:scope.kind=.function:=by rfl)(h:CK sc scope N N' xs:=by decide +kernel)(hs:∀z,foldedSetIterable (.Name x p) X.env z=pure z:=by intro _;rfl) :
  QS X (.Return (some (.ListComp a8 [⟨tg,.Name x p,aE,0⟩] scope af)) pos) (adW i xs.length g rc re):=(S_ (YB (gt:=tQG X.K xs.length g) (tc:=tQT X.K rc) (te:=tQ X.K re) sc N N' xs (abm (tg:=tg) (pv i hN hv bu be)) hg ht he cx cS hc hk h hs)).imp λD σ H hP=>by
 obtain⟨own,o,E,h,hr,L⟩:=hP;unfold adW at hr;cases es:slot o i with
 |d1 ks ts =>
  rw[es]at hr;obtain⟨l,ys,e1,e3,e4,ln,r⟩:=h.d1 es;refine⟨_,e1,l,_,rfl,e4,λob DD nD=>?_⟩;have eo:∀b,Ow (own1 own i []) b->Ow own b/\b≠l:=λb hP=>by
   obtain⟨j,z⟩:=hP;by_cases y:j=i
   .rw[y,jh]at z;cases z
   .rw[fB y]at z;exact⟨⟨j,z⟩,λw=>y (h.dis j i b z (by rw[e3,w];simp))⟩
  have nl:¬Ow (own1 own i []) l:=λz=>(eo l z).2 rfl;have ol:Ow own l:=⟨i,by rw[e3];simp⟩;have S1:Same (hd (Ow own) H) (hd (Ow (own1 own i [])) (upd H l (.frz ob (.dK (ks.zip ys))))):=λb u e=>by
   obtain⟨n,e⟩:=cU e;rw[cR λz=>n (eo b z).1,cF λ(z:b=l)=>n (z.symm ▸ ol)];exact e
  have h1:SR X.K (own1 own i []) (upd H l (.frz ob (.dK (ks.zip ys)))) σ (o.set i (.fz (.dct ks ts))):=by
   have hi:i<o.length:=(ao.mp (gw es (by intro z;cases z))).1;refine⟨by rw[VS,h.len],λj y e'=>?_,λj hj a ha=>?_,λj k a z1 z2=>?_⟩
   .by_cases z:j=i
    .subst z;rw[Tu hi]at e';cases e';rw[jh,e1];exact⟨rfl,_,rfl,.dct (.inr ⟨ob,by rw[cR nl];exact cM⟩) ln (r.same S1)⟩
    .rw[UP (Ne.symm z)]at e';rw[fB z];exact((h.sl j y e').same S1 (.refl _)).off λb hb u e=>(cF λw=>z (h.dis j i b hb (by rw[e3,w];simp))).trans e
   .rw[VS]at hj;rw[fB (by lia)]at ha;obtain⟨xs,e⟩:=h.out j hj a ha;exact⟨xs,(cF λw=>by have:=h.dis j i a ha (by rw[e3,w];simp);lia).trans e⟩
   .by_cases z:j=i
    .rw[z,jh]at z1;cases z1
    by_cases y:k=i
    .rw[y,jh]at z2;cases z2
    .rw[fB z]at z1;rw[fB y]at z2;exact h.dis j k a z1 z2
  have L1:=L.step S1;refine RV h1 (acD ln (by rw[cR nl];exact cM)) (by simpa using hr.1) hr.2 nD λH' v y rx E n=>?_;obtain⟨B,nb,s⟩:=n;exact L1.rt _ H' v y B rx (h_ (λb z=>z.imp id (nb b)) E) s λa ha=>.inr ha
 |_=>rw[es]at hr;exact hr.elim
end
def afY(K:Frag)(as:Ψ)(H:Hp)(ar:List (List T)):Prop:=ar.length=as.length/\∀(j:Nat)a ts,as[j]?=some a->ar[j]?=some ts->∃xs,H a=some (.lst xs)/\bZ K (hd (· ∈ as) H) xs ts
abbrev SO:=List (List T)->List T->(List (List T)->Prop)->Prop
def spO(K:Frag)(S:SO):Sp:=λvs H Q _=>∃(as:Ψ)(ar:List (List T))(us:Ζ)(ts:List T)(R:List (List T)->Prop),vs=as.map V.ref++us/\as.Nodup/\afY K as H ar/\bZ K (hd (· ∈ as) H) us ts/\S ar ts R /\
 ∀H' a9,R a9->Same (hd (· ∈ as) H) (hd (· ∈ as) H')->afY K as H' a9->Q .non H'
noncomputable def ownL(as:Ψ)(i:Nat):Ψ:=match as[i]? with|some a=>[a]|none=>[]
theorem Gw{as:Ψ}{i:Nat}{b:Addr}(h:b∈ownL as i):as[i]?=some b:=by
 unfold ownL at h;cases e:as[i]? with
 |none=>rw[e]at h;cases h
 |some a=>rw[e]at h;cases YR.mp h;rfl
theorem VN{as:Ψ}{i:Nat}{b:Addr}(h:as[i]?=some b):ownL as i=[b]:=by unfold ownL;rw[h]
theorem Ow.ownL(as:Ψ):Ow (L2.ownL as)=(· ∈ as):=funext λb=>propext ⟨λ⟨i,z⟩=>aC (Gw z),λz=>by
 obtain⟨i,e⟩:=aV z;exact⟨i,by rw[VN e];simp⟩⟩
def startO(n:Nat)(as:Ψ)(ar:List (List T))(ts:List T):List OT:=List.zipWith OT.la as ar++start' (n-as.length) ts
section
variable{P:Program}{w:World}{K:Frag}{mg:Str->Ω}{base:Heap}
theorem SR.startO{H:Hp}{as:Ψ}{ar:List (List T)}{us:Ζ}{ts:List T}(nd:as.Nodup)(h:afY K as H ar)(r:bZ K (hd (· ∈ as) H) us ts)(N:Φ)(hN:as.length+us.length<=N.length):SR K (ownL as) H (L2.start N (as.map V.ref++us)) (L2.startO N.length as ar ts):=by
 have zl:(List.zipWith OT.la as ar).length=as.length:=by rw[JS,h.1,UV]
 refine⟨?_,λi x e=>?_,λi hi b hb=>?_,λi j b e1 e2=>Ip nd (Gw e1) (Gw e2)⟩
 .unfold L2.startO start' L2.start;have:=r.len;simp only[aA,ak,aN,zl];lia
 .rw[Ow.ownL];unfold L2.startO at e;unfold L2.start;by_cases hi:i<as.length
  .rw[aF (by rw[zl];exact hi),Zyq]at e;have ea:=aj hi;have et:=aj (l:=ar) (by rw[h.1];exact hi);rw[ea,et]at e;cases e;rw[VN ea,aF (by simp;exact WU _ hi),aq,aF (by simpa using hi),aq,ea];obtain⟨xs,q,rx⟩:=h.2 i _ _ ea et;exact⟨xs,rfl,rfl,q,rx⟩
  .have on:ownL as i=[]:=by unfold ownL;rw[aM (Nat.not_lt.mp hi)]
   rw[on];rw[aD (by rw[zl];exact Nat.not_lt.mp hi),zl]at e;unfold start' at e;by_cases hj:i-as.length<ts.length
   .rw[aF (by simpa using hj),aq,aj hj]at e;cases e;obtain⟨v,e1,r1⟩:=r.at_ (aj hj);have:=r.len;rw[aF (by simp;lia),aq,aD (by simpa using Nat.not_lt.mp hi),ak,e1];exact⟨rfl,v,rfl,r1⟩
   .rw[aD (by simpa using hj),ak,X0]at e;split at e
    .cases e;rfl
    .cases e
 .unfold L2.startO at hi;rw[aA,zl]at hi;have:=(ao.mp (Gw hb)).1;lia
theorem slot_of:∀{o:List OT}{i:Nat}{x:OT},o[i]?=some x->slot o i=x
 |[],_,_,e=>by cases e
 |_::_,0,_,e=>by cases e;rfl
 |_::l,i+1,x,e=>slot_of (o:=l) (by simpa using e)
theorem Fun.okO{x ai:Str}{st:Stmt}{f:Addr}{fd:FuncData}{N ps:Φ}{k:Nat}{S:SO}(F:Fun K x ai st f fd)(sc:bL N ps (bH st))(len:∀ar ts R,S ar ts R->ar.length+ts.length=ps.length)(hn:ps.length<=N.length)
 (ce:∀(ag:Value)(A:Around)(outer:List Env)(s:Shared)(H:Hp)(E:XK),fD k (A.deeper (envOfC ai (bH st) s.heap.objs.size f ag)) ->
   ∃r,QSs (Ov CX0 P w K mg base N ai (bH st) f ag A outer s H E).nox (fL st) r/\∀as ar ts R,ar.length=as.length->S ar ts R->r { nx:=λo=>∃a9,(∀j,slot o j=slot (List.zipWith OT.la as a9) j\/as.length<=j)/\a9.length=as.length/\R a9,rt:=λ_=>False } (startO N.length as ar ts)):cj P w K mg base CX0 (k+1) f fd ps (spO K S):=by
 refine F.ok sc (λvs H Q E h=>?_) λag A outer s H vs Q E hr h=>?_
 .obtain⟨as,ar,us,ts,R,rfl,_,l,r,hS,_⟩:=h;rw[aA,ak,<- l.1,r.len];exact len _ _ _ hS
 .obtain⟨as,ar,us,ts,R,rfl,nd,l,r,hS,q⟩:=h;obtain⟨rd,h1,h2⟩:=ce ag A outer s H E hr;have s0:=SR.startO nd l r N (by rw[<- l.1,r.len,len _ _ _ hS];exact hn);refine⟨_,h1,_,_,_,s0,h2 as ar ts R l.1 hS,⟨λown H' σ o rx E h=>?_,λ_ _ _ _ _ z=>z.elim,λ_ _ _ _ z=>z.elim,λ_ _ _ _ z=>z.elim⟩⟩;obtain⟨a9,es,tl,rx⟩:=rx;rw[Ow.ownL]at E;have de:∀(j:Nat)a t,as[j]?=some a->a9[j]?=some t->slot o j=.la a t:=λj a t e1 e2=>by
   rcases es j with z|z
   .rw[z];exact slot_of (by rw[Zyq,e1,e2])
   .exact absurd (ao.mp e1).1 (Nat.not_lt.mpr z)
  have sub:Same (hd (Ow own) H') (hd (· ∈ as) H'):=h_ (λb z=>.inl (by
   obtain⟨j,e⟩:=aV z;have lj:j<a9.length:=tl ▸ (ao.mp e).1;obtain⟨u,_,xs,_,e3,_⟩:=h.val (de j b _ e (aj lj)) (by intro z;cases z);exact⟨j,by rw[e3];simp⟩)) λ_ _ z=>z
  refine q H' a9 rx (E.trans sub) ⟨tl,λj a t e1 e2=>?_⟩;obtain⟨u,_,xs,_,_,e4,r4⟩:=h.val (de j a t e1 e2) (by intro z;cases z);exact⟨xs,e4,r4.same sub⟩
end
section
variable{X:Cx}{es:List Expr}{r:RA}{pos p p1 p2 af:Pos}
theorem aaK{K:Frag}{own:Nat->Ψ}{H:Hp}{σ:L2.St}{o:List OT}(h:SR K own H σ o){as:Ψ}(hs:∀a∈as,∃j,own j=[a]):Hid H (λb=>Ow own b/\b∉as)/\∀H':Hp,hd (· ∈ as) (hd (λb=>Ow own b/\b∉as) H')=hd (Ow own) H':=by
 have in1:∀{b x:Addr}{j:Nat},b∈own j->b∉as->x∈own j->x∉as:=λ{b x j}hb n hx z=>by
  obtain⟨k,ek⟩:=hs x z;have:=h.dis j k x hx (by rw[ek];simp);subst this;rw[ek]at hb hx;cases YR.mp hb;exact n z
 refine⟨⟨λb z=>h.sole z.1,λb C d f ⟨⟨j,z⟩,n⟩ e=>⟨⟨j,(h.mate z).1 C d f e⟩,in1 z n ((h.mate z).1 C d f e)⟩,λb x ⟨⟨j,z⟩,n⟩ e=>⟨⟨j,(h.mate z).2 x e⟩,in1 z n ((h.mate z).2 x e)⟩⟩,λH'=>funext λb=>?_⟩;by_cases z:b∈as
 .obtain⟨k,ek⟩:=hs b z;rw[pP z,pP ⟨k,by rw[ek];simp⟩]
 .rw[cR z];by_cases y:Ow own b
  .rw[pP (⟨y,z⟩ : Ow own b/\b∉as),pP y]
  .rw[cR (λw=>y w.1),cR y]
def anh(i:Nat)(S:SO)(r:RA):RS:=λE o=>onL (slot o i) λts c=>r o λas=>S [ts] as λar=>match ar with|[t]=>E.nx (o.set i (c t))|_=>False
theorem afg(i:Nat){x y:Str}{k:Nat}{ps:Φ}{S:SO}(G:OkF X.prog X.w X.K X.mg X.base k x ps (spO X.K S))(hr:fD k X.A)(hg:Gl X x)(ha:QA X es r)(hN:X.N[i]?=some y:=by rfl)(hv:rO X.env.scope y=true:=by rfl)(bu:(y==("__debug__":Str))=false:=by decide)(be:(y==("__classdict__":Str))=false:=by decide)(cc:(x==("__debug__":Str))=false:=by decide)
 (he:starEach (.Name y p1::es) X.env=(false,eval (.Name y p1) X.env)::starEach es X.env:=by rfl)(bg:(backTo af (starEach es X.env)).any (·.1)=false:=by rfl)(hs:swapsWith (.Call (.Name x p) (.Name y p1::es) [] af) none pos.line X.env=pure false:=by rfl):QS X (.Expr (.Call (.Name x p) (.Name y p1::es) [] af) pos) (anh i S r):=by
 obtain⟨f,fd,F,b,hm,kp⟩:=G;refine(xO (Hh (sp:=spH (spO X.K S)) ⟨f,fd,F.hid,b,hm,kp⟩ hr hg (oF (pv i hN hv bu be) ha he) cc he bg) hs).imp λD σ H hP=>?_;obtain⟨own,o,E,h,hr,L⟩:=hP;obtain⟨ts,c,hr,es⟩:=DG hr;obtain⟨l,xs,e1,e2,e3,r0,sl⟩:=h.l1 es;refine⟨_,e1,tQA.mk h hr λH1 vs as q _ E1 r1=>?_⟩;have h1:=h.same E1;obtain⟨hid,eqF⟩:=aaK h1 (as:=[l]) λa ha=>⟨i,by rw[YR.mp ha];exact e2⟩;have nl:¬(Ow own l/\l∉[l]):=λz=>z.2 (by simp);refine⟨_,hid,[l],[ts],vs,as,_,rfl,by simp,⟨rfl,λj a t ea et=>?_⟩,by rw[eqF];exact r1,q,λG a9 rx EE ls gone=>?_⟩
 .cases j with
  |zero=>cases ea;cases et;exact⟨xs,(cR nl).trans (E1 _ _ e3),by rw[eqF];exact r0.same (bU E1)⟩
  |succ j=>cases ea
 .match a9,rx,ls with
  |[t],rx,ls =>
   obtain⟨ys,ey,ry⟩:=ls.2 0 l t rfl rfl;rw[eqF]at EE;have c9:∀{b:Addr}{u:HO},G b=some u->mrg (λb=>Ow own b/\b∉[l]) H1 G b=some u:=λ{b u}e=>(j7 λz=>by rw[gone b z]at e;cases e).trans e;obtain⟨x,ex⟩:=Ig es;obtain⟨h',S'⟩:=h1.chg ex (y:=c t) (H':=mrg (λb=>Ow own b/\b∉[l]) H1 G) (λb u hb e=>by
    by_cases z:Ow own b
    .rw[vd ⟨z,λy=>hb (by rw[e2];exact y)⟩];exact e
    .exact c9 (cU (EE b u ((cR z).trans e))).2) (by
    rw[e1,e2];refine sl _ ys t (c9 ey) (ry.same λb u e=>?_);obtain⟨n1,e⟩:=cU e;rw[cR λz=>by rw[gone b ⟨z,n1⟩]at e;cases e];exact c9 e)
   exact L.nx own _ σ _ rx ((bU E1).trans S') h'
def alU(i j:Nat)(S:SO)(r:RA):RS:=λE o=>onL (slot o i) λts c=>onL (slot o j) λus d=>r o λas=>S [ts,us] as λar=>match ar with|[t,u]=>E.nx ((o.set i (c t)).set j (d u))|_=>False
theorem HJ(i j:Nat){x y z:Str}{k:Nat}{ps:Φ}{S:SO}(G:OkF X.prog X.w X.K X.mg X.base k x ps (spO X.K S))(hr:fD k X.A)(hg:Gl X x)(ha:QA X es r)(hV:i≠j:=by decide)(hN:X.N[i]?=some y:=by rfl)(hv:rO X.env.scope y=true:=by rfl)(bu:(y==("__debug__":Str))=false:=by decide)(be:(y==("__classdict__":Str))=false:=by decide)(hN2:X.N[j]?=some z:=by rfl)(kL:rO X.env.scope z=true:=by rfl)(lh:(z==("__debug__":Str))=false:=by decide)(lP:(z==("__classdict__":Str))=false:=by decide)(cc:(x==("__debug__":Str))=false:=by decide)
 (he:starEach (.Name y p1::.Name z p2::es) X.env=(false,eval (.Name y p1) X.env)::starEach (.Name z p2::es) X.env:=by rfl)(he2:starEach (.Name z p2::es) X.env=(false,eval (.Name z p2) X.env)::starEach es X.env:=by rfl)(bg:(backTo af (starEach (.Name z p2::es) X.env)).any (·.1)=false:=by rfl)(hs:swapsWith (.Call (.Name x p) (.Name y p1::.Name z p2::es) [] af) none pos.line X.env=pure false:=by rfl):QS X (.Expr (.Call (.Name x p) (.Name y p1::.Name z p2::es) [] af) pos) (alU i j S r):=by
 obtain⟨f,fd,F,b,hm,kp⟩:=G;refine(xO (Hh (sp:=spH (spO X.K S)) ⟨f,fd,F.hid,b,hm,kp⟩ hr hg (oF (pv i hN hv bu be) (oF (pv j hN2 kL lh lP) ha he2) he) cc he bg) hs).imp λD σ H hP=>?_;obtain⟨own,o,E,h,hr,L⟩:=hP;obtain⟨ts,c,hr,es⟩:=DG hr;obtain⟨us,d,hr,es2⟩:=DG hr;obtain⟨l,xs,e1,e2,e3,r0,sl⟩:=h.l1 es;obtain⟨m,zs,f1,f2,f3,s0,sl2⟩:=h.l1 es2;have lm:l≠m:=λz=>hV (h.dis i j l (by rw[e2];simp) (by rw[f2,z];simp));refine⟨_,e1,_,f1,tQA.mk h hr λH1 vs as q _ E1 r1=>?_⟩;have h1:=h.same E1;obtain⟨hid,eqF⟩:=aaK h1 (as:=[l,m]) λa ha=>by
  rcases YU.mp ha with z|z
  .exact⟨i,by rw[z];exact e2⟩
  .exact⟨j,by rw[YR.mp z];exact f2⟩
 have nl:¬(Ow own l/\l∉[l,m]):=λz=>z.2 (by simp);have nm:¬(Ow own m/\m∉[l,m]):=λz=>z.2 (by simp);refine⟨_,hid,[l,m],[ts,us],vs,as,_,rfl,by simp[lm],⟨rfl,λj a t ea et=>?_⟩,by rw[eqF];exact r1,q,λG a9 rx EE ls gone=>?_⟩
 .match j,ea,et with
  |0,ea,et=>cases ea;cases et;exact⟨xs,(cR nl).trans (E1 _ _ e3),by rw[eqF];exact r0.same (bU E1)⟩
  |1,ea,et=>cases ea;cases et;exact⟨zs,(cR nm).trans (E1 _ _ f3),by rw[eqF];exact s0.same (bU E1)⟩
  |j+2,ea,_=>cases ea
 .match a9,rx,ls with
  |[t,u],rx,ls =>
   obtain⟨ys,ey,ry⟩:=ls.2 0 l t rfl rfl;obtain⟨ws,ew,kx⟩:=ls.2 1 m u rfl rfl;rw[eqF]at EE;have c9:∀{b:Addr}{u:HO},G b=some u->mrg (λb=>Ow own b/\b∉[l,m]) H1 G b=some u:=λ{b u}e=>(j7 λz=>by rw[gone b z]at e;cases e).trans e;generalize hM:mrg (λb=>Ow own b/\b∉[l,m]) H1 G=M at c9;have keep:∀b u,b≠l->b≠m->H1 b=some u->M b=some u:=λb u n1 n2 e=>by
    by_cases z:Ow own b
    .rw[<- hM,vd ⟨z,by simp[n1,n2]⟩];exact e
    .exact c9 (cU (EE b u ((cR z).trans e))).2
   have back:∀(M':Hp),(∀b,b≠m->M' b=M b)->Same (hd (· ∈ [l,m]) G) (hd (Ow own) M'):=λM' hM' b u e=>by
    obtain⟨n1,e⟩:=cU e;rw[cR (λz=>by rw[gone b ⟨z,n1⟩]at e;cases e),hM' b λz=>n1 (by simp[z])];exact c9 e
   obtain⟨x,ex⟩:=Ig es;obtain⟨x2,ex2⟩:=Ig es2;obtain⟨h2,S2⟩:=h1.chg ex (y:=c t) (H':=upd M m (.lst zs)) (λb u hb e=>by
    by_cases z:b=m
    .rw[z,cM];rw[z,E1 _ _ f3]at e;exact e
    .rw[cF z];exact keep b u (λy=>hb (by rw[e2,y];simp)) z e) (by
    rw[e1,e2];exact sl _ ys t ((cF lm).trans (c9 ey)) (ry.same (back _ λb n=>cF n)))
   obtain⟨h3,S3⟩:=h2.chg (show(o.set i (c t))[j]?=some x2 by rw[UP hV];exact ex2) (y:=d u) (H':=M) (λb w hb e=>by rw[cF λz=>hb (by rw[f2,z];simp)]at e;exact e) (by
    rw[f1,f2];exact sl2 _ ws u (c9 ew) (kx.same (back _ λ_ _=>rfl)))
   exact L.nx own _ σ _ rx ((bU E1).trans (S2.trans S3)) h3
end
def Ht(g:T->List OT->(List OT->Prop)->Prop)(c:RT)(e:RE)(o:List OT):List T->(List (List T)->Prop)->Prop
 |[],q=>q []
 |t::ts,q=>∃(N:List T->Prop)(M:Prop),(∀y,N y->Ht g c e o ts λus=>q (y::us))/\(M->Ht g c e o ts q)/\g t o λo'=>c o' λb=>sw b (e o' λy=>match y with|.l1 us=>N us|_=>False) M
def Zh(it:RI)(n:Nat)(g:T->List OT->(List OT->Prop)->Prop)(c:RT)(e:RE):RE:=λo q=>it o λxs=>xs.length<=sizeLine/\Ht g c e (List.replicate n .und++o) xs λus=>q (.l2 us)
noncomputable def ownL2(n L:Nat)(own:Nat->Ψ)(A:Ψ):Nat->Ψ:=λi=>if i<n then[]else if i<n+L then own (i-n)else if i=n+L then A else own (i-n-1)
theorem Ow.ownL2{n L:Nat}{own:Nat->Ψ}{A:Ψ}{b:Addr} : Ow (ownL2 n L own A) b↔Ow own b\/b∈A:=by
 constructor
 .rintro⟨i,z⟩;unfold L2.ownL2 at z;by_cases h1:i<n
  .rw[ZY h1]at z;cases z
  rw[ZZ h1]at z;by_cases h2:i<n+L
  .rw[ZY h2]at z;exact .inl ⟨_,z⟩
  rw[ZZ h2]at z;by_cases h3:i=n+L
  .rw[ZY h3]at z;exact .inr z
  .rw[ZZ h3]at z;exact .inl ⟨_,z⟩
 .rintro(⟨i,z⟩|z)
  .by_cases h:i<L
   .exact⟨n+i,by unfold L2.ownL2;rw[ZZ (Ts (X2 _ _)),ZY (Nat.add_lt_add_left h _),show n+i-n=i by exact JU _ _];exact z⟩
   .exact⟨n+i+1,by unfold L2.ownL2;rw[ZZ (by lia),ZZ (by lia),ZZ (by lia),show n+i+1-n-1=i by lia];exact z⟩
  .exact⟨n+L,by unfold L2.ownL2;rw[ZZ (Ts (X2 _ _)),ZZ (X9 _),ZY rfl];exact z⟩
theorem SR.blockL{K:Frag}{own:Nat->Ψ}{H:Hp}{σ:L2.St}{o:List OT}(h:SR K own H σ o){A:Ψ}{H':Hp}(E:Same H H')(nA:∀a∈A,H a=none)(eA:∀a∈A,∃ys,H' a=some (.lst ys))(pre:L2.St):SR K (ownL2 pre.length o.length own A) H' (pre++σ) (List.replicate pre.length .und++o):=by
 have le:Same (hd (Ow own) H) (hd (Ow (ownL2 pre.length o.length own A)) H'):=h_ (λb z=>(Ow.ownL2.mp z).imp id (nA b)) E;have fh:∀j,∀a∈A,a∉own j:=λj a ha z=>(h.sole ⟨j,z⟩).ne (nA a ha);refine⟨by simp[h.len],λi x e=>?_,λi hi a ha=>?_,λi j a e1 e2=>?_⟩
 .by_cases h1:i<pre.length
  .rw[aF (by simpa using h1),X0,ZY h1]at e;cases e;show ownL2 _ _ _ _ i=[];unfold ownL2;rw[ZY h1]
  .rw[aD (by simpa using h1),aN]at e;have h2:i-pre.length<o.length:=(ao.mp e).1;rw[aD (Nat.not_lt.mp h1)];have:ownL2 pre.length o.length own A i=own (i-pre.length):=by unfold ownL2;rw[ZZ h1,ZY (by omega)]
   rw[this];exact(h.sl _ x e).same le E
 .rw[aA,aN]at hi;unfold ownL2 at ha;rw[ZZ (by lia),ZZ (Ts hi)]at ha;by_cases h3:i=pre.length+o.length
  .rw[ZY h3]at ha;exact eA a ha
  .rw[ZZ h3]at ha;obtain⟨xs,e⟩:=h.out _ (by lia) a ha;exact⟨xs,E _ _ e⟩
 .unfold ownL2 at e1 e2;by_cases a1:i<pre.length
  .rw[ZY a1]at e1;cases e1
  by_cases b1:j<pre.length
  .rw[ZY b1]at e2;cases e2
  rw[ZZ a1]at e1;rw[ZZ b1]at e2;by_cases a2:i<pre.length+o.length<;>by_cases b2:j<pre.length+o.length
  .rw[ZY a2]at e1;rw[ZY b2]at e2;have:=h.dis _ _ a e1 e2;omega
  .rw[ZY a2]at e1;rw[ZZ b2]at e2;by_cases b3:j=pre.length+o.length
   .rw[ZY b3]at e2;exact absurd e1 (fh _ a e2)
   .rw[ZZ b3]at e2;have:=h.dis _ _ a e1 e2;omega
  .rw[ZZ a2]at e1;rw[ZY b2]at e2;by_cases a3:i=pre.length+o.length
   .rw[ZY a3]at e1;exact absurd e2 (fh _ a e1)
   .rw[ZZ a3]at e1;have:=h.dis _ _ a e1 e2;lia
  .rw[ZZ a2]at e1;rw[ZZ b2]at e2;by_cases a3:i=pre.length+o.length<;>by_cases b3:j=pre.length+o.length
   .exact Eq.trans a3 (Eq.symm b3)
   .rw[ZY a3]at e1;rw[ZZ b3]at e2;exact absurd e2 (fh _ a e1)
   .rw[ZZ a3]at e1;rw[ZY b3]at e2;exact absurd e1 (fh _ a e2)
   .rw[ZZ a3]at e1;rw[ZZ b3]at e2;have:=h.dis _ _ a e1 e2;lia
theorem Xa{K:Frag}{σ:L2.St}{Q:VK}{n:Nat}{g:T->List OT->(List OT->Prop)->Prop}{rc:RT}{re:RE}{own:Nat->Ψ}{o:List OT}{H1:Hp}{J:It}{xs:List T}{R:OT->Prop}{D:Addr}(h1:SR K own H1 σ o)(wk:Wlk K J (hd (Ow own) H1) xs)(lx:xs.length<=sizeLine)(q:Ht g rc re (List.replicate n .und++o) xs λus=>R (.l2 us))(nD:H1 D=none)(k:∀H' v x,R x->Same H1 H'->NR K (Ow own) H1 H' v x->Q v H') :
  ∃W:Nat->Nat->Ζ->Hp->Prop,(∃m,W 0 m [] (upd H1 D (.lst [])))/\∀i m ys Hc,W i m ys Hc ->
   (J.stop i Hc/\Q (.ref D) Hc)\/(J.go i Hc/\∀x H',J.yld i Hc x H'->∀pre:L2.St,pre.length=n->tMG (tQG K n g) x (pre++σ) H' λσ2 H2=>∃b5:L2.St,b5.length=n/\σ2=b5++σ/\tMT (tQT K rc) σ2 H2 λb H3 =>
    match b with
    |true=>tM (tQ K re) σ2 H3 λy H4=>ys.length<sizeLine/\H4 D=some (.lst ys)/\∃m',m'<m/\W (i+1) m' (ys++[y]) (upd H4 D (.lst (ys++[y])))
    |false=>∃m',m'<m/\W (i+1) m' ys H3):=by
 generalize hO:List.replicate n OT.und++o=ob at q;refine⟨λi m ys Hc=>∃(bs:Ψ)(ar:List (List T)),ys=bs.map V.ref/\Hc D=some (.lst ys)/\Same H1 Hc/\(D::bs).Nodup/\(∀b∈bs,H1 b=none)/\bs.length=ar.length/\(∀(i:Nat)b ts,bs[i]?=some b->ar[i]?=some ts->∃xs,Hc b=some (.lst xs)/\bZ K (hd (λb=>Ow own b\/b∈D::bs) Hc) xs ts)/\ys.length<=i/\i<=xs.length/\m=xs.length-i/\Ht g rc re ob (xs.drop i) λus=>R (.l2 (ar++us)),⟨_,[],[],rfl,cM,Same.upd nD,by simp,λ_ z=>(nomatch z),rfl,(λi b ts e=>by cases e),aG _,aZ _,rfl,q⟩,?_⟩;rintro i m ys Hc ⟨bs,ar,rfl,eD,Ec,nd,nb,bl,rs,il,ix,rfl,hl⟩;have nA:∀a∈D::bs,H1 a=none:=λa ha=>by
  rcases YU.mp ha with z|z
  .rw[z];exact nD
  .exact nb a z
 have eA:∀a∈D::bs,∃ys,Hc a=some (.lst ys):=λa ha=>by
  rcases YU.mp ha with z|z
  .exact⟨_,z ▸ eD⟩
  .obtain⟨j,e⟩:=aV z;have lj:=(ao.mp e).1;obtain⟨zs,e2,_⟩:=rs j a _ e (aj (aR lj (WG bl)));exact⟨zs,e2⟩
 have hn:∀b,Ow own b\/b∈D::bs->Hc b≠none:=λb z=>z.elim (λz=>((h1.same Ec).sole z).ne) λe z=>by obtain⟨ys,ey⟩:=eA b e;rw[ey]at z;cases z
 have SD:Same (hd (Ow own) H1) (hd (λb=>Ow own b\/b∈D::bs) Hc):=h_ (λb z=>z.imp id (nA b)) Ec;obtain⟨w1,w2⟩:=wk (λb=>Ow own b\/b∈D::bs) Hc i hn SD;by_cases hi:i<xs.length
 .right;obtain⟨go,yl⟩:=w2 _ (aj hi);rw[Zzv hi]at hl;obtain⟨N,M,hN,hM,hl⟩:=hl;refine⟨go,λx H2 y pre hp=>?_⟩;obtain⟨E2,rx⟩:=yl x H2 y;have eO:(λb=>Ow own b\/b∈D::bs)=Ow (ownL2 n o.length own (D::bs)):=funext λb=>propext Ow.ownL2.symm;have hb:SR K (ownL2 n o.length own (D::bs)) H2 (pre++σ) ob:=by
   have:=h1.blockL (Ec.trans E2) nA (λa ha=>let⟨ys,e⟩:=eA a ha;⟨ys,E2 _ _ e⟩) pre;rw[hp,hO]at this;exact this
  rw[eO]at rx rs;refine⟨_,⟨ownL2 n o.length own (D::bs),ob,_,_,hb,rx,hl,λeT σ3 o3 q3 gX h3=>?_⟩,λ_ _ z=>z⟩;obtain⟨b5,c8,rfl⟩:=QK hp gX;have e3:eT=ownL2 n o.length own (D::bs):=funext λj=>by
   rcases gX.1 j with e|⟨e1,e2⟩
   .exact e
   .rw[e2];unfold ownL2;rw[ZY e1]
  subst e3;refine⟨b5,c8,rfl,_,tQT.mk h3 q3 λH3 b q4 E3=>?_,λ_ _ z=>z⟩;have q4:sw b (re o3 λy=>match y with|.l1 us=>N us|_=>False) M:=q4;cases b with
  |false=>exact⟨xs.length-(i+1),by lia,bs,ar,rfl,E3 _ _ (E2 _ _ eD),Ec.trans (E2.trans E3),nd,nb,bl,λj b ts e1 e2=>by
    obtain⟨zs,ez,rz⟩:=rs j b ts e1 e2;rw[eO];exact⟨zs,E3 _ _ (E2 _ _ ez),rz.same (bU (E2.trans E3))⟩,by exact aL il (X2 _ _),by exact hi,rfl,hM q4⟩
  |true =>
   refine⟨_,⟨_,_,_,h3.same E3,q4,λH4 v y q5 E4 r4=>?_⟩,λ_ _ z=>z⟩
   match y,q5,r4 with
   |.l1 us,q5,r4 =>
    obtain⟨B,nB,p,zs,ev,rfl,ep,rp⟩:=r4;cases ev;have np:H3 p=none:=nB p (by simp);have pn:∀{a:Addr}{u:HO},H3 a=some u->a≠p:=λe z=>by rw[z,np]at e;cases e
    have E:Same Hc H3:=E2.trans E3;have pD:D≠p:=pn (E _ _ eD);have pb:p∉bs:=λz=>by
     obtain⟨ys,ey⟩:=eA p (aJ _ z);exact pn (E _ _ ey) rfl
    have inD:∀(H:Hp)(u:HO),hd (λb=>Ow own b\/b∈D::(bs++[p])) (upd H D u)=hd (λb=>Ow own b\/b∈D::(bs++[p])) H:=λH u=>Dg (S:=λb=>Ow own b\/b∈D::(bs++[p])) (.inr (by simp));refine⟨by lia,E4 _ _ (E _ _ eD),xs.length-(i+1),by lia,bs++[p],ar++[us],by rw[bf];rfl,cM,λb u e=>?_,?_,λb hb=>?_,by simp[bl],λj b ts e1 e2=>?_,by rw[aA,List.length_singleton];exact Nat.succ_le_succ il,by exact hi,rfl,?_⟩
    .rw[cF λz=>by rw[z,nD]at e;cases e];exact E4 _ _ (E _ _ (Ec _ _ e))
    .rw[<- List.cons_append];exact List.nodup_append.mpr ⟨nd,by simp,λa ha c hc z=>by
      rw[YR.mp hc]at z;rcases YU.mp ha with y|y
      .exact pD (y.symm.trans z)
      .exact pb (z ▸ y)⟩
    .rcases Y1.mp hb with z|z
     .exact nb b z
     .rw[YR.mp z];exact(Ec.trans E).free np
    .rw[inD];by_cases hj:j<bs.length
     .rw[aF hj]at e1;rw[aF (aR hj (WG bl))]at e2;obtain⟨zs,ez,rz⟩:=rs j b ts e1 e2;have bD:b≠D:=λz=>(List.nodup_cons.mp nd).1 (z ▸ aC e1);refine⟨zs,by rw[cF bD];exact E4 _ _ (E _ _ ez),rz.same ?_⟩;rw[<- eO];exact h_ (λc z=>by
       rcases z with z|z
       .exact .inl (.inl z)
       .rw[<- List.cons_append]at z;rcases Y1.mp z with y|y
        .exact .inl (.inr y)
        .rw[YR.mp y];exact .inr (E.free np)) (E.trans E4)
     .rw[aD (VU hj)]at e1;rw[aD (by lia)]at e2;have j0:j-bs.length=0:=by
       have:=(ao.mp e1).1;simp at this;omega
      rw[j0]at e1;rw[show j-ar.length=0 by lia]at e2;cases e1;cases e2;refine⟨_,by rw[cF (Ne.symm pD)];exact ep,rp.same (h_ (λc z=>.inl ?_) λ_ _ z=>z)⟩;rcases z with z|z
      .exact .inl (Ow.ownL2.mpr (.inl z))
      .rw[<- List.cons_append]at z;rcases Y1.mp z with y|y
       .exact .inl (Ow.ownL2.mpr (.inr y))
       .exact .inr y
    .have:=hN _ q5;simp only[WZ,List.singleton_append];exact this
 .left;have:i=xs.length:=by lia
  refine⟨w1 this,?_⟩;rw[TR (VU hi)]at hl;have hl:R (.l2 (ar++[])):=hl;rw[List.append_nil]at hl;exact k Hc _ _ hl Ec ⟨D::bs,nA,D,bs,rfl,rfl,nd,eD,bl,rs⟩
theorem Vh{K:Frag}{σ:L2.St}{H:Hp}{Q:VK}{ri:RI}{n:Nat}{g:T->List OT->(List OT->Prop)->Prop}{rc:RT}{re:RE}(h:tQ K (Zh ri n g rc re) σ H Q):q_ (tQI K ri) n (tMG (tQG K n g)) (tMT (tQT K rc)) (tM (tQ K re)) σ H Q:=by
 obtain⟨own,o,R,h,hr,k⟩:=h;exact⟨own,o,_,h,hr,λH1 J xs q E1 wk D nD=>Xa (h.same E1) wk q.1 q.2 nD λH' v x rx E n=>k H' v x rx (E1.trans E) (n.back E1)⟩
section
variable{X:Cx}{tg iter a8:Expr}{aE:List Expr}{ri:RI}{g:T->List OT->(List OT->Prop)->Prop}{rc:RT}{re:RE}{scope:Scope}{pos:Pos}
theorem aap(sc:Scope)(N N':Φ)(x0:Str)(hi:QI X tg iter ri)(hg:∀{C s₀ H₀ ex pn},QG (X.compGC N' scope x0 C s₀ H₀ ex pn) 1 tg g)(ht:∀{C s₀ H₀ ex pn},QTs (X.compGC N' scope x0 C s₀ H₀ ex pn) aE rc)(he:∀{C s₀ H₀ ex pn},QE (X.compGC N' scope x0 C s₀ H₀ ex pn) a8 re)
 (cx:X.env.scope=sc:=by rfl)(cS:X.N=N:=by rfl)(hc:X.calm=true:=by rfl)(hk:scope.kind=.function:=by rfl)(fy:∀n acc,cellsFrom n scope.names acc=(x0,n)::acc:=by intro _ _;rfl)(fr:∀h,pushCells h scope.names=h.push { cls:=.type "cell",data:=.cell none }:=by intro _;rfl)(h:(∀y∈scope.names,y.2=.cell->y.1=x0)/\CK0 sc scope N N' [x0]:=by decide +kernel)(hs:∀z,foldedSetIterable iter X.env z=pure z:=by intro _;rfl):QE X (.ListComp a8 [⟨tg,iter,aE,0⟩] scope pos) (Zh ri 1 g rc re) :=
 (aay (gt:=tQG X.K 1 g) (tc:=tQT X.K rc) (te:=tQ X.K re) sc N N' x0 hi hg ht he cx cS hc hk fy fr h hs).imp λ_ _ _=>Vh
theorem adx{i0:Nat}{y0:Str}{py b7:Pos}(sc:Scope)(N N' xs:Φ)(hi:QI X tg iter ri)(hg:∀{C s₀ H₀ ex pn},QG (X.compG N' scope xs C s₀ H₀ ex pn) xs.length tg g)(ht:∀{C s₀ H₀ ex pn},QTs (X.compG N' scope xs C s₀ H₀ ex pn) aE rc)(he:∀{C s₀ H₀ ex pn},QE (X.compG N' scope xs C s₀ H₀ ex pn) a8 re)(fx:PG X (.Name y0 py) (yR i0))
 (cx:X.env.scope=sc:=by rfl)(cS:X.N=N:=by rfl)(hc:X.calm=true:=by rfl)(hk:scope.kind=.function:=by rfl)(h:CK sc scope N N' xs:=by decide +kernel)(fm:swapsWith (.ListComp a8 [⟨tg,iter,aE,0⟩] scope pos) (some (.Name y0 py)) b7.line X.env=pure true:=by rfl)(hs:∀z,foldedSetIterable iter X.env z=pure z:=by intro _;rfl) :
  QS X (.Assign [.Name y0 py] (.ListComp a8 [⟨tg,iter,aE,0⟩] scope pos) b7) (aeG i0 (Zh ri xs.length g rc re)):=(Z5 (gt:=tQG X.K xs.length g) (tc:=tQT X.K rc) (te:=tQ X.K re) sc N N' xs hi hg ht he fx cx cS hc hk h fm hs).imp λD σ H ⟨own,o,E,h,hr,L⟩=>Vh ⟨own,o,_,h,hr,λH' v y q S n=>by
 obtain⟨ah,h',S'⟩:=h.putA S n i0;exact L.nx ah H' _ _ q S' h'⟩
theorem Km{α:Type}(h:α->T)(f:α->List T){c:RT}{e:RE}{o:List OT} : ∀(l:List α){q:List (List T)->Prop},(∀a∈l,∀(N:List T->Prop)(M:Prop),N (f a)->g (h a) o λo'=>c o' λb=>sw b (e o' λy=>match y with|.l1 us=>N us|_=>False) M)->q (l.map f)->Ht g c e o (l.map h) q
 |[],_,_,k=>k
 |a::l,q,st,k=>⟨λy=>y=f a,False,λy z=>Km h f l (λa ha=>st a (aJ _ ha)) (z ▸ k),False.elim,st a (aO ..) (λy=>y=f a) False rfl⟩
theorem Qi{c:RT}{e:RE}{o:List OT}{q:List (List T)->Prop}(f:Nat->List T)(n:Nat)(st:∀k,k<n->∀(N:List T->Prop)(M:Prop),N (f k)->g (.int (k:Nat)) o λo'=>c o' λb=>sw b (e o' λy=>match y with|.l1 us=>N us|_=>False) M)(k:q ((List.range n).map f)):Ht g c e o (rng 0 n) q:=by
 refine Km (λk:Nat=>.int (0+k)) f (List.range n) (λa ha N M hN=>?_) k;have:=st a (List.mem_range.mp ha) N M hN;show g (.int (0+((a:Nat):Int))) o _;rw[show(0:Int)+((a:Nat):Int)=((a:Nat):Int)by exact Int.zero_add _];exact this
end
section
variable{X:Cx}
noncomputable abbrev Iz(f:Β):PyData:=.tuple [.int f.1,.int f.2]
noncomputable abbrev frP(f:Β):T:=.tup [.int f.1,.int f.2]
def adp(K:Frag):V->Ζ->Hp->VK->Prop:=λx vs H Q=>∃(l:Addr)(b:V)(xs:Ζ)(fs:Γ)(f:Β)(j:Nat),x=.ref l/\vs=[b]/\H l=some (.lst xs)/\xs.length=fs.length/\(∀(i:Nat)x g,xs[i]?=some x->fs[i]?=some g->gk K H x (Iz g))/\gk K H b (Iz f)/\xs.length<=sizeLine/\fs[j]?=some f/\(∀i g,i<j->fs[i]?=some g->g≠f)/\Q (.int (j:Nat)) H
open Classical in
def aev(h:Heap)(f:Β)(v:Value):Bool:=decide (∃as,Reads h v (Iz f) as)
open Classical in
theorem Nt{h:Heap}{v:Value}{g f:Β}{as:Ψ}(r:Reads h v (Iz g) as):aev h f v=(decide (g.1=f.1)&&decide (g.2=f.2)):=by
 unfold aev;by_cases e:g=f
 .subst e;rw[Zs ⟨as,r⟩,Zs rfl,Zs rfl];rfl
 .have nd:¬∃as,Reads h v (Iz f) as:=λ⟨bs,z⟩=>e (by
   have:=SeqAt.Reads.unique _ _ _ _ _ rfl r z;injection this with this;injection this with t1 t2;injection t2 with t2;injection t1 with t1;injection t2 with t2;exact Prod.ext t1 t2)
  rw[Zp nd];by_cases h1:g.1=f.1
  .by_cases h2:g.2=f.2
   .exact absurd (Prod.ext h1 h2) e
   .rw[Zp h2,Bool.and_false]
  .rw[Zp h1,Bool.false_and]
theorem X4(hu:X.A.units+64<cLine):MtM X "list.index" (adp X.K):=by
 intro aa s σ H x vs v us Q I rx rv h;obtain⟨l,b,xs,fs,f,j,rfl,rfl,hl,lf,fl,hb,hz,ej,nj,q⟩:=h;cases rx;obtain⟨u,rfl,ru⟩:=rv.one;obtain⟨bs,rb⟩:=I.readsK hb ru;obtain⟨z,its,n,r,iS,e⟩:=I.lstM hl;have lr:=r.length;have km:∀(i:Nat)(hi:i<its.toArray.size),∃g as,fs[i]?=some g/\Reads s.heap its.toArray[i] (Iz g) as:=λi hi=>by
  rw[aX]at hi;have ex:xs[i]?=some (xs[i]'(by lia)):=aj _;have eg:fs[i]?=some (fs[i]'(by lia)):=aj _;obtain⟨u,eu,ru⟩:=r.get ex;obtain⟨as,ra⟩:=I.readsK (fl i _ _ ex eg) ru;refine⟨_,as,eg,?_⟩;rw[List.getElem_toArray,(ao.mp eu).2];exact ra
 have lj:=(ao.mp ej).1;have hj:j<its.toArray.size:=by rw[aX];lia
 rw[sizeLine_eq]at hz;refine call_meets F.slot_list_index ⟨_,e,rfl⟩ F.entry_list_index (F.args_list_index_2 _ _) (SeqAt.list_indexAt l its.toArray n _ _ _ (aev s.heap f) j hj (by lia) ?_ λm hm lm=>?_) ⟨e,λy hy=>?_,⟨.int _,H,I.tok _,⟨_,rfl⟩,q⟩⟩
 .obtain⟨g,as,e2,e3⟩:=km j hj;rw[ej]at e2;cases e2;rw[Nt e3,Zs rfl,Zs rfl];rfl
 .obtain⟨g,as,e2,e3⟩:=km m hm;have ne:=nj m g lm e2;rw[Nt e3];by_cases h1:g.1=f.1
  .by_cases h2:g.2=f.2
   .exact absurd (Prod.ext h1 h2) ne
   .rw[Zp h2,Bool.and_false]
  .rw[Zp h1,Bool.false_and]
 .obtain⟨i,hi,ei⟩:=Array.getElem_of_mem hy;obtain⟨g,as,e2,e3⟩:=km i hi;rw[<- ei,Nt e3,<- adJ];exact SeqAt.eqAt_reads _ _ _ _ _ _ _ _ e3 rb rfl rfl (by
   have d:(Iz g).depth<=3:=Tx rfl;have m:=Nat.min_le_left (Iz g).depth (Iz f).depth;show X.A.units+1+min (Iz g).depth (Iz f).depth<cLine;lia)
def amh(a:RE)(r:RA):RE:=λo q=>a o λx=>match frz x with
 |.lst ts=>r o λus=>∃(fs:Γ)(f:Β)(j:Nat),ts=fs.map frP/\us=[frP f]/\fs.length<=sizeLine/\fs[j]?=some f/\(∀i g,i<j->fs[i]?=some g->g≠f)/\q (.fz (.int (j:Nat)))
 |_=>False
theorem afd{o e:Expr}{ra:RE}{r:RA}{am af:Pos}(hu:X.A.units+64<cLine)(ho:QE X o ra)(ha:QA X [e] r)(hb:attributeBase o "index" X.env (eval o X.env)=eval o X.env:=by rfl)
 (hf:((backTo af (starEach [e] X.env)).all (λx=>!x.1)&&(backToKw af (keywordEach [] X.env)).all (λx=>x.1.isSome)&&decide ([e].length+([] : List Keyword).length+(if([] : List Keyword).isEmpty then 0 else 1)<30))=true:=by rfl)
 (hl:(am.endLine==af.line)=true:=by rfl)(hs:starEach [e] X.env=(false,eval e X.env)::starEach [] X.env:=by rfl)(hp:(backTo af (starEach [] X.env)).any (·.1)=false:=by rfl) :
  QE X (.Call (.Attribute o "index" am) [e] [] af) (amh ra r):=by
 refine(Yi PySem.F.plainAttrs_list PySem.F.slot_list_index PySem.F.type_list_index (X4 hu) ho.mono ha.mono hb hf hl hs hp).imp λσ H Q hP=>?_;obtain⟨own,o,R,h,hr,k⟩:=hP;refine⟨_,tQ.mk h hr λH1 v x q E1 r1=>?_,λ_ _ z=>z⟩;cases ex:frz x with
 |lst ts =>
  rw[ex]at q r1;obtain⟨p,xs,rfl,e,rx⟩:=r1.lstI;refine⟨.inl ⟨rfl,_,SqL.of (dU _ _ e)⟩,_,tQA.mk (h.same E1) q λH2 vs us q2 _ E2 r2=>?_,λ_ _ z=>z⟩;obtain⟨fs,f,j,rfl,rfl,lf,ej,nj,q3⟩:=q2;obtain⟨y,rfl,ry⟩:=r2.one;have S2:Same (hd (Ow own) H1) H2:=(bU E2).trans dU;refine⟨p,y,xs,fs,f,j,rfl,rfl,E2 _ _ (dU _ _ e),by rw[rx.len,ak],λi x g ex eg=>?_,(ry.shows _ rfl rfl).same dU,by rw[rx.len,ak];exact lf,ej,nj,k H2 _ _ q3 (E1.trans E2) (NR.fz (.int _))⟩;obtain⟨v,ev,rv⟩:=rx.at_ (show(fs.map frP)[i]?=some (frP g)by rw[aq,eg];rfl);rw[ex]at ev;cases ev;exact(rv.shows _ rfl rfl).same S2
 |_=>rw[ex]at q;exact q.elim
end
section
variable{X:Cx}
theorem bZ.strs{K:Frag}{F:Hp} : ∀{xs:Ζ}{ys:Φ},bZ K F xs (ys.map T.str)->xs=ys.map V.str
 |_,[],h=>by cases h;rfl
 |_,y::ys,h=>by
  cases h with
  |cons a b =>
   cases a;rw[bZ.strs b];rfl
def rJn(a:RE)(r:RA):RE:=λo q=>a o λx=>match frz x with
 |.str s=>r o λus=>∃ys:Φ,us=[.lst (ys.map T.str)]/\(ys.map (·.length)).sum+ys.length*s.length<=16777216/\q (.fz (.str (Txt.join s ys)))
 |_=>False
theorem abV{o e:Expr}{ra:RE}{r:RA}{am af:Pos}(ho:QE X o ra)(ha:QA X [e] r)(hb:attributeBase o "join" X.env (eval o X.env)=eval o X.env:=by rfl)
 (hf:((backTo af (starEach [e] X.env)).all (λx=>!x.1)&&(backToKw af (keywordEach [] X.env)).all (λx=>x.1.isSome)&&decide ([e].length+([] : List Keyword).length+(if([] : List Keyword).isEmpty then 0 else 1)<30))=true:=by rfl)
 (hl:(am.endLine==af.line)=true:=by rfl)(hs:starEach [e] X.env=(false,eval e X.env)::starEach [] X.env:=by rfl)(hp:(backTo af (starEach [] X.env)).any (·.1)=false:=by rfl) :
  QE X (.Call (.Attribute o "join" am) [e] [] af) (rJn ra r):=by
 refine(akp PySem.F.slot_str_join PySem.F.type_str_join aci ho ha hb hf hl hs hp).imp λσ H Q hP=>?_;obtain⟨own,o,R,h,hr,k⟩:=hP;refine tQ.mk h hr λH1 v x q E1 r1=>?_;cases ex:frz x with
 |str s =>
  rw[ex]at q r1;cases r1;refine⟨⟨s,rfl⟩,tQA.mk (h.same E1) q λH2 vs us q2 _ E2 r2=>?_⟩;obtain⟨ys,rfl,lz,q3⟩:=q2;obtain⟨y,rfl,ry⟩:=r2.one;obtain⟨p,xs,rfl,e,rx⟩:=ry.lstI;exact⟨s,p,ys,rfl,rfl,rx.strs ▸ (cU e).2,lz,k H2 _ _ q3 (E1.trans E2) (NR.fz (.str _))⟩
 |_=>rw[ex]at q;exact q.elim
noncomputable def notStar:Expr->Bool
 |.Starred ..=>false
 |_=>true
theorem aeV{e:Expr}{es:List Expr}{env:Env}(h:notStar e=true):starEach (e::es) env=(false,eval e env)::starEach es env:=by
 cases e<;>first|rfl|cases h
structure QEB(X:Cx)(e:Expr)(r:RE):Prop where
 out:QE X e r
structure QAB(X:Cx)(es:List Expr)(r:RA):Prop where
 out:QA X es r
theorem Dz{e:Expr}{r:RE}(h:QE X e r):QEB X e r:=⟨h⟩
theorem dg{i j pos} : QEB X (.Constant (.int i) j pos) (rC (.int i)):=⟨bA⟩
theorem KQ(i:Nat){x:Str}{pos:Pos}(hN:X.N[i]?=some x:=by rfl)(hv:rO X.env.scope x=true:=by rfl)(hd:(x==("__debug__":Str))=false:=by decide)(be:(x==("__classdict__":Str))=false:=by decide):QEB X (.Name x pos) (afT i):=⟨qv i hN hv hd be⟩
theorem Ml{op:Operator}{g:T->T->(OT->Prop)->Prop}{a b:Expr}{ra rb:RE}{pos:Pos}(ho:GO X (binaryOp op) g)(ha:QEB X a ra)(hb:QEB X b rb):QEB X (.BinOp a op b pos) (rOp g ra rb):=⟨bK ho ha.out hb.out⟩
theorem cQ:QAB X [] ad8:=⟨bF⟩
theorem bO{e:Expr}{es:List Expr}{a:RE}{r:RA}(ha:QEB X e a)(hr:QAB X es r)(hn:notStar e=true:=by rfl):QAB X (e::es) (adP a r):=⟨bx ha.out hr.out (aeV hn)⟩
theorem dN{es:List Expr}{r:RA}{pos:Pos}{k:Nat}(h:QAB X es r)(hz:es.length<=sizeLine:=by decide):QEB X (.Tuple es k pos) (agz r):=⟨cW h.out hz⟩
theorem nU{es:List Expr}{r:RA}{pos:Pos}(h:QAB X es r)(hz:es.length<=sizeLine:=by decide):QEB X (.List es pos) (ai5 r):=⟨d7 h.out hz⟩
def aj9:T->T->(OT->Prop)->Prop
 |.int i,.int j,q=>acy i j/\q (.fz (.int (i*j)))
 |_,_,_=>False
theorem V8:GO X (binaryOp .Mult) aj9:=aeu.imp λx y H Q hP=>by
 obtain⟨S,t,u,R,_,hx,hy,hg,k⟩:=hP;cases hx<;>try exact hg.elim
 cases hy<;>try exact hg.elim
 exact⟨_,_,rfl,rfl,hg.1,k H _ _ hg.2 (.refl _) (NR.fz (.int _))⟩
def ali(n:Nat)(gs:List T->List OT->(List OT->Prop)->Prop):T->List OT->(List OT->Prop)->Prop
 |.lst ts,o,q=>ts.length=n/\gs ts o q
 |_,_,_=>False
theorem agq{pos:Pos}{m:Nat}{es:List Expr}{k:Nat}{gs:List T->List OT->(List OT->Prop)->Prop}{n:Nat}(hc:X.calm=true)(h:QGs X m es gs)(hn:(assignEach es X.env).length=n:=by rfl)(b8:(assignEach es X.env).findIdx? (·.1)=none:=by rfl):QG X m (.Tuple es k pos) (ali n gs):=(adC hc h hn b8).imp λv σ H Q hP=>by
 obtain⟨own,o,t,R,h,r,hg,k⟩:=hP;cases t<;>try exact hg.elim
 obtain⟨a,xs,rfl,e,r⟩:=r.lstI;exact⟨a,xs,rfl,SqL.of (dU _ _ e),r.len.trans hg.1,own,o,_,R,h,r,hg.2,k⟩
end
section
variable{a b c d e f x y:RS}{E:DT}{o:List OT}
theorem sq1(J:List OT->Prop)(k:∀o',J o'->y E o')(h:∀Y:List OT->Prop,(∀o',J o'->Y o')->jf x (λ_=>Y) E o):jf x y E o:=h (y E) k
theorem sq2(J:List OT->Prop)(k:∀o',J o'->y E o')(h:∀Y:List OT->Prop,(∀o',J o'->Y o')->jf a (jf x (λ_=>Y)) E o):jf a (jf x y) E o:=h (y E) k
theorem sq4(J:List OT->Prop)(k:∀o',J o'->y E o')(h:∀Y:List OT->Prop,(∀o',J o'->Y o')->jf a (jf b (jf c (jf x (λ_=>Y)))) E o):jf a (jf b (jf c (jf x y))) E o:=h (y E) k
theorem sq7(J:List OT->Prop)(k:∀o',J o'->y E o')(h:∀Y:List OT->Prop,(∀o',J o'->Y o')->jf a (jf b (jf c (jf d (jf e (jf f (jf x (λ_=>Y))))))) E o):jf a (jf b (jf c (jf d (jf e (jf f (jf x y)))))) E o:=h (y E) k
end
section
variable{X:Cx}
def ad2(i:Nat)(a:RE):RS:=λE o=>match slot o i with|.fz (.int k)=>a o λy=>(match frz y with|.int j=>(Bd k/\Bd j)/\E.nx (o.set i (.fz (.int (k*j))))|_=>False)|_=>False
theorem Vo(i:Nat){x:Str}{bo pos:Pos}{e:Expr}{re:RE}(hN:X.N.Nodup)(hx:Loc X.env.scope x)(he:QE X e re)(hi:X.N[i]?=some x:=by rfl)(hf:X.fn x=true\/X.env.scope.names.lookup x=some .local:=by first|exact .inl rfl|exact .inr rfl|assumption):QS X (.AugAssign (.Name x bo) .Mult e pos) (ad2 i re):=(aaS hN hi hx he ab2 hf).imp λD σ H hP=>by
 obtain⟨own,o,E,h,hr,L⟩:=hP;unfold ad2 at hr;cases es:slot o i with
 |fz t =>
  rw[es]at hr;cases t<;>try exact hr.elim
  obtain⟨u,e1,r⟩:=h.get (gw es (by intro z;cases z));cases r;refine⟨_,e1,tQ.mk h hr λH1 v y q E1 r1=>?_⟩
  revert r1 q
  generalize frz y=t;intro q r1;cases t<;>try exact q.elim
  cases r1;obtain⟨⟨q1,q2⟩,q⟩:=q;refine⟨_,_,rfl,rfl,q1,q2,?_⟩;obtain⟨ah,h',S⟩:=(h.same E1).putA (.refl _) (NR.fz (.int _)) i;exact L.nx ah _ _ _ q ((bU E1).trans S) h'
 |_=>rw[es]at hr;exact hr.elim
end
end L2
namespace Ac
noncomputable def lw(t b:Int):Int×Int:=(t/(Int.gcd t b:Nat),b/(Int.gcd t b:Nat))
theorem ah7{t b:Int}(hb:0<b):(0:Int)<(Int.gcd t b:Nat):=by
 have:=Zxz t (show b≠0 by exact WS hb);lia
section
variable{κ:Type}[DecidableEq κ]
noncomputable def look(acc:List (κ×Int))(r:κ):Int:=((acc.find? λg=>decide (g.1=r)).map (·.2)).getD 0
noncomputable def put(acc:List (κ×Int))(r:κ)(y:Int):List (κ×Int):=if(acc.any λg=>decide (g.1=r))=true then acc.map (λg=>if g.1=r then(g.1,y)else g)else acc++[(r,y)]
def alm(gs:List (κ×Int)):List (κ×Int):=gs.foldl (λa g=>put a g.1 (look a g.1+g.2)) []
def ways(gs:List (κ×Int))(S:Int):List (κ×Int×Int):=((alm gs).filter λg=>decide (0<g.2)).map λg=>(g.1,lw g.2 S)
end
end Ac
namespace Rw
open Ac
def rep(r:List Int×Int):Γ:=r.1.map λt=>lw t r.2
noncomputable def gcL(ts:List Int)(b:Int):Int:=ts.foldl (λc t=>((Int.gcd t c:Nat):Int)) b
theorem f9:∀{ts:List Int}{b:Int},0<b->0<gcL ts b
 |[],_,h=>h
 |t::ts,b,h=>f9 (ts:=ts) (ah7 (t:=t) h)
theorem gD:∀{ts:List Int}{b:Int},gcL ts b ∣ b/\∀t∈ts,gcL ts b ∣ t
 |[],b=>⟨Int.dvd_refl b,by simp⟩
 |t::ts,b=>by
  obtain⟨h1,h2⟩:=gD (ts:=ts) (b:=((Int.gcd t b:Nat):Int));refine⟨Int.dvd_trans h1 (Q3 t b),λx hx=>?_⟩;rcases YU.mp hx with rfl|hx
  .exact Int.dvd_trans h1 (Int.gcd_dvd_left x b)
  .exact h2 x hx
theorem sE{ts:List Int}{b:Int}(h:0<b):gcL ts b<=b:=Int.le_of_dvd h gD.1
def iB(r:List Int×Int):List Int×Int:=(r.1.map λt=>t/gcL r.1 r.2,r.2/gcL r.1 r.2)
theorem jK(r:List Int×Int):(iB r).1.length=r.1.length:=by unfold iB;rw[ak]
noncomputable def gW(r:List Int×Int)(c:Β):List Int×Int:=(r.1.map λt=>t*c.1,r.2*c.2)
noncomputable def m_(r o:List Int×Int)(c:Β):List Int×Int :=
 (List.zipWith (λa b=>a*(o.2*c.2/((Int.gcd r.2 (o.2*c.2):Nat):Int))+b*(r.2/((Int.gcd r.2 (o.2*c.2):Nat):Int)*c.1)) r.1 o.1,r.2*(o.2*c.2/((Int.gcd r.2 (o.2*c.2):Nat):Int)))
structure Big(N:Nat)(r:List Int×Int):Prop where
 pos:0<r.2
 bot:r.2.natAbs<=N
 top:∀t∈r.1,t.natAbs<=N
theorem Big.le{N M:Nat}{r:List Int×Int}(h:Big N r)(hn:N<=M):Big M r:=⟨h.pos,aL h.bot hn,λt ht=>aL (h.top t ht) hn⟩
theorem Qs{d t g x:Int}(h1:d ∣ t*x)(h2:d ∣ g*x):d ∣ ((Int.gcd t g:Nat):Int)*x:=by
 have h:=Int.dvd_coe_gcd h1 h2;rw[Int.gcd_mul_right]at h;rw[Th]at h;rcases Int.natAbs_eq x with e|e
 .rw[e];exact h
 .rw[e,Int.mul_neg];exact Int.dvd_neg.mpr h
theorem wj{d x:Int} : ∀{ts:List Int}{b:Int},d ∣ b*x->(∀t∈ts,d ∣ t*x)->d ∣ gcL ts b*x
 |[],_,h,_=>h
 |t::ts,b,h,k=>wj (ts:=ts) (Qs (k t aO) h) λu hu=>k u (aJ _ hu)
def Alk(r s:List Int×Int):Prop:=r.1.length=s.1.length/\∀(k:Nat)(a b:Int),r.1[k]?=some a->s.1[k]?=some b->a*s.2=b*r.2
theorem kh{r:List Int×Int}(h:0<r.2):gcL (iB r).1 (iB r).2=1:=by
 have g0:=f9 (ts:=r.1) h;obtain⟨d1,d2⟩:=gD (ts:=r.1) (b:=r.2);have p:0<(iB r).2:=Zxy h (XY g0) d1;have q0:=f9 (ts:=(iB r).1) p;obtain⟨e1,e2⟩:=gD (ts:=(iB r).1) (b:=(iB r).2);have de:gcL (iB r).1 (iB r).2*gcL r.1 r.2 ∣ gcL r.1 r.2*1:=by
  refine wj ?_ λt ht=>?_
  .obtain⟨u,hu⟩:=e1;have hu:r.2/gcL r.1 r.2=gcL (iB r).1 (iB r).2*u:=hu;refine⟨u,?_⟩;rw[Q1,Int.mul_right_comm,<- hu,Int.ediv_mul_cancel d1]
  .obtain⟨u,hu⟩:=e2 (t/gcL r.1 r.2) (YV.mpr ⟨t,ht,rfl⟩);refine⟨u,?_⟩;rw[Q1,Int.mul_right_comm,<- hu,Int.ediv_mul_cancel (d2 t ht)]
 rw[Q1]at de;have:=Int.le_of_dvd g0 de;have:gcL (iB r).1 (iB r).2<=1:=by
  refine Int.le_of_mul_le_mul_right (a:=gcL r.1 r.2) ?_ g0;lia
 lia
theorem least{N:Nat}{r s:List Int×Int}(hr:0<r.2)(g:gcL r.1 r.2=1)(a:Alk r s)(h:Big N s):Big N r:=by
 have d:r.2 ∣ gcL r.1 r.2*s.2:=wj ⟨s.2,rfl⟩ λt ht=>by
  obtain⟨k,hk,rfl⟩:=List.mem_iff_getElem.mp ht;have hs:k<s.1.length:=by rw[<- a.1];exact hk
  rw[a.2 k _ _ (aj hk) (aj hs)];exact⟨_,Int.mul_comm _ _⟩
 rw[g,JP]at d;obtain⟨m,hm⟩:=d;have m0:0<m:=Zwz (by rw[<- hm];exact h.pos) hr;refine⟨hr,?_,λt ht=>?_⟩
 .have:=Int.le_of_dvd h.pos ⟨m,hm⟩;have:=h.bot;lia
 .obtain⟨k,hk,rfl⟩:=List.mem_iff_getElem.mp ht;have hs:k<s.1.length:=by rw[<- a.1];exact hk
  have e:=a.2 k _ _ (aj hk) (aj hs);rw[hm,Int.mul_comm r.2 m,<- Int.mul_assoc]at e;have e:=Int.eq_of_mul_eq_mul_right (WS hr) e;have b:=h.top _ (aU hs);rw[<- e,VY]at b;exact aL (Nat.le_mul_of_pos_right _ (by omega)) b
noncomputable def gr(N:Nat):Nat->Nat
 |0=>N
 |m+1=>2*(gr N m*gr N m)
noncomputable def sg(f:Nat->Rat):Nat->Rat
 |0=>0
 |n+1=>sg f n+f n
noncomputable def sz(f:Nat->Int):Nat->Int
 |0=>0
 |n+1=>sz f n+f n
theorem fY(f g:Nat->Rat):∀n,sg (λj=>f j+g j) n=sg f n+sg g n
 |0=>by unfold sg;grind
 |n+1=>by unfold sg;rw[fY f g n];grind
theorem fu(c:Rat)(f:Nat->Rat):∀n,sg (λj=>c*f j) n=c*sg f n
 |0=>by unfold sg;grind
 |n+1=>by unfold sg;rw[fu c f n];grind
theorem bW{f g:Nat->Rat} : ∀{n},(∀j,j<n->f j=g j)->sg f n=sg g n
 |0,_=>rfl
 |n+1,h=>by unfold sg;rw[bW λj hj=>h j (WU _ hj),h n (X1 _)]
theorem gn:∀n,sg (λ_=>0) n=0
 |0=>rfl
 |n+1=>by unfold sg;rw[gn n];grind
theorem gU{v:Nat->Rat}{k:Nat} : ∀{n},sg (λj=>(if j=k then 1 else 0)*v j) n=if k<n then v k else 0
 |0=>by rw[ZZ (WV _)];rfl
 |n+1=>by
  unfold sg;rw[gU];by_cases h:k<n
  .rw[ZY h,ZZ (UT h),ZY (WU _ h)];grind
  .by_cases e:n=k
   .subst e;rw[ZZ h,ZY rfl,ZY (X1 _)];grind
   .rw[ZZ h,ZZ e,ZZ (by lia)];grind
theorem VG(f:Nat->Nat->Rat)(m:Nat):∀n,sg (λk=>sg (λl=>f k l) m) n=sg (λl=>sg (λk=>f k l) n) m
 |0=>by
  show(0:Rat)=sg (λ_=>0) m;rw[gn]
 |n+1=>by
  show sg (λk=>sg (λl=>f k l) m) n+sg (λl=>f n l) m=sg (λl=>sg (λk=>f k l) n+f n l) m;rw[fY,VG f m n]
theorem Gf(f:Nat->Int):∀n,((sz f n:Int):Rat)=sg (λk=>(f k:Rat)) n
 |0=>Zzr
 |n+1=>by unfold sz sg;rw[Rat.intCast_add,Gf f n]
theorem HF{f:Nat->Int}{B:Nat} : ∀{n},(∀k,k<n->(f k).natAbs<=B)->(sz f n).natAbs<=n*B
 |0,_=>by unfold sz;simp
 |n+1,h=>by
  unfold sz;have:=HF (n:=n) λk hk=>h k (WU _ hk);have:=h n (X1 _);rw[Nat.add_mul,Q4];omega
theorem aaJ(f g:Nat->Int):∀n,sz (λk=>f k-g k) n=sz f n-sz g n
 |0=>rfl
 |n+1=>by unfold sz;rw[aaJ f g n];lia
theorem Px{f g:Nat->Int} : ∀{n},(∀j,j<n->f j=g j)->sz f n=sz g n
 |0,_=>rfl
 |n+1,h=>by unfold sz;rw[Px λj hj=>h j (WU _ hj),h n (X1 _)]
theorem PX{α:Type}(q:α->Bool):∀L:List α,(L.filter q).length+(L.filter λx=>!q x).length=L.length
 |[]=>rfl
 |x::L=>by
  have:=PX q L;rw[List.filter_cons,List.filter_cons];cases h:q x with
  |true=>rw[ZY rfl,ZZ (by simp),List.length_cons,List.length_cons];lia
  |false=>rw[ZZ (by simp),ZY (by simp),List.length_cons,List.length_cons];lia
theorem aaP{α:Type}(f:α->Nat)(n:Nat):∀(W:Nat)(L:List α),(∀x∈L,f x<W)->W*n<L.length->∃v,n<(L.filter λx=>f x==v).length
 |0,L,h,hl=>by
  cases L with
  |nil=>simp at hl
  |cons x L=>exact absurd (h x aO) (WV _)
 |W+1,L,h,hl=>by
  by_cases e:n<(L.filter λx=>f x==W).length
  .exact⟨W,e⟩
  .have pl:=PX (λx=>f x==W) L;rw[Nat.add_mul,Q4]at hl;obtain⟨v,hv⟩:=aaP f n W (L.filter λx=>!(f x==W)) (λx hx=>by
    obtain⟨a,b⟩:=List.mem_filter.mp hx;have:=h x a;have ne:f x≠W:=λz=>by rw[z]at b;simp at b
    lia) (by omega)
   exact⟨v,aR hv (List.Sublist.length_le (List.Sublist.filter _ List.filter_sublist))⟩
theorem digits_inj{W:Nat}(hW:0<W):∀(n c d:Nat),c<W^n->d<W^n->(∀k,k<n->c/W^k%W=d/W^k%W)->c=d
 |0,c,d,hc,hd,_=>by
  rw[Nat.pow_zero]at hc hd;lia
 |n+1,c,d,hc,hd,h=>by
  have h0:=h 0 (T1 _);rw[Nat.pow_zero,Nat.div_one,Nat.div_one]at h0;have e:=digits_inj hW n (c/W) (d/W) (Nat.div_lt_of_lt_mul (by rw[TU,<- Nat.pow_succ];exact hc)) (Nat.div_lt_of_lt_mul (by rw[TU,<- Nat.pow_succ];exact hd)) λk hk=>by
   have:=h (k+1) (Nat.succ_lt_succ hk);rw[Nat.div_div_eq_div_mul,Nat.div_div_eq_div_mul,<- Nat.pow_succ'];exact this
  rw[<- Nat.div_add_mod c W,<- Nat.div_add_mod d W,e,h0]
theorem Xb{p N:Nat}(hN:1<=N):(2*((p+1)*((2*(p+1)*N)^p*N))+1)^p<((2*(p+1)*N)^p+1)^(p+1):=by
 have w:2*((p+1)*((2*(p+1)*N)^p*N))+1<=2*(p+1)*N*((2*(p+1)*N)^p+1):=by
  have e:2*((p+1)*((2*(p+1)*N)^p*N))=2*(p+1)*N*(2*(p+1)*N)^p:=by ac_rfl
  have x1:1<=2*(p+1)*N:=WH (show 1<=2*(p+1)by lia) hN;rw[e];generalize 2*(p+1)*N=X at *;rw[Nat.mul_add,Nat.mul_one];exact Nat.add_le_add_left x1 _
 refine Y3 (Zxx w p) ?_;rw[Nat.mul_pow,Nat.pow_succ,TU];exact Nat.mul_lt_mul_of_pos_left (X1 _) (Zzz (T1 _))
theorem UG{p N:Nat}{C:Nat->Nat->Int}(hN:1<=N)(hC:∀k l,k<=p->l<p->(C k l).natAbs<=N) :
  ∃aw:Nat->Int,(∃k,k<=p/\aw k≠0)/\(∀k,(aw k).natAbs<=(2*(p+1)*N)^p)/\∀l,l<p->sz (λk=>aw k*C k l) (p+1)=0:=by
 have ps:=Xb (p:=p) hN;generalize hB:(2*(p+1)*N)^p=B at *;generalize hO:(p+1)*(B*N)=O at *;have my:∀c k:Nat,c/(B+1)^k%(B+1)<=B:=λc k=>UZ (Nat.mod_lt _ (T1 _));have eb:∀l c,l<p->(sz (λk=>((c/(B+1)^k%(B+1):Nat):Int)*C k l) (p+1)).natAbs<=O:=λl c hl=>by
  rw[<- hO];refine HF λk hk=>?_;rw[VY,XG];exact WH (my c k) (hC k l (UZ hk) hl)
 have all:∀q,q<=p->∃L:List Nat,L.Nodup/\(∀c∈L,c<(B+1)^(p+1))/\(∀l,l<q->∀c∈L,∀d∈L,sz (λk=>((c/(B+1)^k%(B+1):Nat):Int)*C k l) (p+1)=sz (λk=>((d/(B+1)^k%(B+1):Nat):Int)*C k l) (p+1))/\(2*O+1)^(p-q)<L.length:=by
  intro q
  induction q with
  |zero=>exact λ_=>⟨List.range ((B+1)^(p+1)),List.nodup_range,λc hc=>List.mem_range.mp hc,λl hl=>absurd hl (WV _),by rw[WJ,Nat.sub_zero];exact ps⟩
  |succ q ih =>
   intro hq;obtain⟨L,nd,lt,eq,ln⟩:=ih (aL (Xs _) hq);have e1:(2*O+1)^(p-q)=(2*O+1)*(2*O+1)^(p-(q+1)):=by rw[<- Nat.pow_succ',show(p-(q+1)).succ=p-q by lia]
   rw[e1]at ln;obtain⟨v,hv⟩:=aaP (λc=>(sz (λk=>((c/(B+1)^k%(B+1):Nat):Int)*C k q) (p+1)+O).toNat) _ _ L (λc _=>by
    have:=eb q c (aR (X1 _) hq);omega) ln
   refine⟨_,List.Pairwise.sublist List.filter_sublist nd,λc hc=>lt c (List.mem_filter.mp hc).1,λl hl c hc d hd=>?_,hv⟩;obtain⟨c1,c2⟩:=List.mem_filter.mp hc;obtain⟨d1,d2⟩:=List.mem_filter.mp hd;by_cases e:l<q
   .exact eq l e c c1 d d1
   .have e:l=q:=by lia
    subst e;have c2:=beq_iff_eq.mp c2;have d2:=beq_iff_eq.mp d2;have:=eb l c (aR hl hq);have:=eb l d (aR hl hq);omega
 obtain⟨L,nd,lt,eq,ln⟩:=all p (aG p);rw[Zzy,Nat.pow_zero]at ln
 match L,nd,lt,eq,ln with
 |c::d::L,nd,lt,eq,_ =>
  have ne:c≠d:=λz=>by
   rw[z]at nd;exact(List.nodup_cons.mp nd).1 aO
  refine⟨λk=>((c/(B+1)^k%(B+1):Nat):Int)-((d/(B+1)^k%(B+1):Nat):Int),?_,λk=>?_,λl hl=>?_⟩
  .by_cases h:∀k,k<p+1->c/(B+1)^k%(B+1)=d/(B+1)^k%(B+1)
   .exact absurd (digits_inj (T1 B) (p+1) c d (lt c aO) (lt d (aJ _ aO)) h) ne
   .obtain⟨k,hk⟩:=Classical.not_forall.mp h;obtain⟨k1,k2⟩:=Classical.not_imp.mp hk;exact⟨k,by exact UZ k1,λz=>k2 (by
     have z:((c/(B+1)^k%(B+1):Nat):Int)-((d/(B+1)^k%(B+1):Nat):Int)=0:=z;generalize c/(B+1)^k%(B+1)=x at *;generalize d/(B+1)^k%(B+1)=y at *;lia)⟩
  .have:=my c k;have:=my d k;show(((c/(B+1)^k%(B+1):Nat):Int)-((d/(B+1)^k%(B+1):Nat):Int)).natAbs<=B;omega
  .rw[Px (g:=λk=>((c/(B+1)^k%(B+1):Nat):Int)*C k l-((d/(B+1)^k%(B+1):Nat):Int)*C k l) λk _=>Int.sub_mul _ _ _,aaJ,eq l hl c aO d (aJ _ aO)];exact Int.sub_self _
 |[_],_,_,_,ln=>exact absurd ln (by simp)
 |[],_,_,_,ln=>exact absurd ln (by simp)
structure fK(A:Nat->Nat->Int)(b:Nat->Int)(m wd:Nat)(R:Nat->Nat->Rat)(p:Nat)(pv s:Nat->Nat):Prop where
 pm:p<=m
 sm:∀i,i<m->s i<m
 pw:∀l,l<p->pv l<wd
 unit:∀i l,i<m->l<p->R i (pv l)=if i=l then 1 else 0
 dec:∀i j,i<m->j<wd->(A (s i) j:Rat)=(if i<p then 0 else(b (s i):Rat)*R i j)+sg (λl=>(A (s i) (pv l):Rat)*R l j) p
 ind:∀aw:Nat->Rat,(∀j,j<wd->sg (λk=>aw k*(A (s k) j:Rat)) p=0)->∀k,k<p->aw k=0
section
variable{A:Nat->Nat->Int}{b:Nat->Int}{m wd p:Nat}{R:Nat->Nat->Rat}{pv s:Nat->Nat}
theorem fK.comb(h:fK A b m wd R p pv s)(aw:Nat->Rat){j:Nat}(hj:j<wd):sg (λk=>aw k*(A (s k) j:Rat)) p=sg (λl=>sg (λk=>aw k*(A (s k) (pv l):Rat)) p*R l j) p:=by
 have pm:=h.pm;rw[bW (g:=λk=>sg (λl=>aw k*(A (s k) (pv l):Rat)*R l j) p) λk hk=>?_]
 .rw[VG];refine bW λl hl=>?_;rw[bW (g:=λk=>R l j*(aw k*(A (s k) (pv l):Rat))) λk _=>XU _ _,fu,XU]
 .rw[h.dec k j (aR hk pm) hj,ZY hk,Rat.zero_add,<- fu];exact bW λl _=>(Rat.mul_assoc _ _ _).symm
theorem g8{x:Int}(h:x≠0):(x:Rat)≠0:=λz=>h (Rat.intCast_inj.mp (z.trans Rat.intCast_zero.symm))
theorem ahM{m N q:Nat}(hN:1<=N)(hq:q+1<=m):(2*(q+1)*N)^(q+1)<=(2*m*N)^m:=by
 have x:2*(q+1)*N<=2*m*N:=WH (by lia) (aG N);have y:1<=2*m*N:=WH (show 1<=2*m by lia) hN;exact aL (Zxx x _) (XT y hq)
theorem abU{m N q:Nat}(hN:1<=N)(hq:q+1<=m):(q+1)*((2*(q+1)*N)^q*N)<=(2*m*N)^m:=by
 refine aL ?_ (ahM hN hq);have e:(2*(q+1)*N)^(q+1)=2*((q+1)*((2*(q+1)*N)^q*N)):=by
  rw[Nat.pow_succ];ac_rfl
 lia
theorem fK.bound{N:Nat}(h:fK A b m wd R p pv s)(hN:1<=N)(hA:∀i j,i<m->j<wd->(A i j).natAbs<=N)(hb:∀i,i<m->0<b i/\(b i).natAbs<=N){i:Nat}(hi:i<m) :
    ∃(v:Nat->Int)(u:Int),u≠0/\u.natAbs<=(2*m*N)^m/\(∀j,j<wd->(v j).natAbs<=(2*m*N)^m)/\∀j,j<wd->R i j*(u:Rat)=(v j:Rat):=by
  have pm:=h.pm;by_cases ip:i<p
  . obtain⟨q,rfl⟩ : ∃q,p=q+1:=⟨p-1,by lia⟩
    obtain⟨aw,⟨k0,hU,fR⟩,bl,zr⟩:=UG (p:=q) (C:=λk l=>A (s k) (if l<i then pv l else pv (l+1))) hN λk l hk hl=>by
      refine hA _ _ (h.sm k (by lia)) ?_;by_cases e:l<i
      . rw[ZY e];exact h.pw l (WU _ hl)
      . rw[ZZ e];exact h.pw (l+1) (Nat.succ_lt_succ hl)
    have cast:∀j,((sz (λk=>aw k*A (s k) j) (q+1):Int):Rat)=sg (λk=>(aw k:Rat)*(A (s k) j:Rat)) (q+1):=λj=>by
      rw[Gf];exact bW λk _=>XV _ _
    have zl:∀l,l<q+1->l≠i->sz (λk=>aw k*A (s k) (pv l)) (q+1)=0:=λl hl ne=>by
      by_cases e:l<i
      . have:=zr l (aR e (UZ ip))
        rw[ZY e]at this;exact this
      . have:=zr (l-1) (by omega)
        rw[ZZ (by lia),show l-1+1=l by lia]at this;exact this
    have de:∀j,j<wd->((sz (λk=>aw k*A (s k) j) (q+1):Int):Rat)=((sz (λk=>aw k*A (s k) (pv i)) (q+1):Int):Rat)*R i j:=λj hj=>by
      rw[cast,h.comb (λk=>(aw k:Rat)) hj,bW (g:=λl=>(if l=i then 1 else 0)*(((sz (λk=>aw k*A (s k) (pv i)) (q+1):Int):Rat)*R l j)) λl hl=>?_,gU,ZY ip];rw[<- cast (pv l)];by_cases e:l=i
      . rw[ZY e,e,Rat.one_mul]
      . rw[ZZ e,zl l hl e,Zzr];grind
    refine⟨λj=>sz (λk=>aw k*A (s k) j) (q+1),sz (λk=>aw k*A (s k) (pv i)) (q+1),λz=>?_,?_,λj hj=>?_,λj hj=>?_⟩
    . have:=h.ind (λk=>(aw k:Rat)) (λj hj=>by
        rw[<- cast,de j hj,z,Zzr];grind) k0 (Y3 hU (X1 _))
      exact g8 fR this
    . exact aL (HF λk hk=>by rw[VY];exact WH (bl k) (hA _ _ (h.sm k (aR hk pm)) (h.pw i ip))) (abU hN (by omega))
    . exact aL (HF λk hk=>by rw[VY];exact WH (bl k) (hA _ _ (h.sm k (aR hk pm)) hj)) (abU hN (by omega))
    . rw[de j hj,XU]
  . obtain⟨aw,⟨k0,hU,fR⟩,bl,zr⟩:=UG (p:=p) (C:=λk l=>A (s (if k<p then k else i)) (pv l)) hN λk l hk hl=>by
      refine hA _ _ (h.sm _ ?_) (h.pw l hl);by_cases e:k<p
      . rw[ZY e];exact aR e pm
      . rw[ZZ e];exact hi
    have cast:∀j,((sz (λk=>aw k*A (s (if k<p then k else i)) j) (p+1):Int):Rat)=sg (λk=>(aw k:Rat)*(A (s k) j:Rat)) p+(aw p:Rat)*(A (s i) j:Rat):=λj=>by
      rw[Gf];show sg _ p+((aw p*A (s (if p<p then p else i)) j:Int):Rat)=_;rw[ZZ (X9 _),XV,bW (g:=λk=>(aw k:Rat)*(A (s k) j:Rat)) λk hk=>by rw[ZY hk,XV]]
    have de:∀j,j<wd->((sz (λk=>aw k*A (s (if k<p then k else i)) j) (p+1):Int):Rat)=((aw p*b (s i):Int):Rat)*R i j:=λj hj=>by
      have e0:sg (λl=>sg (λk=>(aw k:Rat)*(A (s k) (pv l):Rat)) p*R l j) p+(aw p:Rat)*sg (λl=>(A (s i) (pv l):Rat)*R l j) p=0:=by
        rw[<- fu,<- fY,bW (g:=λ_=>0) λl hl=>?_,gn];have:=cast (pv l);rw[zr l hl,Zzr]at this
        calc _=(sg (λk=>(aw k:Rat)*(A (s k) (pv l):Rat)) p+(aw p:Rat)*(A (s i) (pv l):Rat))*R l j:=by grind
          _=0:=by rw[<- this];grind
      rw[cast,h.comb (λk=>(aw k:Rat)) hj,h.dec i j hi hj,ZZ ip,XV]
      grind
    have bp:=hb _ (h.sm i hi);have lp:aw p≠0:=λz=>by
      have kp:k0<p:=by
        by_cases e:k0=p
        . rw[e,z]at fR;exact absurd rfl fR
        . exact XX hU e
      have:=h.ind (λk=>(aw k:Rat)) (λj hj=>by
        have c:=cast j;rw[de j hj,z,Int.zero_mul,Zzr]at c
        grind) k0 kp
      exact g8 fR this
    refine⟨λj=>sz (λk=>aw k*A (s (if k<p then k else i)) j) (p+1),aw p*b (s i),λz=>?_,?_,λj hj=>?_,λj hj=>?_⟩
    . rcases Int.mul_eq_zero.mp z with y|y
      . exact lp y
      . lia
    . rw[VY]
      refine aL (WH (bl p) bp.2) (aL ?_ (abU hN (show p+1<=m by lia)));exact Zxw _ (T1 p)
    . exact aL (HF λk hk=>by
        rw[VY];refine WH (bl k) (hA _ _ (h.sm _ ?_) hj);by_cases e:k<p
        . rw[ZY e];exact aR e pm
        . rw[ZZ e];exact hi) (abU hN (show p+1<=m by lia))
    . rw[de j hj,XU]
theorem fK.congr(h:fK A b m wd R p pv s){R':Nat->Nat->Rat}(e:∀i j,i<m->R i j=R' i j):fK A b m wd R' p pv s:=by
 have pm:=h.pm;refine⟨h.pm,h.sm,h.pw,λi l hi hl=>by rw[<- e i _ hi];exact h.unit i l hi hl,λi j hi hj=>?_,h.ind⟩;rw[h.dec i j hi hj,e i j hi,bW λl hl=>by rw[e l j (aR hl pm)]]
theorem fK.zero(hb:∀i,i<m->0<b i):fK A b m wd (λi j=>(A i j:Rat)/(b i:Rat)) 0 pv id:=by
 refine⟨aZ _,λi hi=>hi,λl hl=>absurd hl (WV _),λi l _ hl=>absurd hl (WV _),λi j hi hj=>?_,λaw _ k hk=>absurd hk (WV _)⟩;rw[ZZ (WV _)];have:=g8 (WS (hb i hi));show(A i j:Rat)=(b i:Rat)*((A i j:Rat)/(b i:Rat))+0
 grind
def sw(p q x:Nat):Nat:=if x=p then q else if x=q then p else x
theorem fK.swap(h:fK A b m wd R p pv s){q:Nat}(hp:p<=q)(hq:q<m){R':Nat->Nat->Rat}(hR:∀i j,i<m->j<wd->R' i j=R (sw p q i) j):fK A b m wd R' p pv (λi=>s (sw p q i)):=by
 have pm:=h.pm;have sl:∀l,l<p->sw p q l=l:=λl hl=>by unfold sw;rw[ZZ (aQ hl),ZZ (by lia)]
 have sm:∀i,i<m->sw p q i<m:=λi hi=>by
  unfold sw;split
  .exact hq
  .split<;>omega
 have sp:∀i,(sw p q i<p)↔i<p:=λi=>by
  unfold sw;split
  .lia
  .split<;>lia
 refine⟨pm,λi hi=>h.sm _ (sm i hi),h.pw,λi l hi hl=>?_,λi j hi hj=>?_,λaw hz=>?_⟩
 .rw[hR i _ hi (h.pw l hl),h.unit _ l (sm i hi) hl];by_cases e:i=l
  .rw[ZY e,e,ZY (sl l hl)]
  .rw[ZZ e,ZZ λz=>e ?_];have:i<p:=(sp i).mp (Y3 (WG z) hl);rw[<- z,sl i this]
 .rw[h.dec _ j (sm i hi) hj,hR i j hi hj]
  congr 1
  .by_cases e:i<p
   .rw[ZY e,ZY ((sp i).mpr e)]
   .rw[ZZ e,ZZ λz=>e ((sp i).mp z)]
  .exact bW λl hl=>by rw[hR l j (aR hl pm) hj,sl l hl]
 .exact h.ind aw λj hj=>by
   rw[<- hz j hj];exact bW λk hk=>by rw[sl k hk]
theorem fK.pivot(h:fK A b m wd R p pv s)(hp:p<m)(hb:∀i,i<m->0<b i){c:Nat}(hc:c<wd)(h0:R p c≠0){R':Nat->Nat->Rat}(kQ:∀j,j<wd->R' p j*R p c=R p j)(k3:∀i j,i<m->i≠p->j<wd->R' i j=R i j-R i c*R' p j) :
  fK A b m wd R' (p+1) (λl=>if l=p then c else pv l) s:=by
 have pm:=h.pm;have one:R' p c=1:=by
  have:=kQ c hc
  grind
 have zp:∀l,l<p->R' p (pv l)=0:=λl hl=>by
  have:=kQ (pv l) (h.pw l hl);rw[h.unit p l hp hl,ZZ (UT hl)]at this
  grind
 have pvl:∀l,l<p->(if l=p then c else pv l)=pv l:=λl hl=>ZZ (aQ hl);have old:∀i j,i<m->i≠p->j<wd->R i j=R' i j+R i c*R' p j:=λi j hi ne hj=>by rw[k3 i j hi ne hj];grind
 have dec:∀i j,i<m->j<wd->(A (s i) j:Rat)=(if i<p+1 then 0 else(b (s i):Rat)*R' i j)+sg (λl=>(A (s i) (if l=p then c else pv l):Rat)*R' l j) (p+1):=λi j hi hj=>by
  have dj:=h.dec i j hi hj;have dc:=h.dec i c hi hc;have ej:sg (λl=>(A (s i) (pv l):Rat)*R l j) p=sg (λl=>(A (s i) (pv l):Rat)*R' l j) p+R' p j*sg (λl=>(A (s i) (pv l):Rat)*R l c) p:=by
   rw[<- fu,<- fY];exact bW λl hl=>by rw[old l j (Tk hl hp) (aQ hl) hj];grind
  rw[ej]at dj;show _=_+(sg _ p+(A (s i) (if p=p then c else pv p):Rat)*R' p j);rw[ZY rfl,bW (g:=λl=>(A (s i) (pv l):Rat)*R' l j) λl hl=>by rw[pvl l hl]];by_cases e:i<p
  .rw[ZY (WU _ e)];rw[ZY e]at dj dc
   grind
  .rw[ZZ e]at dj dc;by_cases e2:i=p
   .rw[ZY (by lia)];subst e2;have:=kQ j hj
    grind
   .rw[ZZ (by lia)];have:=old i j hi e2 hj
    grind
 refine⟨hp,h.sm,λl hl=>?_,λi l hi hl=>?_,dec,λaw hz=>?_⟩
 .by_cases e:l=p
  .show(if l=p then c else pv l)<wd;rw[ZY e];exact hc
  .show(if l=p then c else pv l)<wd;rw[ZZ e];exact h.pw l (XX (UZ hl) e)
 .show R' i (if l=p then c else pv l)=_;by_cases e:l=p
  .rw[ZY e,e];by_cases ip:i=p
   .rw[ZY ip,ip];exact one
   .rw[ZZ ip,k3 i c hi ip hc,one];grind
  .rw[ZZ e];have iS:l<p:=by exact XX (UZ hl) e
   by_cases ip:i=p
   .rw[ip,zp l iS,ZZ (Ne.symm e)]
   .rw[k3 i _ hi ip (h.pw l iS),zp l iS,h.unit i l hi iS];grind
 .have lp:aw p=0:=by
   by_cases z:aw p=0
   .exact z
   .exfalso

    have hj:∀j,j<wd->sg (λk=>aw k*(A (s k) j:Rat)) p=-(aw p*(A (s p) j:Rat)):=λj hj=>by
     have:sg (λk=>aw k*(A (s k) j:Rat)) p+aw p*(A (s p) j:Rat)=0:=hz j hj
     grind
    have dk:=h.comb aw hc;rw[hj c hc,bW (g:=λl=>-(aw p)*((A (s p) (pv l):Rat)*R l c)) λl hl=>by rw[hj _ (h.pw l hl)];grind,fu]at dk;have dc:=h.dec p c hp hc;rw[ZZ (X9 p)]at dc;have b0:=g8 (WS (hb _ (h.sm p hp)));have:aw p*((b (s p):Rat)*R p c)=0:=by rw[dc]at dk;grind
    grind
  intro k hk;by_cases e:k=p
  .rw[e];exact lp
  .refine h.ind aw (λj hj=>?_) k (XX (UZ hk) e);have:sg (λk=>aw k*(A (s k) j:Rat)) p+aw p*(A (s p) j:Rat)=0:=hz j hj;rw[lp]at this
   grind
end
noncomputable def vr(r:List Int×Int)(j:Nat):Rat:=((r.1.getD j 0:Int):Rat)/(r.2:Rat)
theorem J_{f:Int->Int}(h0:f 0=0)(xs:List Int)(j:Nat):(xs.map f).getD j 0=f (xs.getD j 0):=by
 rw[au,au,aq];cases xs[j]? with
 |none=>exact h0.symm
 |some t=>rfl
theorem pN{r:List Int×Int}(h:0<r.2)(j:Nat):vr (iB r) j=vr r j:=by
 have g0:=f9 (ts:=r.1) h;obtain⟨d1,d2⟩:=gD (ts:=r.1) (b:=r.2);have e1:(iB r).1.getD j 0=r.1.getD j 0/gcL r.1 r.2:=J_ (f:=λt=>t/gcL r.1 r.2) (Int.zero_ediv _) r.1 j;have d3:gcL r.1 r.2 ∣ r.1.getD j 0:=by
  rw[au];cases e:r.1[j]? with
  |none=>exact⟨0,by rw[Int.mul_zero];rfl⟩
  |some t=>exact d2 t (aC e)
 have e2:(iB r).2=r.2/gcL r.1 r.2:=rfl;unfold vr;rw[e1,e2];generalize r.1.getD j 0=t at *;generalize gcL r.1 r.2=g at *;obtain⟨u,hu⟩:=d3;obtain⟨v,hv⟩:=d1;rw[hu,hv,Zzq _ (WS g0),Zzq _ (WS g0),XV,XV];have v0:v≠0:=λz=>by rw[hv,z,Int.mul_zero]at h;lia
 have:=g8 v0;have:=g8 (WS g0)
 grind
theorem jx{r:List Int×Int}{c:Β}(h:0<r.2)(hc:0<c.2)(j:Nat):vr (gW r c) j=vr r j*((c.1:Rat)/(c.2:Rat)):=by
 have e1:(gW r c).1.getD j 0=r.1.getD j 0*c.1:=J_ (f:=λt=>t*c.1) (Int.zero_mul _) r.1 j;have e2:(gW r c).2=r.2*c.2:=rfl;unfold vr;rw[e1,e2,XV,XV];have:=g8 (WS h);have:=g8 (WS hc)
 grind
theorem mW{r p:List Int×Int}{c:Β}(hr:0<r.2)(hp:0<p.2)(hc:0<c.2)(hl:r.1.length=p.1.length)(j:Nat):vr (m_ r p c) j=vr r j+((c.1:Rat)/(c.2:Rat))*vr p j:=by
 have hB:=XZ hp hc;have g0:=ah7 (t:=r.2) hB;obtain⟨u,hu⟩:=Int.gcd_dvd_left r.2 (p.2*c.2);obtain⟨v,hv⟩:=Q3 r.2 (p.2*c.2);have es:m_ r p c=(List.zipWith (λx y=>x*v+y*(u*c.1)) r.1 p.1,r.2*v):=by
  unfold m_;generalize((Int.gcd r.2 (p.2*c.2):Nat):Int)=g at g0 hu hv ⊢;have e1:p.2*c.2/g=v:=by rw[hv,Zzq _ (WS g0)]
  have e2:r.2/g=u:=by
   conv=>lhs;rw[hu]
   exact Zzq _ (WS g0)
  rw[e1,e2]
 generalize((Int.gcd r.2 (p.2*c.2):Nat):Int)=g at g0 hu hv;have v0:0<v:=Zwz (by rw[<- hv];exact hB) g0;have ez:(List.zipWith (λx y=>x*v+y*(u*c.1)) r.1 p.1).getD j 0=r.1.getD j 0*v+p.1.getD j 0*(u*c.1):=by
  rw[au,au,au,Zyq];by_cases e:j<r.1.length
  .rw[aj e,aj (aR e (WG hl))];rfl
  .rw[aM (VU e),aM (by lia)];show(0:Int)=0*v+0*(u*c.1);rw[Int.zero_mul,Int.zero_mul];rfl
 rw[es];unfold vr;show((List.zipWith (λx y=>x*v+y*(u*c.1)) r.1 p.1).getD j 0:Rat)/((r.2*v:Int):Rat)=_;rw[ez];generalize r.1.getD j 0=x;generalize p.1.getD j 0=y;have hu':(r.2:Rat)=(g:Rat)*(u:Rat):=by rw[<- XV,<- hu]
 have kM:(p.2:Rat)*(c.2:Rat)=(g:Rat)*(v:Rat):=by rw[<- XV,<- XV,hv]
 have r0:=g8 (WS hr);have p0:=g8 (WS hp);have c0:=g8 (WS hc);have q0:=g8 (WS v0);have k0:=g8 (WS g0);rw[Rat.intCast_add,XV,XV,XV,XV];generalize(r.2:Rat)=r2 at *;generalize(p.2:Rat)=p2 at *;generalize(c.2:Rat)=c2 at *;generalize(c.1:Rat)=c1 at *;generalize(g:Rat)=gg at *;generalize(u:Rat)=uu at *;generalize(v:Rat)=vv at *;generalize(x:Rat)=xx at *;generalize(y:Rat)=yy at *;have e1:(xx*vv+yy*(uu*c1))/(r2*vv)=xx/r2+yy*(uu*c1)/(r2*vv):=by grind
 have e2:yy*(uu*c1)/(r2*vv)=c1/c2*(yy/p2):=by
  have:uu*(c2*p2)=r2*vv:=by rw[hu',XU c2 p2,kM];grind
  grind
 rw[e1,e2]
theorem mV{M wd:Nat}{r:List Int×Int}(hr:0<r.2)(g:gcL r.1 r.2=1)(hw:r.1.length=wd){v:Nat->Int}{u:Int}(u0:u≠0)(ub:u.natAbs<=M)(vb:∀j,j<wd->(v j).natAbs<=M)(e:∀j,j<wd->vr r j*(u:Rat)=(v j:Rat)):Big M r:=by
 refine least (s:=((List.range wd).map λj=>v j*u.sign,u.natAbs)) hr g ⟨?_,λk a b ha hb=>?_⟩ ⟨?_,?_,λt ht=>?_⟩
 .show r.1.length=((List.range wd).map λj=>v j*u.sign).length;rw[hw,ak,WJ]
 .have kw:k<wd:=by rw[<- hw];exact(ao.mp ha).1
  have hb:((List.range wd).map λj=>v j*u.sign)[k]?=some b:=hb;rw[aq,Up kw]at hb;cases hb;show a*((u.natAbs:Nat):Int)=v k*u.sign*r.2;have ek:=e k kw;unfold vr at ek;rw[au,ha]at ek;have ek:(a:Rat)/(r.2:Rat)*(u:Rat)=(v k:Rat):=ek;have r0:=g8 (WS hr);have k2:a*u=v k*r.2:=by
   refine Rat.intCast_inj.mp ?_;rw[XV,XV]
   grind
  have k1:((u.natAbs:Nat):Int)=u*u.sign:=(Int.mul_sign_self u).symm;rw[k1,<- Int.mul_assoc,k2];ac_rfl
 .show(0:Int)<(u.natAbs:Nat);lia
 .show(((u.natAbs:Nat):Int)).natAbs<=M;rw[XG];exact ub
 .obtain⟨j,hj,rfl⟩:=YV.mp ht;rw[VY,Int.natAbs_sign_of_ne_zero u0,Nat.mul_one];exact vb j (List.mem_range.mp hj)
end Rw
namespace K31
open PySem PyProof.Rows L2
noncomputable abbrev zN:Stmt:=top 10
abbrev ig:Φ:=["thing"]
abbrev iC:Str:="is_whole"
abbrev Tg:Φ:=["thing"]
theorem R3:bL Tg ig (bH zN):=fsc
noncomputable abbrev DN:Stmt:=top 11
abbrev iH:Φ:=["one","other"]
abbrev iy:Str:="divisor"
abbrev WY:Φ:=["one","other","left","right","rest"]
theorem mq:bL WY iH (bH DN):=fsc
noncomputable abbrev L_:Stmt:=top 15
abbrev m9:Φ:=["top","bottom"]
abbrev nu:Str:="ratio"
abbrev acG:Φ:=["top","bottom","common"]
theorem I9:bL acG m9 (bH L_):=fsc
noncomputable abbrev zJ:Stmt:=top 16
abbrev jQ:Φ:=["thing"]
abbrev jR:Str:="is_ratio"
abbrev S7:Φ:=["thing","top","bottom"]
theorem uZ:bL S7 jQ (bH zJ):=fsc
noncomputable abbrev Td:Stmt:=top 17
abbrev CZ:Φ:=["one","other"]
abbrev BW:Str:="plus"
abbrev aex:Φ:=["one","other"]
theorem acn:bL aex CZ (bH Td):=fsc
noncomputable abbrev Mj:Stmt:=top 18
abbrev sI:Φ:=["one","other"]
abbrev tD:Str:="minus"
abbrev abh:Φ:=["one","other"]
theorem Yr:bL abh sI (bH Mj):=fsc
noncomputable abbrev Nb:Stmt:=top 19
abbrev vL:Φ:=["one","other"]
abbrev vW:Str:="times"
abbrev abt:Φ:=["one","other"]
theorem ZG:bL abt vL (bH Nb):=fsc
noncomputable abbrev T7:Stmt:=top 20
abbrev FQ:Φ:=["one","other"]
abbrev Ga:Str:="over"
abbrev afz:Φ:=["one","other"]
theorem acX:bL afz FQ (bH T7):=fsc
noncomputable abbrev O9:Stmt:=top 21
abbrev pU:Φ:=["one","other"]
abbrev pL:Str:="under"
abbrev abB:Φ:=["one","other"]
theorem Zd:bL abB pU (bH O9):=fsc
noncomputable abbrev FP:Stmt:=top 23
abbrev pI:Φ:=["fractions"]
abbrev qj:Str:="level"
abbrev Wg:Φ:=["fractions","bottom","one"]
theorem Bm:bL Wg pI (bH FP):=fsc
noncomputable abbrev Nj:Stmt:=top 24
abbrev Cg:Φ:=["fractions"]
abbrev Ce:Str:="total"
abbrev abz:Φ:=["fractions","leveled"]
theorem QZ:bL abz Cg (bH Nj):=fsc
noncomputable abbrev zE:Stmt:=top 25
abbrev qU:Φ:=["fractions"]
abbrev qx:Str:="greatest"
abbrev Sx:Φ:=["fractions","found","one"]
theorem qW:bL Sx qU (bH zE):=fsc
noncomputable abbrev Ud:Stmt:=top 27
abbrev Gi:Φ:=["thing","many"]
abbrev FW:Str:="fits"
abbrev aeE:Φ:=["thing","many"]
theorem adf:bL aeE Gi (bH Ud):=fsc
noncomputable abbrev tU:Stmt:=top 28
abbrev gO:Φ:=["hall","plan"]
abbrev gQ:Str:="check_plan"
abbrev Mt:Φ:=["hall","plan","room","thing"]
theorem qZ:bL Mt gO (bH tU):=fsc
noncomputable abbrev jz:Stmt:=top 29
abbrev lJ:Φ:=["offer","tops"]
abbrev lB:Str:="behind_door"
abbrev jj:Φ:=["offer","tops","leveled"]
theorem xu:bL jj lJ (bH jz):=fsc
noncomputable abbrev rF:Stmt:=top 30
abbrev jY:Φ:=["hall","offer","leveled"]
abbrev lU:Str:="raised_look"
abbrev J8:Φ:=["hall","offer","leveled","behind"]
theorem wZ:bL J8 jY (bH rF):=fsc
noncomputable abbrev B_:Stmt:=top 32
abbrev tK:Φ:=["tops","bottom"]
abbrev sH:Str:="lowest"
abbrev Qk:Φ:=["tops","bottom","common","top"]
theorem xW:bL Qk tK (bH B_):=fsc
noncomputable abbrev qD:Stmt:=top 33
abbrev oX:Φ:=["row","often"]
abbrev oE:Str:="row_times"
abbrev vg:Φ:=["row","often"]
theorem Ly:bL vg oX (bH qD):=fsc
noncomputable abbrev ud:Stmt:=top 34
abbrev qG:Φ:=["row","other","often"]
abbrev qy:Str:="row_plus"
noncomputable abbrev zP:Φ:=["row","other","often","bottom","common","own","added","tops"]
theorem jW:bL zP qG (bH ud):=fsc
noncomputable abbrev u_:Stmt:=top 35
abbrev oA:Φ:=["leveled","step"]
abbrev oR:Str:="take_step"
abbrev QB:Φ:=["leveled","step","row"]
theorem Ca:bL QB oA (bH u_):=fsc
noncomputable abbrev xG:Stmt:=top 36
abbrev j6:Φ:=["row","column"]
abbrev kJ:Str:="number_at"
abbrev QH:Φ:=["row","column"]
theorem Mx:bL QH j6 (bH xG):=fsc
noncomputable abbrev iG:Stmt:=top 37
abbrev jD:Φ:=["leveled"]
abbrev jG:Str:="fractions_of"
abbrev iw:Φ:=["leveled"]
theorem Fv:bL iw jD (bH iG):=fsc
noncomputable abbrev t_:Stmt:=top 38
abbrev mZ:Φ:=["leveled","place","column"]
abbrev mU:Str:="first_from"
abbrev LK:Φ:=["leveled","place","column","row"]
theorem yS:bL LK mZ (bH t_):=fsc
noncomputable abbrev O7:Stmt:=top 39
abbrev vU:Φ:=["leveled","steps","step"]
abbrev xg:Str:="go_on"
abbrev acf:Φ:=["leveled","steps","step"]
theorem YD:bL acf vU (bH O7):=fsc
noncomputable abbrev xH:Stmt:=top 40
abbrev nZ:Φ:=["leveled","steps","place","found","column"]
abbrev o8:Str:="begin_row"
noncomputable abbrev Q_:Φ:=["leveled","steps","place","found","column","first"]
theorem Bc:bL Q_ nZ (bH xH):=fsc
noncomputable abbrev pO:Stmt:=top 41
abbrev jF:Φ:=["leveled","steps","place","column"]
abbrev jM:Str:="clear_column"
abbrev Jk:Φ:=["leveled","steps","place","column","row","often"]
theorem nP:bL Jk jF (bH pO):=fsc
noncomputable abbrev yC:Stmt:=top 42
abbrev um:Φ:=["rows","wide"]
abbrev uw:Str:="reduced"
noncomputable abbrev Dq:Φ:=["rows","wide","leveled","steps","place","column","found"]
theorem jP:bL Dq um (bH yC):=fsc
noncomputable abbrev zQ:Stmt:=top 44
abbrev qF:Φ:=["rows"]
abbrev qX:Str:="width_of"
abbrev T5:Φ:=["rows"]
theorem Rv:bL T5 qF (bH zQ):=fsc
noncomputable abbrev mJ:Stmt:=top 45
abbrev lQ:Φ:=["rows","rights"]
abbrev lO:Str:="with_rights"
abbrev rG:Φ:=["rows","rights"]
theorem HN:bL rG lQ (bH mJ):=fsc
noncomputable abbrev qz:Stmt:=top 46
abbrev oJ:Φ:=["end","wide"]
abbrev nY:Str:="begins_of"
abbrev vB:Φ:=["end","wide","begins","row","columns"]
theorem oh:bL vB oJ (bH qz):=fsc
noncomputable abbrev Di:Stmt:=top 47
abbrev uG:Φ:=["end","begins","wide"]
abbrev uz:Str:="odd_row"
abbrev XH:Φ:=["end","begins","wide","row"]
theorem Iw:bL XH uG (bH Di):=fsc
noncomputable abbrev vX:Stmt:=top 48
abbrev oN:Φ:=["end","begins","wide"]
abbrev ou:Str:="answer_of"
abbrev Q9:Φ:=["end","begins","wide","answer","row","column"]
theorem nT:bL Q9 oN (bH vX):=fsc
noncomputable abbrev ju:Stmt:=top 49
abbrev lG:Φ:=["many"]
abbrev j5:Str:="single_rows"
abbrev jw:Φ:=["many"]
theorem Hr:bL jw lG (bH ju):=fsc
noncomputable abbrev rQ:Stmt:=top 50
abbrev kY:Φ:=["rows","rights"]
abbrev lK:Str:="only_answer"
abbrev Ju:Φ:=["rows","rights","wide","end","begins"]
theorem lE:bL Ju kY (bH rQ):=fsc
noncomputable abbrev lg:Stmt:=top 52
abbrev jB:Φ:=["hall","plan"]
abbrev jL:Str:="chosen_doors"
abbrev pR:Φ:=["hall","plan"]
theorem Et:bL pR jB (bH lg):=fsc
noncomputable abbrev v7:Stmt:=top 53
abbrev oW:Φ:=["share","chosen"]
abbrev oO:Str:="left_rows"
noncomputable abbrev QJ:Φ:=["share","chosen","rows","room","offer","behind","chance"]
theorem iK:bL QJ oW (bH v7):=fsc
noncomputable abbrev qQ:Stmt:=top 54
abbrev oM:Φ:=["hall","plan"]
abbrev oH:Str:="worths_of"
abbrev w5:Φ:=["hall","plan","chosen","pays"]
theorem ur:bL w5 oM (bH qQ):=fsc
noncomputable abbrev rK:Stmt:=top 56
abbrev j9:Φ:=["seen","door"]
abbrev kW:Str:="better_door"
abbrev J9:Φ:=["seen","door","most"]
theorem vf:bL J9 j9 (bH rK):=fsc
noncomputable abbrev Ay:Stmt:=top 57
abbrev yt:Φ:=["hall","plan","worths"]
abbrev yu:Str:="mended"
noncomputable abbrev Ho:Φ:=["hall","plan","worths","leveled","told","room","door","seen"]
theorem pB:bL Ho yt (bH Ay):=fsc
noncomputable abbrev zx:Stmt:=top 58
abbrev qP:Φ:=["hall","plan"]
abbrev qL:Str:="mendings"
abbrev T3:Φ:=["hall","plan","told","coming"]
theorem qI:bL T3 qP (bH zx):=fsc
noncomputable abbrev Dp:Stmt:=top 60
abbrev p7:Φ:=["hall"]
abbrev qu:Str:="wait_of"
abbrev Wy:Φ:=["hall","top","bottom","many","tops","bottoms"]
theorem gB:bL Wy p7 (bH Dp):=fsc
noncomputable abbrev gK:Stmt:=top 61
abbrev iM:Φ:=["hall"]
abbrev iT:Str:="most_mendings"
abbrev gG:Φ:=["hall","doors"]
theorem sY:bL gG iM (bH gK):=fsc
noncomputable abbrev yw:Stmt:=top 64
abbrev mC:Φ:=["thing"]
abbrev mD:Str:="is_word"
abbrev Eb:Φ:=["thing"]
theorem TX:bL Eb mC (bH yw):=fsc
noncomputable abbrev ux:Stmt:=top 66
abbrev jA:Φ:=["name","pay"]
abbrev jq:Str:="check_head"
abbrev LQ:Φ:=["name","pay"]
theorem Jz:bL LQ jA (bH ux):=fsc
noncomputable abbrev lN:Stmt:=top 67
abbrev eX:Φ:=["room"]
abbrev eN:Str:="check_room_name"
abbrev Bp:Φ:=["room"]
theorem zj:bL Bp eX (bH lN):=fsc
noncomputable abbrev qm:Stmt:=top 68
abbrev gH:Φ:=["chance"]
abbrev gF:Str:="check_chance"
abbrev Hq:Φ:=["chance"]
theorem Fp:bL Hq gH (bH qm):=fsc
noncomputable abbrev mO:Stmt:=top 69
abbrev kZ:Φ:=["pairs"]
abbrev lD:Str:="check_pairs"
abbrev su:Φ:=["pairs","room","chance"]
theorem pQ:bL su kZ (bH mO):=fsc
noncomputable abbrev mG:Stmt:=top 70
abbrev kj:Φ:=["pairs"]
abbrev lA:Str:="joined_ways"
abbrev yG:Φ:=["pairs","chances","room","chance"]
theorem kI:bL yG kj (bH mG):=fsc
noncomputable abbrev rT:Stmt:=top 77
abbrev kO:Φ:=["share"]
abbrev lR:Str:="check_share"
abbrev JC:Φ:=["share"]
theorem G6:bL JC kO (bH rT):=fsc
noncomputable abbrev tY:Stmt:=top 78
abbrev mX:Φ:=["rooms"]
abbrev mH:Str:="numbers_of"
abbrev O_:Φ:=["rooms","numbers","room","name"]
theorem mQ:bL O_ mX (bH tY):=fsc
noncomputable abbrev nH:Stmt:=top 79
abbrev iQ:Φ:=["door","numbers"]
abbrev jc:Str:="numbered_ways"
abbrev Ez:Φ:=["door","numbers","numbered","name","chance"]
theorem iW:bL Ez iQ (bH nH):=fsc
noncomputable abbrev vI:Stmt:=top 80
abbrev o9:Φ:=["doors","numbers"]
abbrev oK:Str:="offers_of"
abbrev Rp:Φ:=["doors","numbers","taken","told","door"]
theorem n8:bL Rp o9 (bH vI):=fsc
noncomputable abbrev Uw:Stmt:=top 83
abbrev uK:Φ:=["_law_script","_law_k"]
abbrev uD:Str:="_law_cell"
abbrev aeB:Φ:=["_law_script","_law_k"]
theorem abb:bL aeB uK (bH Uw):=fsc
noncomputable abbrev I8:Stmt:=top 84
abbrev fH:Φ:=["_law_cell_here","_law_many"]
abbrev fJ:Str:="_law_stream"
noncomputable abbrev Zr:Φ:=["_law_cell_here","_law_many","_law_found","_law_number","_law_digits","_law_k"]
theorem jT:bL Zr fH (bH I8):=fsc
noncomputable abbrev aaE:Stmt:=top 85
abbrev NZ:Φ:=["_law_one","_law_other"]
abbrev Lh:Str:="_law_gcd"
abbrev aj0:Φ:=["_law_one","_law_other","_law_low","_law_high"]
theorem Mu:bL aj0 NZ (bH aaE):=fsc
noncomputable abbrev Jb:Stmt:=top 86
abbrev pA:Φ:=["_law_top_here","_law_bottom"]
abbrev pF:Str:="_law_ratio"
abbrev YM:Φ:=["_law_top_here","_law_bottom","_law_common"]
theorem Kg:bL YM pA (bH Jb):=fsc
noncomputable abbrev xQ:Stmt:=top 87
abbrev Aj:Φ:=["_law_cell_here","_law_many"]
abbrev Ad:Str:="_law_names"
noncomputable abbrev uI:Φ:=["_law_cell_here","_law_many","_law_letters","_law_xs","_law_base","_law_at","_law_step"]
theorem tL:bL uI Aj (bH xQ):=fsc
noncomputable abbrev Np:Stmt:=top 88
abbrev Ai:Φ:=["_law_cell_here"]
abbrev Ag:Str:="_law_share"
abbrev ab5:Φ:=["_law_cell_here","_law_xs","_law_bottom"]
theorem GZ:bL ab5 Ai (bH Np):=fsc
noncomputable abbrev Yd:Stmt:=top 89
abbrev MN:Φ:=["_law_cell_here","_law_x","_law_y"]
abbrev N7:Str:="_law_pay"
abbrev ahx:Φ:=["_law_cell_here","_law_x","_law_y"]
theorem ad9:bL ahx MN (bH Yd):=fsc
noncomputable abbrev zf:Stmt:=top 90
abbrev GF:Φ:=["_law_cell_here","_law_many"]
abbrev Gx:Str:="_law_door"
noncomputable abbrev uf:Φ:=["_law_cell_here","_law_many","_law_xs","_law_rooms_here","_law_sort","_law_pairs","_law_bottom","_law_part","_law_weights"]
theorem jE:bL uf GF (bH zf):=fsc
noncomputable abbrev Gm:Stmt:=top 91
abbrev BR:Φ:=["_law_script","_law_at","_law_many","_law_most"]
abbrev Cd:Str:="_law_doors"
noncomputable abbrev Vl:Φ:=["_law_script","_law_at","_law_many","_law_most","_law_rooms_here","_law_first","_law_cells","_law_k","_law_cell_here","_law_room","_law_door_here"]
theorem ji:bL Vl BR (bH Gm):=fsc
noncomputable abbrev z8:Stmt:=top 92
abbrev Cw:Φ:=["_law_title","_law_door_here","_law_names_here"]
abbrev Cr:Str:="_law_built"
noncomputable abbrev Cy:Φ:=["_law_title","_law_door_here","_law_names_here","_law_told","_law_sort","_law_pay_here","_law_pairs"]
theorem wQ:bL Cy Cw (bH z8):=fsc
noncomputable abbrev LR:Stmt:=top 93
noncomputable abbrev Gr:Φ:=["_law_cell_here","_law_share_here","_law_rooms_here"]
abbrev Gd:Str:="_law_hall"
noncomputable abbrev Sh:Φ:=["_law_cell_here","_law_share_here","_law_rooms_here","_law_names_here","_law_found","_law_k","_law_titles"]
theorem Cz:bL Sh Gr (bH LR):=fsc
noncomputable abbrev Jj:Stmt:=top 94
abbrev yc:Φ:=["_law_cell_here","_law_rooms_here"]
abbrev xR:Str:="_law_chosen"
noncomputable abbrev Ys:Φ:=["_law_cell_here","_law_rooms_here","_law_xs","_law_found","_law_k"]
theorem xU:bL Ys yc (bH Jj):=fsc
noncomputable abbrev Tq:Stmt:=top 95
noncomputable abbrev Gz:Φ:=["_law_share_here","_law_door_here","_law_worths"]
abbrev GP:Str:="_law_look"
noncomputable abbrev afE:Φ:=["_law_share_here","_law_door_here","_law_worths","_law_top_here","_law_bottom","_law_room","_law_chance","_law_part"]
theorem mY:bL afE Gz (bH Tq):=fsc
noncomputable abbrev Ms:Stmt:=top 96
abbrev sV:Φ:=["_law_one","_law_other"]
abbrev sU:Str:="_law_below"
abbrev ac3:Φ:=["_law_one","_law_other"]
theorem aal:bL ac3 sV (bH Ms):=fsc
noncomputable abbrev S8:Stmt:=top 97
abbrev Gg:Φ:=["_law_cell_here"]
abbrev Gh:Str:="_law_size"
abbrev af6:Φ:=["_law_cell_here","_law_xs"]
theorem Vx:bL af6 Gg (bH S8):=fsc
noncomputable abbrev yX:Stmt:=top 98
abbrev qH:Φ:=["_law_cell_here","_law_many"]
abbrev qT:Str:="_law_corridor"
noncomputable abbrev Tv:Φ:=["_law_cell_here","_law_many","_law_pay_here","_law_found","_law_k"]
theorem qK:bL Tv qH (bH yX):=fsc
noncomputable abbrev Ou:Stmt:=top 99
abbrev Bj:Φ:=["_law_script"]
abbrev Af:Str:="_law_rooms"
abbrev abC:Φ:=["_law_script","_law_xs"]
theorem Rx:bL abC Bj (bH Ou):=fsc
noncomputable abbrev Gk:Stmt:=top 100
abbrev Ak:Φ:=["_law_script","_law_rooms_here"]
abbrev Bb:Str:="_law_start"
abbrev Og:Φ:=["_law_script","_law_rooms_here"]
theorem Yz:bL Og Ak (bH Gk):=fsc
noncomputable abbrev U6:Stmt:=top 101
abbrev Cu:Φ:=["_law_one","_law_other"]
abbrev Ck:Str:="_law_less"
abbrev aep:Φ:=["_law_one","_law_other"]
theorem abM:bL aep Cu (bH U6):=fsc
noncomputable abbrev Zx:Stmt:=top 102
abbrev Hz:Φ:=["_law_some"]
abbrev Ih:Str:="_law_top"
abbrev ajG:Φ:=["_law_some","_law_best","_law_one"]
theorem Nz:bL ajG Hz (bH Zx):=fsc
noncomputable abbrev VR:Stmt:=top 103
abbrev Pa:Φ:=["_law_last","_law_worths"]
abbrev N_:Str:="_law_far"
abbrev aag:Φ:=["_law_last","_law_worths"]
theorem afX:bL aag Pa (bH VR):=fsc
noncomputable abbrev Ni:Stmt:=top 104
noncomputable abbrev CW:Φ:=["_law_share_here","_law_rooms_here","_law_plan","_law_last"]
abbrev Cv:Str:="_law_lacks"
noncomputable abbrev ac8:Φ:=["_law_share_here","_law_rooms_here","_law_plan","_law_last","_law_found","_law_k","_law_lack"]
theorem wL:bL ac8 CW (bH Ni):=fsc
noncomputable abbrev Sv:Stmt:=top 105
noncomputable abbrev Gn:Φ:=["_law_share_here","_law_rooms_here","_law_found","_law_at","_law_wait"]
abbrev GJ:Str:="_law_gone"
noncomputable abbrev aeK:Φ:=["_law_share_here","_law_rooms_here","_law_found","_law_at","_law_wait","_law_some","_law_best","_law_room","_law_plan","_law_worths"]
theorem yr:bL aeK Gn (bH Sv):=fsc
noncomputable abbrev Vs:Stmt:=top 106
abbrev U5:Φ:=["_law_script"]
abbrev M8:Str:="law"
noncomputable abbrev ajw:Φ:=["_law_script","_law_share_here","_law_rooms_here","_law_hall_here","_law_plan","_law_found","_law_wait","_law_last","_law_k","_law_far_here","_law_due"]
theorem pG:bL ajw U5 (bH Vs):=fsc
noncomputable abbrev vR:Stmt:=fU 71 0
abbrev kE:Φ:=["self","name","pay"]
abbrev BX:Str:="__init__"
abbrev Bf:Str:="Door.__init__"
abbrev Qa:Φ:=["self","name","pay"]
theorem Nf:bL Qa kE (bH vR):=fsc
noncomputable abbrev wg:Stmt:=fU 71 1
abbrev oU:Φ:=["self"]
abbrev BJ:Str:="ways"
abbrev CV:Str:="Door.ways"
abbrev QL:Φ:=["self"]
theorem K1:bL QL oU (bH wg):=fsc
noncomputable abbrev vK:Stmt:=fU 72 0
abbrev oY:Φ:=["self","name","pay","room"]
abbrev Bv:Str:="__init__"
abbrev Bl:Str:="Sure.__init__"
abbrev Pz:Φ:=["self","name","pay","room"]
theorem Oz:bL Pz oY (bH vK):=fsc
noncomputable abbrev uE:Stmt:=fU 73 0
abbrev gP:Φ:=["self","name","pay","pairs"]
abbrev yP:Str:="__init__"
abbrev yU:Str:="Mixed.__init__"
abbrev O8:Φ:=["self","name","pay","pairs"]
theorem JW:bL O8 gP (bH uE):=fsc
noncomputable abbrev u5:Stmt:=fU 74 0
abbrev oV:Φ:=["self","name","pay","chance","room","other"]
abbrev CT:Str:="__init__"
abbrev Aw:Str:="Toss.__init__"
abbrev Pn:Φ:=["self","name","pay","chance","room","other"]
theorem Ls:bL Pn oV (bH u5):=fsc
noncomputable abbrev qN:Stmt:=fU 75 0
abbrev nW:Φ:=["self","name","pay","rooms"]
abbrev Bh:Str:="__init__"
abbrev zY:Str:="Even.__init__"
abbrev wN:Φ:=["self","name","pay","rooms"]
theorem N5:bL wN nW (bH qN):=fsc
noncomputable abbrev qY:Stmt:=fU 81 0
abbrev n_:Φ:=["self","share","rooms"]
abbrev z6:Str:="__init__"
abbrev Cq:Str:="Hall.__init__"
abbrev xq:Φ:=["self","share","rooms"]
theorem Oc:bL xq n_ (bH qY):=fsc
noncomputable abbrev w6:Stmt:=fU 81 1
abbrev iI:Φ:=["self"]
abbrev Am:Str:="size"
abbrev Aq:Str:="Hall.size"
abbrev Rg:Φ:=["self"]
theorem Lg:bL Rg iI (bH w6):=fsc
noncomputable abbrev lC:Stmt:=fU 81 4
abbrev gA:Φ:=["self","room"]
abbrev pJ:Str:="check_room"
abbrev pZ:Str:="Hall.check_room"
abbrev CJ:Φ:=["self","room"]
theorem zm:bL CJ gA (bH lC):=fsc
noncomputable abbrev mR:Stmt:=fU 81 6
abbrev eZ:Φ:=["self","room"]
abbrev vJ:Str:="offers"
abbrev uW:Str:="Hall.offers"
abbrev rD:Φ:=["self","room"]
theorem Ja:bL rD eZ (bH mR):=fsc
structure Adr where
 Door:Addr
 Sure:Addr
 Mixed:Addr
 Toss:Addr
 Even:Addr
 Hall:Addr
 NOUGHT:Addr
 ONE:Addr
 Door_init:Addr
 Door_ways:Addr
 Sure_init:Addr
 Mixed_init:Addr
 Toss_init:Addr
 Even_init:Addr
 Hall_init:Addr
 Hall_size:Addr
 Hall_check_room:Addr
 Hall_offers:Addr
structure Txt(K:Frag)(mg:Str->Ω)(D:Adr):Prop where
 YL:mg "Door"=some (.ref D.Door)
 ags:mg "Even"=some (.ref D.Even)
 aed:mg "Hall"=some (.ref D.Hall)
 Mg:mg "Mixed"=some (.ref D.Mixed)
 jm:mg "NOUGHT"=some (.ref D.NOUGHT)
 Ek:mg "ONE"=some (.ref D.ONE)
 afA:mg "Sure"=some (.ref D.Sure)
 agf:mg "Toss"=some (.ref D.Toss)
 G9:∃u,mg "LONGEST_WORD"=some u/\RelV (.int 8) u
 gM:∀H,SqT K H D.NOUGHT [.int 0,.int 1]
 wJ:∀H,SqT K H D.ONE [.int 1,.int 1]
 Yk:Cls K D.Door
 Om:Meth K D.Door "ways" D.Door_ways
 Jq:cA K D.Door "leads"
 Le:cA K D.Door "name"
 Fy:cA K D.Door "numbers"
 Fg:cA K D.Door "offered"
 Qg:cA K D.Door "pay"
 JV:cA K D.Door "share"
 acJ:Mk K D.Sure D.Sure_init
 ZR:Cls K D.Sure
 M5:Meth K D.Sure "ways" D.Door_ways
 Jr:cA K D.Sure "leads"
 K8:cA K D.Sure "name"
 Fb:cA K D.Sure "numbers"
 Fi:cA K D.Sure "offered"
 Qc:cA K D.Sure "pay"
 JX:cA K D.Sure "share"
 aaI:Mk K D.Mixed D.Mixed_init
 Xw:Cls K D.Mixed
 JL:Meth K D.Mixed "ways" D.Door_ways
 Jc:cA K D.Mixed "leads"
 Jy:cA K D.Mixed "name"
 Dy:cA K D.Mixed "numbers"
 Ea:cA K D.Mixed "offered"
 Lf:cA K D.Mixed "pay"
 I_:cA K D.Mixed "share"
 ab4:Mk K D.Toss D.Toss_init
 aaR:Cls K D.Toss
 Nq:Meth K D.Toss "ways" D.Door_ways
 Jw:cA K D.Toss "leads"
 K5:cA K D.Toss "name"
 Fx:cA K D.Toss "numbers"
 Fd:cA K D.Toss "offered"
 RW:cA K D.Toss "pay"
 J0:cA K D.Toss "share"
 abq:Mk K D.Even D.Even_init
 YC:Cls K D.Even
 K4:Meth K D.Even "ways" D.Door_ways
 JZ:cA K D.Even "leads"
 Mi:cA K D.Even "name"
 Fe:cA K D.Even "numbers"
 FJ:cA K D.Even "offered"
 Pk:cA K D.Even "pay"
 J3:cA K D.Even "share"
 ac5:Mk K D.Hall D.Hall_init
 lH:Cls K D.Hall
 yZ:Meth K D.Hall "check_room" D.Hall_check_room
 lF:Meth K D.Hall "offers" D.Hall_offers
 uo:Meth K D.Hall "size" D.Hall_size
 JD:cA K D.Hall "leads"
 Ln:cA K D.Hall "name"
 Eu:cA K D.Hall "numbers"
 EY:cA K D.Hall "offered"
 Qy:cA K D.Hall "pay"
 JG:cA K D.Hall "share"
 Cj:Er K D.Door "__init__" D.Door_init
 Mq:zA K BX Bf vR kE D.Door_init
 Oj:zA K BJ CV wg oU D.Door_ways
 Ob:zA K Bv Bl vK oY D.Sure_init
 yJ:Er K D.Mixed "__init__" D.Mixed_init
 JM:zA K yP yU uE gP D.Mixed_init
 M4:zA K CT Aw u5 oV D.Toss_init
 NK:zA K Bh zY qN nW D.Even_init
 NQ:zA K z6 Cq qY n_ D.Hall_init
 Lb:zA K Am Aq w6 iI D.Hall_size
 zK:zA K pJ pZ lC gA D.Hall_check_room
 Ij:zA K vJ uW mR eZ D.Hall_offers
 PB:mg "abs"=none
 akO:mg "all"=none
 afD:mg "bool"=none
 nq:mg "enumerate"=none
 adR:mg "int"=none
 j_:mg "isinstance"=none
 dY:mg "len"=none
 OD:mg "list"=none
 dO:mg "range"=none
 Yw:mg "sorted"=none
 ahq:mg "str"=none
 Vj:mg "sum"=none
 acg:mg "tuple"=none
 Ph:mg "zip"=none
 Tn:cL K mg iC zN ig
 XJ:cL K mg iy DN iH
 abw:cL K mg nu L_ m9
 Uk:cL K mg jR zJ jQ
 afJ:cL K mg BW Td CZ
 ab9:cL K mg tD Mj sI
 ac7:cL K mg vW Nb vL
 aeA:cL K mg Ga T7 FQ
 acE:cL K mg pL O9 pU
 acL:cL K mg qj FP pI
 f_total:cL K mg Ce Nj Cg
 TQ:cL K mg qx zE qU
 ae8:cL K mg FW Ud Gi
 MJ:cL K mg gQ tU gO
 JN:cL K mg lB jz lJ
 JK:cL K mg lU rF jY
 Y0:cL K mg sH B_ tK
 Qj:cL K mg oE qD oX
 Ur:cL K mg qy ud qG
 Rq:cL K mg oR u_ oA
 RQ:cL K mg kJ xG j6
 IK:cL K mg jG iG jD
 Ol:cL K mg mU t_ mZ
 ac1:cL K mg xg O7 vU
 Ro:cL K mg o8 xH nZ
 GR:cL K mg jM pO jF
 Wu:cL K mg uw yC um
 S5:cL K mg qX zQ qF
 Jv:cL K mg lO mJ lQ
 RJ:cL K mg nY qz oJ
 XM:cL K mg uz Di uG
 RL:cL K mg ou vX oN
 JR:cL K mg j5 ju lG
 JH:cL K mg lK rQ kY
 H_:cL K mg jL lg jB
 RM:cL K mg oO v7 oW
 Rk:cL K mg oH qQ oM
 J7:cL K mg kW rK j9
 Yu:cL K mg yu Ay yt
 Uu:cL K mg qL zx qP
 Xg:cL K mg qu Dp p7
 Fz:cL K mg iT gK iM
 Xc:cL K mg mD yw mC
 Li:cL K mg jq ux jA
 CN:cL K mg eN lN eX
 Ia:cL K mg gF qm gH
 Jp:cL K mg lD mO kZ
 Jx:cL K mg lA mG kj
 JQ:cL K mg lR rT kO
 Oq:cL K mg mH tY mX
 Ft:cL K mg jc nH iQ
 Q6:cL K mg oK vI o9
 afR:cL K mg uD Uw uK
 ZV:cL K mg fJ I8 fH
 ag6:cL K mg Lh aaE NZ
 aaf:cL K mg pF Jb pA
 acH:cL K mg Ad xQ Aj
 abT:cL K mg Ag Np Ai
 ahw:cL K mg N7 Yd MN
 afm:cL K mg Gx zf GF
 adv:cL K mg Cd Gm BR
 acd:cL K mg Cr z8 Cw
 afU:cL K mg Gd LR Gr
 aac:cL K mg xR Jj yc
 f_look:cL K mg GP Tq Gz
 adD:cL K mg sU Ms sV
 afh:cL K mg Gh S8 Gg
 TF:cL K mg qT yX qH
 abf:cL K mg Af Ou Bj
 abX:cL K mg Bb Gk Ak
 agm:cL K mg Ck U6 Cu
 ag3:cL K mg Ih Zx Hz
 aiK:cL K mg N_ VR Pa
 adk:cL K mg Cv Ni CW
 afk:cL K mg GJ Sv Gn
def Fam(D:Adr)(C:Addr):Prop:=C=D.Door\/C=D.Sure\/C=D.Mixed\/C=D.Toss\/C=D.Even\/C=D.Hall
theorem Txt.cl{K:Frag}{mg:Str->Ω}{D:Adr}(T:Txt K mg D):∀C,Fam D C->Cls K C:=by
 rintro C (rfl|rfl|rfl|rfl|rfl|rfl)
 .exact T.Yk
 .exact T.ZR
 .exact T.Xw
 .exact T.aaR
 .exact T.YC
 .exact T.lH
theorem Txt.Bt{K:Frag}{mg:Str->Ω}{D:Adr}(T:Txt K mg D):∀C,Fam D C->cA K C "leads":=by
 rintro C (rfl|rfl|rfl|rfl|rfl|rfl)
 .exact T.Jq
 .exact T.Jr
 .exact T.Jc
 .exact T.Jw
 .exact T.JZ
 .exact T.JD
theorem Txt.Gb{K:Frag}{mg:Str->Ω}{D:Adr}(T:Txt K mg D):∀C,Fam D C->cA K C "name":=by
 rintro C (rfl|rfl|rfl|rfl|rfl|rfl)
 .exact T.Le
 .exact T.K8
 .exact T.Jy
 .exact T.K5
 .exact T.Mi
 .exact T.Ln
theorem Txt.zG{K:Frag}{mg:Str->Ω}{D:Adr}(T:Txt K mg D):∀C,Fam D C->cA K C "numbers":=by
 rintro C (rfl|rfl|rfl|rfl|rfl|rfl)
 .exact T.Fy
 .exact T.Fb
 .exact T.Dy
 .exact T.Fx
 .exact T.Fe
 .exact T.Eu
theorem Txt.HW{K:Frag}{mg:Str->Ω}{D:Adr}(T:Txt K mg D):∀C,Fam D C->cA K C "offered":=by
 rintro C (rfl|rfl|rfl|rfl|rfl|rfl)
 .exact T.Fg
 .exact T.Fi
 .exact T.Ea
 .exact T.Fd
 .exact T.FJ
 .exact T.EY
theorem Txt.aaZ{K:Frag}{mg:Str->Ω}{D:Adr}(T:Txt K mg D):∀C,Fam D C->cA K C "pay":=by
 rintro C (rfl|rfl|rfl|rfl|rfl|rfl)
 .exact T.Qg
 .exact T.Qc
 .exact T.Lf
 .exact T.RW
 .exact T.Pk
 .exact T.Qy
theorem Txt.vq{K:Frag}{mg:Str->Ω}{D:Adr}(T:Txt K mg D):∀C,Fam D C->cA K C "share":=by
 rintro C (rfl|rfl|rfl|rfl|rfl|rfl)
 .exact T.JV
 .exact T.JX
 .exact T.I_
 .exact T.J0
 .exact T.J3
 .exact T.JG
def c7(D:Adr)(C:Addr):Prop:=C=D.Door\/C=D.Sure\/C=D.Mixed\/C=D.Toss\/C=D.Even
theorem c7.fam{D:Adr}{C:Addr}(h:c7 D C):Fam D C:=by
 unfold c7 at h;unfold Fam;rcases h with h|h|h|h|h<;>simp[h]
theorem Txt.M6{K:Frag}{mg:Str->Ω}{D:Adr}(T:Txt K mg D):∀C,c7 D C->Meth K C "ways" D.Door_ways:=by
 rintro C (rfl|rfl|rfl|rfl|rfl)
 .exact T.Om
 .exact T.M5
 .exact T.JL
 .exact T.Nq
 .exact T.K4
section
variable{P:Program}{w:World}{K:Frag}{mg:Str->Ω}{base:Heap}{D:Adr}{f:Addr}{fd:FuncData}
noncomputable abbrev frT(f:Β):T:=.tup [.int f.1,.int f.2]
noncomputable def isW:T->Option Bool
 |.int _=>some true
 |.bl _=>some false
 |.non=>some false
 |.str _=>some false
 |.tup _=>some false
 |.lst _=>some false
 |_=>none
def nC:ST:=λts q=>∃t b,ts=[t]/\isW t=some b/\q (.fz (.bl b))
theorem Qe(F:Fun K iC iC zN f fd)(T:Txt K mg D):cj P w K mg base CX0 1 f fd ig (spT K nC):=by
 refine F.okT R3 (λts R hP=>by obtain⟨t,b,e,_⟩:=hP;exact e ▸ rfl) λag A outer s H E hr=>?_;refine⟨_,(bG (bQ (Uy (Ji .int (qv 0) (by rfl) T.j_ (by rfl) T.adR boot_int) (Um (af4 (Ji .bool (qv 0) (by rfl) T.j_ (by rfl) T.afD boot_bool)))))),?_⟩;rintro _ R ⟨t,b,rfl,h,q⟩;cases t<;>cases h<;>exact q
def lY:ST:=λts q=>∃a b,ts=[.int a,.int b]/\q (.fz (.int (Int.gcd a b)))
theorem SQ(F:Fun K iy iy DN f fd)(T:Txt K mg D):cj P w K mg base CX0 1 f fd iH (spT K lY):=by
 refine F.okT mq (λts R hP=>by obtain⟨t,b,e,_⟩:=hP;exact e ▸ rfl) λag A outer s H E hr=>?_;refine⟨_,(bC (bM 2 mq.nd (Or.inl rfl) (bV HS (by rfl) T.PB boot_abs (bx (qv 0) bF)))
  (bC (bM 3 mq.nd (Or.inl rfl) (bV HS (by rfl) T.PB boot_abs (bx (qv 1) bF)))
  (bC (Ae VZ (bY (tO hr.units) (qv 3) bA)
  (bC (bM 4 mq.nd (Or.inl rfl) (bK cC (qv 2) (qv 3)))
  (bC (bM 2 mq.nd (Or.inl rfl) (qv 3))
  (bG (bM 3 mq.nd (Or.inl rfl) (qv 4))))))
  (bG (bQ (qv 2)))))),?_⟩
 rintro _ R ⟨a,b,rfl,q⟩;refine⟨λm o=>∃(l r:Nat)(x:OT),o=[.fz (.int a),.fz (.int b),.fz (.int l),.fz (.int r),x]/\Nat.gcd l r=Int.gcd a b/\m=r,⟨_,_,_,_,rfl,rfl,rfl⟩,?_⟩;rintro m _ ⟨l,r,x,rfl,hg,hm⟩;refine sw2 (λh=>?_) λh=>?_
 .have hr:r≠0:=by intro z;subst z;cases h
  refine⟨λo=>∃x,o=[.fz (.int a),.fz (.int b),.fz (.int r),.fz (.int ((l%r:Nat):Int)),x],?_,?_⟩
  .rintro _ ⟨x,rfl⟩;exact⟨l%r,by have:=Nat.mod_lt l (Nat.pos_of_ne_zero hr);lia,r,l%r,x,rfl,(Nat.gcd_comm r (l%r)).trans ((Nat.gcd_rec r l).symm.trans ((Nat.gcd_comm r l).trans hg)),rfl⟩
  .exact⟨by lia,_,by rw[Int.natCast_emod];rfl⟩
 .have hr:r=0:=by
   by_cases z:r=0
   .exact z
   .have:(decide ((r:Int)=0))=false:=Zp (by lia);rw[show xr true (decide ((r:Int)=0)) = !decide ((r:Int)=0)from rfl,this]at h;cases h
  subst hr;rw[Nat.gcd_zero_right]at hg;rw[<- hg]at q;exact q
structure Low(t b x y:Int):Prop where
 pos:0<y
 gcd:Int.gcd x y=1
 eq:x*b=t*y
 lx:x.natAbs<=t.natAbs
 ly:y.natAbs<=b.natAbs
theorem G5{c q:Int}(h:c≠0):Int.fdiv (c*q) c=q:=by
 rw[Zwy (Int.dvd_mul_right c q),Zzq _ h]
theorem Jg{c q:Int}(h:c≠0):q.natAbs<=(c*q).natAbs:=by
 rw[VY];exact Zxw _ (by lia)
theorem wU{t b c:Int}(hb:b≠0)(hc:c≠0)(hg:c.natAbs=Int.gcd t b)(hs:0<c*b):Low t b (Int.fdiv t c) (Int.fdiv b c):=by
 have d1:c ∣ t:=Int.natAbs_dvd.mp (by rw[hg];exact Int.gcd_dvd_left t b);have d2:c ∣ b:=Int.natAbs_dvd.mp (by rw[hg];exact Q3 t b);obtain⟨x,rfl⟩:=d1;obtain⟨y,rfl⟩:=d2;rw[G5 hc,G5 hc];refine⟨?_,?_,?_,Jg hc,Jg hc⟩
 .rw[<- Int.mul_assoc]at hs;have hp:0<c*c:=by
   rcases Int.lt_or_lt_of_ne hc with z|z
   .exact Zwx z z
   .exact XZ z z
  exact Zwz hs hp
 .rw[Int.gcd_mul_left]at hg;have hp:0<c.natAbs:=by lia
  exact Nat.eq_of_mul_eq_mul_left hp (by rw[Nat.mul_one];exact hg.symm)
 .rw[Int.mul_left_comm,Int.mul_assoc]
theorem mK{a b:Int}(hb:b≠0):(0:Int)<(Int.gcd a b:Nat):=by
 have:=Zxz a hb;lia
theorem Kh{i j:Int}(h:i.natAbs<=j.natAbs)(k:Bd j):Bd i:=Y3 h k
theorem X6{i:Int}(h:Bd i):Bd (-i):=by unfold Bd at *;rw[Int.natAbs_neg];exact h
theorem U0{a b:Int}(hb:b≠0)(h:Bd b):Bd ((Int.gcd a b:Nat):Int):=Kh (by
 have:=UX (by lia) (Int.gcd_dvd_natAbs_right a b);omega) h
def sW:ST:=λts q=>∃t b,ts=[.int t,.int b]/\b≠0/\Bd b/\∀x y,Low t b x y->q (.fz (frT (x,y)))
theorem aah(F:Fun K nu nu L_ f fd)(T:Txt K mg D)(dG:OkT P w K mg base 1 iC ig nC)(dJ:OkT P w K mg base 1 iy iH lY):cj P w K mg base CX0 2 f fd m9 (spT K sW):=by
 refine F.okT I9 (λts R hP=>by obtain⟨t,b,e,_⟩:=hP;exact e ▸ rfl) λag A outer s H E hr=>?_;refine⟨_,(bC (cG (QW.qt (nR (fX (dX (bI dG hr.md (by rfl) (bx (qv 0) bF)))) (k_ (fX (dX (bI dG hr.md (by rfl) (bx (qv 1) bF)))))))
  (bG fQ)
  bT)
  (bC (cG (bY (go_eq hr.units) (qv 1) bA)
  (bG fQ)
  bT)
  (bC (bM 2 I9.nd (Or.inl rfl) (bI dJ hr.md (by rfl) (bx (qv 0) (bx (qv 1) bF))))
  (bC (cG (bY uY (qv 1) bA)
  (bG (bM 2 I9.nd (Or.inl rfl) (zV (qv 2))))
  bT)
  (bG (bQ (cW (bx (bK mF (qv 0) (qv 2)) (bx (bK mF (qv 1) (qv 2)) bF))))))))),?_⟩
 rintro _ R ⟨t,b,rfl,hb,hd,q⟩;refine⟨_,_,rfl,rfl,_,_,rfl,rfl,?_⟩;have g0:=mK (a:=t) hb;have g1:=U0 (a:=t) hb hd;refine swF (Zp hb) ⟨_,_,rfl,swD (λhn=>⟨⟨by omega,X6 g1⟩,⟨by omega,X6 g1⟩,q _ _ (wU hb (by omega) (by lia) (Zwx (by lia) hn))⟩) λhn=>⟨⟨by exact WS g0,g1⟩,⟨by exact WS g0,g1⟩,q _ _ (wU hb (WS g0) (by lia) (XZ g0 (by lia)))⟩⟩
noncomputable abbrev frR(r:Rat):T:=.tup [.int r.num,.int r.den]
theorem iZ{t b x y:Int}(h:Low t b x y)(hb:b≠0):frT (x,y)=frR (Rat.divInt t b):=by
 have hy:=h.pos;have e:Rat.divInt t b=⟨x,y.toNat,by lia,by have:=h.gcd;unfold Int.gcd at this;rw[show y.toNat=y.natAbs by lia];exact this⟩:=by
  rw[Rat.mk_eq_divInt,show((y.toNat:Nat):Int)=y by exact Zxv (XY hy)];exact(Zyz hb (WS hy)).mpr h.eq.symm
 rw[e];show T.tup [.int x,.int y]=.tup [.int x,.int (y.toNat:Nat)];rw[show((y.toNat:Nat):Int)=y by exact Zxv (XY hy)]
theorem rd(r:Rat):Rat.divInt r.num r.den=r:=Rat.num_divInt_den r
theorem jk(r:Rat):((r.den:Nat):Int)≠0:=by have:=r.den_pos;lia
def Bq(r:Rat):Prop:=Bd r.num/\Bd (r.den:Nat)
def O1:ST:=λts q=>∃a b:Rat,ts=[frR a,frR b]/\Bq a/\Bq b/\Bd ((a.den:Int)*b.den)/\q (.fz (frR (a+b)))
def Bw:ST:=λts q=>∃a b:Rat,ts=[frR a,frR b]/\Bq a/\Bq b/\Bd ((a.den:Int)*b.den)/\q (.fz (frR (a-b)))
def Im:ST:=λts q=>∃a b:Rat,ts=[frR a,frR b]/\Bq a/\Bq b/\Bd ((a.den:Int)*b.den)/\q (.fz (frR (a*b)))
def VL:ST:=λts q=>∃a b:Rat,ts=[frR a,frR b]/\b≠0/\Bq a/\Bq b/\Bd ((a.den:Int)*b.num)/\q (.fz (frR (a/b)))
def vh:ST:=λts q=>∃a b:Rat,ts=[frR a,frR b]/\Bq a/\Bq b/\q (.fz (.bl (decide (a<b))))
theorem lX{a b:Int}(ha:a≠0)(hb:b≠0):a*b≠0:=λz=>(Int.mul_eq_zero.mp z).elim ha hb
section
variable(dH:OkT P w K mg base 2 nu m9 sW)
include dH
theorem acO(F:Fun K BW BW Td f fd):cj P w K mg base CX0 3 f fd CZ (spT K O1):=by
 refine F.okT acn (λts R hP=>by obtain⟨t,b,e,_⟩:=hP;exact e ▸ rfl) λag A outer s H E hr=>?_;refine⟨_,(bG (bQ (bI dH hr.md (by rfl) (bx (bK cN (bK cB (bJ (qv 0) bA) (bJ (qv 1) bA)) (bK cB (bJ (qv 1) bA) (bJ (qv 0) bA))) (bx (bK cB (bJ (qv 0) bA) (bJ (qv 1) bA)) bF))))),?_⟩;rintro _ R ⟨a,b,rfl,ha,hb,hd,q⟩;refine⟨⟨ha.1,hb.2⟩,⟨hb.1,ha.2⟩,⟨ha.2,hb.2⟩,_,_,rfl,lX (jk a) (jk b),hd,λx y l=>?_⟩;rw[iZ l (lX (jk a) (jk b)),<- JJ _ _ (jk a) (jk b),rd,rd];exact q
theorem X8(F:Fun K tD tD Mj f fd):cj P w K mg base CX0 3 f fd sI (spT K Bw):=by
 refine F.okT Yr (λts R hP=>by obtain⟨t,b,e,_⟩:=hP;exact e ▸ rfl) λag A outer s H E hr=>?_;refine⟨_,(bG (bQ (bI dH hr.md (by rfl) (bx (bK mj (bK cB (bJ (qv 0) bA) (bJ (qv 1) bA)) (bK cB (bJ (qv 1) bA) (bJ (qv 0) bA))) (bx (bK cB (bJ (qv 0) bA) (bJ (qv 1) bA)) bF))))),?_⟩;rintro _ R ⟨a,b,rfl,ha,hb,hd,q⟩;refine⟨⟨ha.1,hb.2⟩,⟨hb.1,ha.2⟩,⟨ha.2,hb.2⟩,_,_,rfl,lX (jk a) (jk b),hd,λx y l=>?_⟩;rw[iZ l (lX (jk a) (jk b)),<- Rat.divInt_sub_divInt _ _ (jk a) (jk b),rd,rd];exact q
theorem aax(F:Fun K vW vW Nb f fd):cj P w K mg base CX0 3 f fd vL (spT K Im):=by
 refine F.okT ZG (λts R hP=>by obtain⟨t,b,e,_⟩:=hP;exact e ▸ rfl) λag A outer s H E hr=>?_;refine⟨_,(bG (bQ (bI dH hr.md (by rfl) (bx (bK cB (bJ (qv 0) bA) (bJ (qv 1) bA)) (bx (bK cB (bJ (qv 0) bA) (bJ (qv 1) bA)) bF))))),?_⟩;rintro _ R ⟨a,b,rfl,ha,hb,hd,q⟩;refine⟨⟨ha.1,hb.1⟩,⟨ha.2,hb.2⟩,_,_,rfl,lX (jk a) (jk b),hd,λx y l=>?_⟩;rw[iZ l (lX (jk a) (jk b)),<- T2,rd,rd];exact q
theorem abS(F:Fun K Ga Ga T7 f fd):cj P w K mg base CX0 3 f fd FQ (spT K VL):=by
 refine F.okT acX (λts R hP=>by obtain⟨t,b,e,_⟩:=hP;exact e ▸ rfl) λag A outer s H E hr=>?_;refine⟨_,(bG (bQ (bI dH hr.md (by rfl) (bx (bK cB (bJ (qv 0) bA) (bJ (qv 1) bA)) (bx (bK cB (bJ (qv 0) bA) (bJ (qv 1) bA)) bF))))),?_⟩;rintro _ R ⟨a,b,rfl,h0,ha,hb,hd,q⟩;have nb:b.num≠0:=λz=>h0 (by rw[<- rd b,z];exact TK _);refine⟨⟨ha.1,hb.2⟩,⟨ha.2,hb.1⟩,_,_,rfl,lX (jk a) nb,hd,λx y l=>?_⟩;rw[iZ l (lX (jk a) nb),<- T2,rd,<- Rat.inv_def,<- Rat.div_def];exact q
end
theorem aaX(F:Fun K pL pL O9 f fd):cj P w K mg base CX0 1 f fd pU (spT K vh):=by
 refine F.okT Zd (λts R hP=>by obtain⟨t,b,e,_⟩:=hP;exact e ▸ rfl) λag A outer s H E hr=>?_;refine⟨_,(bG (bQ (Dt uY (bK cB (bJ (qv 0) bA) (bJ (qv 1) bA)) (bK cB (bJ (qv 1) bA) (bJ (qv 0) bA))))),?_⟩;rintro _ R ⟨a,b,rfl,ha,hb,q⟩;refine⟨⟨ha.1,hb.2⟩,⟨hb.1,ha.2⟩,?_⟩;rw[show decide (a<b)=decide (a.num*(b.den:Int)<b.num*(a.den:Int))from decide_eq_decide.mpr (Rat.lt_iff a b)]at q;exact q
def qR:ST:=λts q=>∃r:Rat,ts=[frR r]/\q (.fz (.bl true))
theorem Qh(F:Fun K jR jR zJ f fd)(T:Txt K mg D)(dG:OkT P w K mg base 1 iC ig nC)(dJ:OkT P w K mg base 1 iy iH lY):cj P w K mg base CX0 2 f fd jQ (spT K qR):=by
 refine F.okT uZ (λts R hP=>by obtain⟨t,e,_⟩:=hP;exact e ▸ rfl) λag A outer s H E hr=>?_;refine⟨_,(bC (cG (QW.qt (nR (fX (dX (Ji .tuple (qv 0) (by rfl) T.j_ (by rfl) T.acg boot_tuple))) (k_ (bY (tO hr.units) (bV dh (by rfl) T.dY W1 (bx (qv 0) bF)) bA))))
  (bG (bQ u9))
  bT)
  (bC (bM 1 uZ.nd (Or.inl rfl) (bJ (qv 0) bA))
  (bC (bM 2 uZ.nd (Or.inl rfl) (bJ (qv 0) bA))
  (bC (cG (QW.qt (nR (fX (dX (bI dG hr.md (by rfl) (bx (qv 1) bF)))) (k_ (fX (dX (bI dG hr.md (by rfl) (bx (qv 2) bF)))))))
  (bG (bQ u9))
  bT)
  (bG (bQ (Uy (Dt Zz (qv 2) bA) (Um (Dt (go_eq hr.units) (bI dJ hr.md (by rfl) (bx (qv 1) (bx (qv 2) bF))) bA))))))))),?_⟩
 rintro _ R ⟨r,rfl,q⟩;refine⟨_,_,rfl,rfl,_,_,rfl,rfl,?_⟩;have:=r.den_pos;refine swT (Zs (by lia)) ⟨_,_,rfl,?_⟩;rw[show Int.gcd r.num r.den=1 from r.reduced];exact q
noncomputable def alD:List Rat->Nat
 |[]=>1
 |r::rs=>Nat.lcm r.den (alD rs)
noncomputable def cD(n:Nat):List Rat->Nat
 |[]=>n
 |r::rs=>cD (Nat.lcm n r.den) rs
theorem eY:∀(rs:List Rat){n:Nat},0<n->0<cD n rs
 |[],_,h=>h
 |r::rs,_,h=>eY rs (Nat.lcm_pos h r.den_pos)
theorem jy:∀(rs:List Rat){n:Nat},n ∣ cD n rs/\∀r∈rs,r.den ∣ cD n rs
 |[],n=>⟨Nat.dvd_refl n,λ_ z=>(nomatch z)⟩
 |r::rs,n=>by
  obtain⟨a,b⟩:=jy rs (n:=Nat.lcm n r.den);refine⟨Nat.dvd_trans (Nat.dvd_lcm_left ..) a,λx hx=>?_⟩;rcases YU.mp hx with rfl|z
  .exact Nat.dvd_trans (Nat.dvd_lcm_right ..) a
  .exact b x z
theorem pK:∀(rs:List Rat){n m:Nat},n ∣ m->(∀r∈rs,r.den ∣ m)->cD n rs ∣ m
 |[],_,_,h,_=>h
 |r::rs,_,_,h,k=>pK rs (Nat.lcm_dvd h (k r (aO ..))) λx hx=>k x (aJ _ hx)
theorem IW:∀(as bs:List Rat)(n:Nat),cD n (as++bs)=cD (cD n as) bs
 |[],_,_=>rfl
 |_::as,bs,_=>IW as bs _
noncomputable def tops(B:Nat)(rs:List Rat):List Int:=rs.map λr=>r.num*((B/r.den:Nat):Int)
theorem UW{m n:Nat}(h:Bd (n:Int))(l:m<=n):Bd (m:Int):=Kh (by omega) h
theorem Yx(n d:Nat):(Int.fdiv (n:Int) ((Int.gcd n d:Nat):Int))*d=((Nat.lcm n d:Nat):Int):=by
 rw[show Int.gcd (n:Int) (d:Int)=Nat.gcd n d from rfl,Zwy (Int.natCast_dvd_natCast.mpr (Nat.gcd_dvd_left n d)),<- Int.natCast_ediv,<- Th,Nat.lcm,Nat.div_mul_right_comm (Nat.gcd_dvd_left n d)]
theorem GX(m n:Nat):Int.fdiv (m:Int) (n:Int)=((m/n:Nat):Int):=by rw[Zyu _ (Wp _)];rfl
def wu:ST:=λts q=>∃rs:List Rat,ts=[.lst (rs.map frR)]/\rs.length<=1000/\(∀r∈rs,Bd r.num)/\Bd (cD 1 rs:Nat)/\q (.fz (.tup [.lst ((tops (cD 1 rs) rs).map T.int),.int (cD 1 rs:Nat)]))
theorem Yo(F:Fun K qj qj FP f fd)(dJ:OkT P w K mg base 1 iy iH lY):cj P w K mg base CX0 2 f fd pI (spT K wu):=by
 refine F.okT Bm (λts R hP=>by obtain⟨t,e,_⟩:=hP;exact e ▸ rfl) λag A outer s H E hr=>?_;refine⟨_,(bC (bM 1 Bm.nd (Or.inr rfl) bA)
  (bC (dB VZ rfl (cH (qv 0)) (b_ (n:=99) 2 Bm.nd (Or.inl rfl))
  (bG (bM 1 Bm.nd (Or.inr rfl) (bK cB (bK mF (qv 1) (bI dJ hr.md (by rfl) (bx (qv 1) (bx (bJ (qv 2) bA) bF)))) (bJ (qv 2) bA)))))
  (bG (bQ (cW (bx (dI (bH FP) Wg ["fractions","bottom","?one"] ["one"] (cH (qv 0)) (fj (i:=0)) cI (bK cB (bJ (qv 0) bA) (bK mF (qv 2) (bJ (qv 0) bA)))) (bx (qv 1) bF))))))),?_⟩
 rintro _ R ⟨rs,rfl,rl,hn,hB,q⟩;refine fV frR rs (λas o=>∃x,o=[.fz (.lst (rs.map frR)),.fz (.int (cD 1 as:Nat)),x]) ⟨_,rfl⟩ ?_ ?_
 .rintro as a bs _ e ⟨x,rfl⟩;have d1:=(jy (a::bs) (n:=cD 1 as)).1;have el:cD 1 rs=cD (cD 1 as) (a::bs):=by rw[e];exact IW as (a::bs) 1
  have hp:=eY as UY;have hB0:=eY rs UY;have b1:Bd (cD 1 as:Nat):=UW hB (el ▸ UX (el ▸ hB0) d1);have b2:Bd (a.den:Nat):=UW hB (UX hB0 ((jy rs).2 a (e ▸ by simp)));refine⟨_,_,rfl,⟨by have:=mK (a:=(cD 1 as:Nat)) (jk a);exact WS this,U0 (jk a) b2⟩,⟨Kh ?_ b1,b2⟩,.fz (frR a),?_⟩
  .rw[show Int.gcd ((cD 1 as:Nat):Int) (a.den:Int)=Nat.gcd (cD 1 as) a.den from rfl,GX];exact Zyy ..
  .rw[Yx,IW]
   rfl
 .rintro _ ⟨x,rfl⟩;refine⟨aL (by simpa using rl) (by decide),comp_map frR (λr=>.int (r.num*((cD 1 rs/r.den:Nat):Int))) rs (λr hr N M hN=>?_) ?_⟩
  .have b2:Bd (r.den:Nat):=UW hB (UX (eY rs UY) ((jy rs).2 r hr));refine⟨⟨jk r,b2⟩,⟨hn r hr,Kh ?_ hB⟩,?_⟩
   .rw[GX];exact Zyy ..
   .rw[GX];exact hN
  .have:(tops (cD 1 rs) rs).map T.int=rs.map (λr=>.int (r.num*((cD 1 rs/r.den:Nat):Int))):=by unfold tops;rw[WP];rfl
   rw[this]at q;exact q
noncomputable def Wh(l:List Nat):Bool:=decide (1<=l.length)&&decide (l.length<=8)&&l.all λc=>decide (97<=c)&&decide (c<=122)
abbrev Wd(n:Str):Prop:=Wh n.cps.toList=true
theorem Wd.len{n:Str}(h:Wd n):1<=n.length/\n.length<=8:=by
 unfold Wd Wh at h;simp only[Zzt,decide_eq_true_eq,Array.length_toList]at h;exact h.1
theorem U_(c d:Nat):(!decide ((⟨#[d]⟩ : Str).cps.toList<(⟨#[c]⟩ : Str).cps.toList))=decide (c<=d):=by
 have:((⟨#[d]⟩ : Str).cps.toList<(⟨#[c]⟩ : Str).cps.toList)↔d<c:=by
  show[d]<[c]↔d<c;constructor
  .intro h;cases h with
   |rel h=>exact h
   |cons h=>cases h
  .exact λh=>.rel h
 rw[show decide ((⟨#[d]⟩ : Str).cps.toList<(⟨#[c]⟩ : Str).cps.toList)=decide (d<c)from decide_eq_decide.mpr this];by_cases h:c<=d
 .rw[Zs h,Zp (Ts h)];rfl
 .rw[Zp h,Zs (Nat.lt_of_not_le h)];rfl
def uM:ST:=λts q=>∃n:Str,ts=[.str n]/\Wd n/\q (.fz (.bl true))
theorem Te(F:Fun K mD mD yw f fd)(T:Txt K mg D):cj P w K mg base CX0 1 f fd mC (spT K uM):=by
 refine F.okT TX (λts R hP=>by obtain⟨t,e,_⟩:=hP;exact e ▸ rfl) λag A outer s H E hr=>?_;refine⟨_,(bC (cG (QW.qt (nR (fX (dX (Ji .str (qv 0) (by rfl) T.j_ (by rfl) T.ahq boot_str))) (k_ (fX (R6 Rh Rh bA (bV abp (by rfl) T.dY W1 (bx (qv 0) bF)) (Zc (by rfl) T.G9 λ_=>.int _))))))
  (bG (bQ u9))
  bT)
  (bG (bQ (bV (agh rfl) (by rfl) T.akO boot_all (bx (dI (bH yw) Eb Eb ["sign"] (aeh (qv 0)) (fj (i:=0)) cI (RG Zi Zi uL (qv 0) uL)) bF))))),?_⟩
 rintro _ R ⟨n,rfl,hw,q⟩;obtain⟨l1,l8⟩:=hw.len;refine⟨aL l8 (by decide),swT (Zs (by lia)) (swF (by rw[Zs (show((n.length:Nat):Int)<=8 by lia)];rfl) ⟨by rw[ak];exact aL l8 (by decide),comp_map (λc=>.str ⟨#[c]⟩) (λc=>.bl (decide (97<=c)&&decide (c<=122))) n.cps.toList (λc _ N M hN=>?_) ⟨n.cps.toList.map λc=>decide (97<=c)&&decide (c<=122),by rw[WP];rfl,?_⟩⟩)⟩
 .have e1:(!decide ((⟨#[c]⟩ : Str).cps.toList<("a":Str).cps.toList))=decide (97<=c):=by rw[show("a":Str)=⟨#[97]⟩from by decide +kernel];exact U_ 97 c
  have e2:(!decide (("z":Str).cps.toList<(⟨#[c]⟩ : Str).cps.toList))=decide (c<=122):=by rw[show("z":Str)=⟨#[122]⟩from by decide +kernel];exact U_ c 122
  refine sw2 (λh=>?_) λh=>?_
  .rw[<- e1,h,<- e2]at hN;exact hN
  .rw[<- e1,h]at hN;exact hN
 .have:((n.cps.toList.map λc=>decide (97<=c)&&decide (c<=122)).all λb=>b)=true:=by
   unfold Wd Wh at hw;rw[Zzt]at hw;rw[List.all_map];exact hw.2
  rw[<- this]at q;exact q
def rP:ST:=λts q=>∃(n:Str)(r:Rat),ts=[.str n,frR r]/\Wd n/\q (.fz .non)
theorem JB(F:Fun K jq jq ux f fd)(i_:OkT P w K mg base 1 mD mC uM)(gC:OkT P w K mg base 2 jR jQ qR):cj P w K mg base CX0 3 f fd jA (spT K rP):=by
 refine F.okT Jz (λts R hP=>by obtain⟨t,r,e,_⟩:=hP;exact e ▸ rfl) λag A outer s H E hr=>?_;refine⟨_,(bC (cG (fX (dX (bI i_ hr.md (by rfl) (bx (qv 0) bF))))
  (bG fQ)
  bT)
  (bG (cG (fX (dX (bI gC hr.md (by rfl) (bx (qv 1) bF))))
  (bG fQ)
  bT))),?_⟩
 rintro _ R ⟨n,r,rfl,hw,q⟩;exact⟨_,rfl,hw,_,rfl,q⟩
def jO:ST:=λts q=>∃n:Str,ts=[.str n]/\Wd n/\q (.fz .non)
theorem zH(F:Fun K eN eN lN f fd)(i_:OkT P w K mg base 1 mD mC uM):cj P w K mg base CX0 2 f fd eX (spT K jO):=by
 refine F.okT zj (λts R hP=>by obtain⟨t,e,_⟩:=hP;exact e ▸ rfl) λag A outer s H E hr=>?_;refine⟨_,(bG (cG (fX (dX (bI i_ hr.md (by rfl) (bx (qv 0) bF))))
  (bG fQ)
  bT)),?_⟩
 rintro _ R ⟨n,rfl,hw,q⟩;exact⟨_,rfl,hw,q⟩
def Ch(r:Rat):Prop:=0<=r/\r<=1/\Bd (r.den:Nat)
theorem Ch.bq{r:Rat}(h:Ch r):Bq r:=by
 have h0:=Rat.num_nonneg.mpr h.1;have h1:=(Rat.le_iff r 1).mp h.2.1;exact⟨Kh (by have:r.num*((1:Rat).den:Int)<=(1:Rat).num*(r.den:Int):=h1;simp at this;omega) h.2.2,h.2.2⟩
theorem bq0:Bq 0:=⟨Nat.two_pow_pos 8000,Nat.one_lt_two_pow (by decide)⟩
theorem bq1:Bq 1:=⟨Nat.one_lt_two_pow (by decide),Nat.one_lt_two_pow (by decide)⟩
def nJ:ST:=λts q=>∃r:Rat,ts=[frR r]/\Ch r/\q (.fz .non)
theorem Fo(F:Fun K gF gF qm f fd)(T:Txt K mg D)(gC:OkT P w K mg base 2 jR jQ qR)(gY:OkT P w K mg base 1 pL pU vh):cj P w K mg base CX0 3 f fd gH (spT K nJ):=by
 refine F.okT Fp (λts R hP=>by obtain⟨t,e,_⟩:=hP;exact e ▸ rfl) λag A outer s H E hr=>?_;refine⟨_,(bG (cG (QW.qt (nR (fX (dX (bI gC hr.md (by rfl) (bx (qv 0) bF)))) (nR (dX (bI gY hr.md (by rfl) (bx (qv 0) (bx (lW (by rfl) T.jm T.gM) bF)))) (k_ (dX (bI gY hr.md (by rfl) (bx (lW (by rfl) T.Ek T.wJ) (bx (qv 0) bF))))))))
  (bG fQ)
  bT)),?_⟩
 rintro _ R ⟨r,rfl,hc,q⟩;refine⟨_,rfl,r,0,rfl,hc.bq,bq0,?_⟩;rw[Zp (Rat.not_lt.mpr hc.1)];refine⟨1,r,rfl,bq1,hc.bq,?_⟩;rw[Zp (Rat.not_lt.mpr hc.2.1)];exact q
noncomputable def Aa(rs:List Rat):Rat:=rs.foldr (· + ·) 0
theorem PJ{B:Nat}(hB:B≠0):∀{rs:List Rat},(∀r∈rs,r.den ∣ B)->Rat.divInt (tops B rs).sum B=Aa rs
 |[],_=>by show Rat.divInt 0 _=0;exact TK _
 |r::rs,h=>by
  have ih:=PJ hB (rs:=rs) λx hx=>h x (aJ _ hx);have l9:((B:Nat):Int)≠0:=by lia
  obtain⟨m,hm⟩:=h r (aO ..);show Rat.divInt (r.num*((B/r.den:Nat):Int)+(tops B rs).sum) B=r+Aa rs;have e1:r+Aa rs=Rat.divInt (r.num*B+(tops B rs).sum*r.den) (r.den*B):=by rw[<- JJ _ _ (jk r) l9,rd,ih]
  rw[e1];refine(Zyz l9 (lX (jk r) l9)).mpr ?_;have:B/r.den=m:=by rw[hm];exact Zww _ r.den_pos
  rw[this,hm];simp only[Th]
  grind
def Rr:ST:=λts q=>∃rs:List Rat,ts=[.lst (rs.map frR)]/\rs.length<=1000/\(∀r∈rs,Bd r.num)/\Bd (cD 1 rs:Nat)/\q (.fz (frR (Aa rs)))
theorem aau(F:Fun K Ce Ce Nj f fd)(T:Txt K mg D)(jC:OkT P w K mg base 2 qj pI wu)(dH:OkT P w K mg base 2 nu m9 sW):cj P w K mg base CX0 3 f fd Cg (spT K Rr):=by
 refine F.okT QZ (λts R hP=>by obtain⟨t,e,_⟩:=hP;exact e ▸ rfl) λag A outer s H E hr=>?_;refine⟨_,(bC (bM 1 QZ.nd (Or.inl rfl) (bI jC hr.md (by rfl) (bx (qv 0) bF)))
  (bG (bQ (bI dH hr.md (by rfl) (bx (bV (Ox rfl) (by rfl) T.Vj boot_sum (bx (bJ (qv 1) bA) bF)) (bx (bJ (qv 1) bA) bF)))))),?_⟩
 rintro _ R ⟨rs,rfl,rl,hn,hB,q⟩;have hp:=eY rs UY;have hz:((cD 1 rs:Nat):Int)≠0:=by lia
 refine⟨rs,rfl,rl,hn,hB,_,rfl,_,_,rfl,hz,hB,λx y l=>?_⟩;rw[iZ l hz,PJ (UT hp) (jy rs).2];exact q
abbrev wyT(p:Str×Rat):T:=.tup [.str p.1,frR p.2]
def v8:ST:=λts q=>∃ps:List (Str×Rat),ts=[.lst (ps.map wyT)]/\ps.length<=1000/\(∀p∈ps,Wd p.1/\Ch p.2)/\Bd (cD 1 (ps.map (·.2)):Nat)/\Aa (ps.map (·.2))=1/\q (.fz .non)
theorem G7(F:Fun K lD lD mO f fd)(T:Txt K mg D)(dW:OkT P w K mg base 2 eN eX jO)(fW:OkT P w K mg base 3 gF gH nJ)(N6:OkT P w K mg base 3 Ce Cg Rr):cj P w K mg base CX0 4 f fd kZ (spT K v8):=by
 refine F.okT pQ (λts R hP=>by obtain⟨t,e,_⟩:=hP;exact e ▸ rfl) λag A outer s H E hr=>?_;refine⟨_,(bC (dB VZ rfl (cH (qv 0)) (fG (n:=2) rfl (bR (b_ (n:=99) 1 pQ.nd (Or.inl rfl)) (bR (b_ (n:=99) 2 pQ.nd (Or.inl rfl)) dF)))
  (bC (jH (bI dW hr.md (by rfl) (bx (qv 1) bF)))
  (bG (jH (bI fW hr.md (by rfl) (bx (qv 2) bF))))))
  (bG (cG (bY (tO hr.units) (bI N6 hr.md (by rfl) (bx (dI (bH mO) su su ["pair"] (cH (qv 0)) (fj (i:=0)) cI (bJ (qv 0) bA)) bF)) (lW (by rfl) T.Ek T.wJ))
  (bG fQ)
  bT))),?_⟩
 rintro _ R ⟨ps,rfl,pl,hp,hB,hs,q⟩;refine fV wyT ps (λ_ o=>∃x y,o=[.fz (.lst (ps.map wyT)),x,y]) ⟨_,_,rfl⟩ ?_ ?_
 .rintro as a bs _ e ⟨x,y,rfl⟩;obtain⟨h1,h2⟩:=hp a (e ▸ by simp);exact⟨rfl,_,rfl,h1,_,rfl,h2,_,_,rfl⟩
 .rintro _ ⟨x,y,rfl⟩;refine⟨aL (by simpa using pl) (by decide),comp_map wyT (λp=>frR p.2) ps (λp _ N M hN=>hN) ⟨ps.map (·.2),by rw[WP];rfl,by simpa using pl,λr hr=>?_,hB,?_⟩⟩
  .obtain⟨p,c8,rfl⟩:=YV.mp hr;exact(hp p c8).2.bq.1
  .rw[hs];exact q
def addW(ws:List (Str×Rat))(p:Str×Rat):List (Str×Rat):=if(ws.any λx=>decide (x.1=p.1))=true then ws.map (λx=>if x.1=p.1 then(x.1,x.2+p.2)else x)else ws++[p]
def jo(ps:List (Str×Rat)):List (Str×Rat):=ps.foldl addW []
noncomputable abbrev wKs(ws:List (Str×Rat)):List Key:=ws.map λx=>.inr x.1
abbrev wTs(ws:List (Str×Rat)):List T:=ws.map λx=>frR x.2
theorem afW(ws:List (Str×Rat))(n:Str):M9 (wKs ws) (.inr n)=ws.any λx=>decide (x.1=n):=by
 unfold M9;rw[List.any_map]
 congr 1
 funext x
 exact decide_eq_decide.mpr ⟨λz=>Sum.inr.inj z,λz=>ZH Sum.inr z⟩
theorem Tt(n:Str):∀ws:List (Str×Rat),qd (wKs ws) (wTs ws) (.inr n)=(ws.find? λx=>decide (x.1=n)).map λx=>frR x.2
 |[]=>rfl
 |x::ws=>by
  show(if(Sum.inr x.1:Key)=.inr n then some (frR x.2)else qd (wKs ws) (wTs ws) (.inr n))=_;by_cases h:x.1=n
  .rw[ZY (ZH Sum.inr h),List.find?_cons_of_pos (p:=λx:Str×Rat=>decide (x.1=n)) (Zs h)];rfl
  .rw[ZZ λz=>h (Sum.inr.inj z),List.find?_cons_of_neg (p:=λx:Str×Rat=>decide (x.1=n)) (by show ¬decide (x.1=n)=true;rw[Zp h];decide),Tt n ws]
noncomputable def zM(ws:List (Str×Rat))(n:Str):Rat:=((ws.find? λx=>decide (x.1=n)).map (·.2)).getD 0
theorem adF(ws:List (Str×Rat))(n:Str):((qd (wKs ws) (wTs ws) (.inr n)).getD (frR 0))=frR (zM ws n):=by
 rw[Tt];unfold zM;cases(ws.find? λx=>decide (x.1=n))<;>rfl
theorem V4{ws:List (Str×Rat)}{n:Str}(nd:(ws.map (·.1)).Nodup){x:Str×Rat}(hx:x∈ws)(e:x.1=n):(ws.find? λy=>decide (y.1=n))=some x:=by
 induction ws with
 |nil=>cases hx
 |cons y ws ih =>
  obtain⟨n1,n2⟩:=List.nodup_cons.mp nd;rcases YU.mp hx with rfl|z
  .exact List.find?_cons_of_pos (p:=λy:Str×Rat=>decide (y.1=n)) (Zs e)
  .rw[List.find?_cons_of_neg (p:=λy:Str×Rat=>decide (y.1=n)) (by show ¬decide (y.1=n)=true;rw[Zp λw=>n1 (YV.mpr ⟨x,z,e.trans w.symm⟩)];decide)];exact ih n2 z
theorem ai4(ws:List (Str×Rat))(p:Str×Rat)(nd:(ws.map (·.1)).Nodup):kpK (wKs ws) (.inr p.1)=wKs (addW ws p)/\kpT (wKs ws) (wTs ws) (.inr p.1) (frR (zM ws p.1+p.2))=wTs (addW ws p):=by
 unfold kpK kpT addW;rw[afW];by_cases h:(ws.any λx=>decide (x.1=p.1))=true
 .rw[ZY h,ZY h,ZY h];refine⟨by simp only[wKs,WP];refine U1 λx _=>?_;show(Sum.inr x.1:Key)=.inr (if x.1=p.1 then(x.1,x.2+p.2)else x).1;split<;>rfl,?_⟩
  clear h
  rw[show wTs (ws.map λx=>if x.1=p.1 then(x.1,x.2+p.2)else x)=ws.map ((λx=>frR x.2) ∘ λx=>if x.1=p.1 then(x.1,x.2+p.2)else x)from WP]
  suffices H:∀(us:List (Str×Rat)),(∀x∈us,x.1=p.1->x.2=zM ws p.1)->List.zipWith (λ(k:Key)x=>if k=.inr p.1 then frR (zM ws p.1+p.2)else x) (wKs us) (wTs us)=us.map ((λx=>frR x.2) ∘ λx=>if x.1=p.1 then(x.1,x.2+p.2)else x)from H ws λx hx e=>by
   unfold zM;rw[V4 nd hx e];rfl
  intro us
  induction us with
  |nil=>intro _;rfl
  |cons x us ih =>
   intro H;show List.zipWith _ (Sum.inr x.1::wKs us) (frR x.2::wTs us)=_;rw[List.zipWith_cons_cons,ih λy hy=>H y (aJ _ hy),List.map_cons]
   congr 1
   by_cases e:x.1=p.1
   .rw[ZY (ZH Sum.inr e)];show _=frR (if x.1=p.1 then(x.1,x.2+p.2)else x).2;rw[ZY e,H x (aO ..) e]
   .rw[ZZ λz=>e (Sum.inr.inj z)];show _=frR (if x.1=p.1 then(x.1,x.2+p.2)else x).2;rw[ZZ e]
 .rw[ZZ h,ZZ h,ZZ h];have n0:zM ws p.1=0:=by
   unfold zM;rw[List.find?_eq_none.mpr λx hx z=>h (List.any_eq_true.mpr ⟨x,hx,z⟩)];rfl
  rw[n0,Rat.zero_add];simp only[wKs,wTs,bf];exact⟨rfl,rfl⟩
theorem ace{ws:List (Str×Rat)}{p:Str×Rat}(nd:(ws.map (·.1)).Nodup):((addW ws p).map (·.1)).Nodup:=by
 unfold addW;by_cases h:(ws.any λx=>decide (x.1=p.1))=true
 .rw[ZY h,WP];rw[show ws.map ((λx=>x.1) ∘ λx=>if x.1=p.1 then(x.1,x.2+p.2)else x)=ws.map (·.1)from U1 λx _=>by show(if x.1=p.1 then(x.1,x.2+p.2)else x).1=x.1;split<;>rfl];exact nd
 .rw[ZZ h,bf];refine List.nodup_append.mpr ⟨nd,by simp,λa ha b hb z=>h ?_⟩;obtain⟨x,hx,rfl⟩:=YV.mp ha;rw[List.map_singleton,YR]at hb;exact List.any_eq_true.mpr ⟨x,hx,Zs (z.trans hb)⟩
theorem Wx(as bs:List (Str×Rat)):jo (as++bs)=bs.foldl addW (jo as):=List.foldl_append ..
theorem Rn(ps:List (Str×Rat)):((jo ps).map (·.1)).Nodup:=by
 suffices H:∀(ps ws:List (Str×Rat)),(ws.map (·.1)).Nodup->((ps.foldl addW ws).map (·.1)).Nodup from H ps [] .nil
 intro ps
 induction ps with
 |nil=>exact λ_ h=>h
 |cons p ps ih=>exact λws h=>ih _ (ace h)
theorem Kp(ps:List (Str×Rat)):(jo ps).length<=ps.length:=by
 suffices H:∀(ps ws:List (Str×Rat)),(ps.foldl addW ws).length<=ws.length+ps.length from by simpa[jo]using H ps []
 intro ps
 induction ps with
 |nil=>exact λ_=>aG _
 |cons p ps ih =>
  intro ws;have h1:(addW ws p).length<=ws.length+1:=by
   unfold addW;split
   .rw[ak];exact Xs _
   .rw[aA,List.length_singleton];exact aG _
  have:=ih (addW ws p);rw[List.foldl_cons,List.length_cons];lia
def adV(ps:List (Str×Rat)):Prop:=∀as a bs,ps=as++a::bs->Bq (zM (jo as) a.1)/\Bq a.2/\Bd (((zM (jo as) a.1).den:Int)*a.2.den)
def Cm(ps:List (Str×Rat)):List (Str×Rat):=(jo ps).filter λp=>!decide (p.2=0)
def vY:ST:=λts q=>∃ps:List (Str×Rat),ts=[.lst (ps.map wyT)]/\ps.length<=1000/\adV ps/\q (.l1 ((Cm ps).map wyT))
theorem Hj(F:Fun K lA lA mG f fd)(T:Txt K mg D)(Ds:OkT P w K mg base 3 BW CZ O1):cj P w K mg base CX0 4 f fd kj (spT K vY):=by
 refine F.okT kI (λts R hP=>by obtain⟨t,e,_⟩:=hP;exact e ▸ rfl) λag A outer s H E hr=>?_;refine⟨_,(bC (iu 1 kI.nd (Or.inr rfl) O4)
  (bC (dB VZ rfl (cH (qv 0)) (fG (n:=2) rfl (bR (b_ (n:=99) 2 kI.nd (Or.inl rfl)) (bR (b_ (n:=99) 3 kI.nd (Or.inl rfl)) dF)))
  (bG (Oe 1 (yQ hr) (bI Ds hr.md (by rfl) (bx (adw 1 (yQ hr) (qv 2) (lW (by rfl) T.jm T.gM)) (bx (qv 3) bF))) (qv 2))))
  (bG (ach 1 (bH mG) yG ["pairs","chances","?room","chance"] ["room"] (fj (i:=0)) (Lx (bY (tO hr.units) (Lk (yQ hr) (qv 2) (qv 0)) (lW (by rfl) T.jm T.gM))) (cW (bx (qv 0) (bx (Lk (yQ hr) (qv 2) (qv 0)) bF))))))),?_⟩
 rintro _ R ⟨ps,rfl,pl,hb,q⟩;refine fV wyT ps (λas o=>∃x y,o=[.fz (.lst (ps.map wyT)),.d1 (wKs (jo as)) (wTs (jo as)),x,y]) ⟨_,_,rfl⟩ ?_ ?_
 .rintro as a bs _ e ⟨x,y,rfl⟩;obtain⟨h1,h2,h3⟩:=hb as a bs e;refine⟨rfl,_,rfl,zM (jo as) a.1,a.2,ZH (λt=>[t,frR a.2]) (adF (jo as) a.1),h1,h2,h3,_,rfl,?_,.fz (.str a.1),.fz (frR a.2),?_⟩
  .have:=Kp as;have:as.length<=ps.length:=by rw[e];simp
   rw[ak];exact Y3 (show _<=1000 by lia) (by decide)
  .obtain⟨k1,k2⟩:=ai4 (jo as) a (Rn as);rw[show jo (as++[a])=addW (jo as) a from by rw[Wx];rfl,<- k1,<- k2]
   rfl
 .rintro _ ⟨x,y,rfl⟩;have jl:=Kp ps;refine⟨by rw[ak];exact aL (show _<=1000 by exact aL jl pl) (by decide),?_⟩;rw[show(wKs (jo ps)).map kT=(jo ps).map λp=>.str p.1 from WP];refine ni (λp=>.str p.1) (λp=>!decide (p.2=0)) wyT (jo ps) (λp hp N M hN hM=>?_) ?_
  rotate_left
  .exact q
  have ev:qd (wKs (jo ps)) (wTs (jo ps)) (.inr p.1)=some (frR p.2):=by rw[Tt,V4 (Rn ps) hp rfl];rfl
  refine⟨_,_,rfl,ev,?_⟩;have ez:(decide (p.2.num=0)&&decide ((p.2.den:Int)=1))=decide (p.2=0):=by
   by_cases z:p.2=0
   .rw[z];decide
   .rw[Zp z,Zp λy=>z (Rat.num_eq_zero.mp y)];rfl
  refine sw2 (λh=>⟨_,_,rfl,ev,hN ?_⟩) λh=>hM ?_
  .rw[<- h];exact ZH (λb=>!b) ez.symm
  .rw[<- h];exact ZH (λb=>!b) ez.symm
abbrev tZ:Φ:=["name","pay","leads"]
abbrev drT(C:Addr)(n:Str)(p:Rat)(ws:List (Str×Rat)):T:=.ins C tZ [.str n,frR p,.lst (ws.map wyT)]
def KY(D:Adr):SI:=λC ks ts as R=>∃(n:Str)(p:Rat),ks=[]/\ts=[]/\Fam D C/\as=[.str n,frR p]/\Wd n/\R tZ [.str n,frR p,.lst []]
theorem Nr(F:Fun K BX Bf vR f fd)(T:Txt K mg D)(iR:OkT P w K mg base 3 jq jA rP):cj P w K mg base CX0 4 f fd kE (spI K (KY D)):=by
 refine F.okI Nf (λC ks ts as R hP=>by obtain⟨n,p,_,_,_,e,_⟩:=hP;exact e ▸ rfl) (by decide) λag A outer s H E hr=>?_;refine⟨_,(bC (jH (bI iR hr.md (by rfl) (bx (qv 1) (bx (qv 2) bF))))
  (bC (qJ (Fm:=Fam D) 0 (λC h=>⟨T.cl C h,T.Gb C h⟩) (qv 1))
  (bC (qJ (Fm:=Fam D) 0 (λC h=>⟨T.cl C h,T.aaZ C h⟩) (qv 2))
  (bG (qJ (Fm:=Fam D) 0 (λC h=>⟨T.cl C h,T.Bt C h⟩) (d7 bF)))))),?_⟩
 rintro a dx C _ _ _ R ⟨n,p,rfl,rfl,hC,rfl,hw,q⟩;exact⟨_,_,rfl,hw,⟨hC,by decide⟩,⟨hC,by decide⟩,⟨hC,by decide⟩,_,_,rfl,q⟩
theorem Yt(D:Adr):Fam D D.Sure:=by simp[Fam]
theorem Xz(D:Adr):Fam D D.Mixed:=by simp[Fam]
theorem Yn(D:Adr):Fam D D.Toss:=by simp[Fam]
theorem aan(D:Adr):Fam D D.Even:=by simp[Fam]
theorem qe(D:Adr):Fam D D.Hall:=by simp[Fam]
def Wo(D:Adr):SI:=λC ks ts as R=>∃(n m:Str)(p:Rat),ks=[]/\ts=[]/\Fam D C/\as=[.str n,frR p,.str m]/\Wd n/\Wd m/\R tZ [.str n,frR p,.lst ([(m,1)].map wyT)]
theorem K7(F:Fun K Bv Bl vK f fd)(T:Txt K mg D)(jU:OkI P w K mg base CX0 4 D.Door_init kE (spI K (KY D)))(dW:OkT P w K mg base 2 eN eX jO):cj P w K mg base CX0 5 f fd oY (spI K (Wo D)):=by
 refine F.okI Oz (λC ks ts as R hP=>by obtain⟨n,p,_,_,_,_,e,_⟩:=hP;exact e ▸ rfl) (by decide) λag A outer s H E hr=>?_;refine⟨_,(bC (Gy 0 T.Cj jU hr.md (by rfl) T.YL (bx (qv 1) (bx (qv 2) bF)))
  (bC (jH (bI dW hr.md (by rfl) (bx (qv 3) bF)))
  (bG (qJ (Fm:=Fam D) 0 (λC h=>⟨T.cl C h,T.Bt C h⟩) (d7 (bx (cW (bx (qv 3) (bx (lW (by rfl) T.Ek T.wJ) bF))) bF)))))),?_⟩
 rintro a dx C _ _ _ R ⟨n,m,p,rfl,rfl,hC,rfl,hw,hm,q⟩;exact⟨_,_,rfl,rfl,hC,rfl,hw,_,rfl,hm,⟨hC,by decide⟩,_,_,rfl,q⟩
structure Prs(ps:List (Str×Rat)):Prop where
 few:ps.length<=1000
 ok:∀p∈ps,Wd p.1/\Ch p.2
 bd:Bd (cD 1 (ps.map (·.2)):Nat)
 one:Aa (ps.map (·.2))=1
 jb:adV ps
def zZ(D:Adr):SI:=λC ks ts as R=>∃(n:Str)(p:Rat)(ps:List (Str×Rat)),ks=[]/\ts=[]/\Fam D C/\as=[.str n,frR p,.lst (ps.map wyT)]/\Wd n/\Prs ps/\R tZ [.str n,frR p,.lst ((Cm ps).map wyT)]
theorem J5(F:Fun K yP yU uE f fd)(T:Txt K mg D)(jU:OkI P w K mg base CX0 4 D.Door_init kE (spI K (KY D)))(rM:OkT P w K mg base 4 lD kZ v8)(rJ:OkT P w K mg base 4 lA kj vY):cj P w K mg base CX0 5 f fd gP (spI K (zZ D)):=by
 refine F.okI JW (λC ks ts as R hP=>by obtain⟨n,p,_,_,_,_,e,_⟩:=hP;exact e ▸ rfl) (by decide) λag A outer s H E hr=>?_;refine⟨_,(bC (Gy 0 T.Cj jU hr.md (by rfl) T.YL (bx (qv 1) (bx (qv 2) bF)))
  (bC (jH (bI rM hr.md (by rfl) (bx (qv 3) bF)))
  (bG (qJ (Fm:=Fam D) 0 (λC h=>⟨T.cl C h,T.Bt C h⟩) (bI rJ hr.md (by rfl) (bx (qv 3) bF)))))),?_⟩
 rintro a dx C _ _ _ R ⟨n,p,ps,rfl,rfl,hC,rfl,hw,h,q⟩;exact⟨_,_,rfl,rfl,hC,rfl,hw,_,rfl,h.few,h.ok,h.bd,h.one,_,rfl,h.few,h.jb,⟨hC,by decide⟩,_,_,rfl,q⟩
def VJ(D:Adr):SI:=λC ks ts as R=>∃(n x y:Str)(p c:Rat),ks=[]/\ts=[]/\Fam D C/\as=[.str n,frR p,frR c,.str x,.str y]/\Wd n/\Ch c/\Prs [(x,c),(y,1-c)]/\R tZ [.str n,frR p,.lst ((Cm [(x,c),(y,1-c)]).map wyT)]
theorem Mr(F:Fun K CT Aw u5 f fd)(T:Txt K mg D)(iR:OkT P w K mg base 3 jq jA rP)(fW:OkT P w K mg base 3 gF gH nJ)(oG:OkT P w K mg base 3 tD sI Bw)(d_:OkI P w K mg base CX0 5 D.Mixed_init gP (spI K (zZ D))):cj P w K mg base CX0 6 f fd oV (spI K (VJ D)):=by
 refine F.okI Ls (λC ks ts as R hP=>by obtain⟨n,_,_,p,_,_,_,_,e,_⟩:=hP;exact e ▸ rfl) (by decide) λag A outer s H E hr=>?_;refine⟨_,(bC (jH (bI iR hr.md (by rfl) (bx (qv 1) (bx (qv 2) bF))))
  (bC (jH (bI fW hr.md (by rfl) (bx (qv 3) bF)))
  (bG (Gy 0 T.yJ d_ hr.md (by rfl) T.Mg (bx (qv 1) (bx (qv 2) (bx (d7 (bx (cW (bx (qv 4) (bx (qv 3) bF))) (bx (cW (bx (qv 5) (bx (bI oG hr.md (by rfl) (bx (lW (by rfl) T.Ek T.wJ) (bx (qv 3) bF))) bF))) bF))) bF))))))),?_⟩
 rintro a dx C _ _ _ R ⟨n,x,y,p,c,rfl,rfl,hC,rfl,hw,hc,h,q⟩;refine⟨_,_,rfl,hw,_,rfl,hc,1,c,rfl,bq1,hc.bq,?_,n,p,_,rfl,rfl,hC,rfl,hw,h,_,_,rfl,q⟩;rw[show(((1:Rat).den:Nat):Int)*(c.den:Int)=(c.den:Int)from JP _];exact hc.2.2
noncomputable def even(bj:Φ):List (Str×Rat):=bj.map λr=>(r,mkRat 1 bj.length)
theorem Sy{n:Nat}(h:0<n):frR (mkRat 1 n)=.tup [.int 1,.int (n:Nat)]:=by
 have:mkRat 1 n=⟨1,n,by exact UT h,by show Nat.Coprime 1 n;exact Nat.coprime_one_left n⟩:=by
  rw[Rat.mk_eq_divInt];rfl
 rw[this]
def Ve(D:Adr):SI:=λC ks ts as R=>∃(n:Str)(p:Rat)(bj:Φ),ks=[]/\ts=[]/\Fam D C/\as=[.str n,frR p,.lst (bj.map T.str)]/\Wd n/\Prs (even bj)/\R tZ [.str n,frR p,.lst ((Cm (even bj)).map wyT)]
theorem M_(F:Fun K Bh zY qN f fd)(T:Txt K mg D)(d_:OkI P w K mg base CX0 5 D.Mixed_init gP (spI K (zZ D))):cj P w K mg base CX0 6 f fd nW (spI K (Ve D)):=by
 refine F.okI N5 (λC ks ts as R hP=>by obtain⟨n,p,_,_,_,_,e,_⟩:=hP;exact e ▸ rfl) (by decide) λag A outer s H E hr=>?_;refine⟨_,(bG (Gy 0 T.yJ d_ hr.md (by rfl) T.Mg (bx (qv 1) (bx (qv 2) (bx (dI (bH qN) wN wN ["room"] (cH (qv 3)) (fj (i:=0)) cI (cW (bx (qv 0) (bx (cW (bx bA (bx (bV dh (by rfl) T.dY W1 (bx (qv 4) bF)) bF))) bF)))) bF))))),?_⟩;rintro a dx C _ _ _ R ⟨n,p,bj,rfl,rfl,hC,rfl,hw,h,q⟩;have hl:bj.length<=1000:=by have:=h.few;rwa[even,ak]at this
 refine⟨by rw[ak];exact aL hl (by decide),comp_map L2.T.str (λr=>wyT (r,mkRat 1 bj.length)) bj (λr hr N M hN=>?_) ⟨n,p,even bj,rfl,rfl,hC,?_,hw,h,_,_,rfl,q⟩⟩
 .rw[show wyT (r,mkRat 1 bj.length)=.tup [.str r,frR (mkRat 1 bj.length)]from rfl,Sy (List.length_pos_of_mem hr),<- ak (f:=L2.T.str)]at hN;exact hN
 .unfold even;rw[WP]
  rfl
def Ao(D:Adr):ST:=λts q=>∃(C:Addr)(n:Str)(p:Rat)(ws:List (Str×Rat)),ts=[drT C n p ws]/\Fam D C/\q (.l1 (ws.map wyT))
theorem N8(F:Fun K BJ CV wg f fd)(T:Txt K mg D):cj P w K mg base CX0 1 f fd oU (spT K (Ao D)):=by
 refine F.okT K1 (λts R hP=>by obtain⟨C,n,p,ws,e,_⟩:=hP;exact e ▸ rfl) λag A outer s H E hr=>?_;refine⟨_,(bG (bQ (xP Lq (by rfl) T.OD boot_list (bx (pY (Fm:=Fam D) (λC h=>⟨T.cl C h,T.Bt C h⟩) (qv 0)) bF)))),?_⟩;rintro _ R ⟨C,n,p,ws,rfl,hC,q⟩;exact⟨hC,_,rfl,q⟩
structure bN where
 name:Str
 pay:Rat
 ways:List (Nat×Rat)
abbrev nwT(p:Nat×Rat):T:=.tup [.int (p.1:Nat),frR p.2]
abbrev ofT(o:bN):T:=.tup [.str o.name,frR o.pay,.lst (o.ways.map nwT)]
abbrev mL:Φ:=["share","numbers","offered"]
noncomputable abbrev nmK(ns:Φ):List Key:=ns.map Sum.inr
noncomputable abbrev nmT(ns:Φ):List T:=(List.range ns.length).map λk:Nat=>.int k
abbrev hlT(D:Adr)(s:Rat)(ns:Φ)(off:List (List bN)):T:=.ins D.Hall mL [frR s,.dct (nmK ns) (nmT ns),.lst (off.map λds=>.lst (ds.map ofT))]
def xK:ST:=λts q=>∃r:Rat,ts=[frR r]/\0<=r/\r<1/\Bq r/\q (.fz .non)
theorem Jh(F:Fun K lR lR rT f fd)(T:Txt K mg D)(gC:OkT P w K mg base 2 jR jQ qR)(gY:OkT P w K mg base 1 pL pU vh):cj P w K mg base CX0 3 f fd kO (spT K xK):=by
 refine F.okT G6 (λts R hP=>by obtain⟨t,e,_⟩:=hP;exact e ▸ rfl) λag A outer s H E hr=>?_;refine⟨_,(bG (cG (QW.qt (nR (fX (dX (bI gC hr.md (by rfl) (bx (qv 0) bF)))) (nR (dX (bI gY hr.md (by rfl) (bx (qv 0) (bx (lW (by rfl) T.jm T.gM) bF)))) (k_ (fX (dX (bI gY hr.md (by rfl) (bx (qv 0) (bx (lW (by rfl) T.Ek T.wJ) bF)))))))))
  (bG fQ)
  bT)),?_⟩
 rintro _ R ⟨r,rfl,h0,h1,hb,q⟩;refine⟨_,rfl,r,0,rfl,hb,bq0,?_⟩;rw[Zp (Rat.not_lt.mpr h0)];refine⟨r,1,rfl,hb,bq1,?_⟩;rw[Zs h1];exact q
theorem ZS(ns:Φ)(n:Str)(h:n∉ns):M9 (nmK ns) (.inr n)=false:=by
 unfold M9;rw[List.any_map];exact List.any_eq_false.mpr λx hx z=>h ((Sum.inr.inj (of_decide_eq_true z)) ▸ hx)
theorem Sw{α:Type}(n:Str):∀(ns:Φ)(ts:List α),n∉ns->qd (nmK ns) ts (.inr n)=none
 |[],_,_=>rfl
 |_::_,[],_=>rfl
 |m::ns,t::ts,h=>by
  show(if(Sum.inr m:Key)=.inr n then some t else qd (nmK ns) ts (.inr n))=none;rw[ZZ λz=>h (by rw[Sum.inr.inj z];exact aO ..)];exact Sw n ns ts λz=>h (aJ _ z)
theorem Vp{α:Type}{n:Str} : ∀{ns:Φ}{ts:List α}{k:Nat}{t:α},ns.Nodup->ns[k]?=some n->ts[k]?=some t->qd (nmK ns) ts (.inr n)=some t
 |[],_,_,_,_,e,_=>by cases e
 |m::ns,[],_,_,_,_,e=>by cases e
 |m::ns,u::ts,k,t,nd,e1,e2=>by
  obtain⟨n1,n2⟩:=List.nodup_cons.mp nd;show(if(Sum.inr m:Key)=.inr n then some u else qd (nmK ns) ts (.inr n))=some t;cases k with
  |zero=>cases e1;cases e2;exact ZY rfl
  |succ k =>
   have h7:ns[k]?=some n:=by simpa using e1
   rw[ZZ λ(z:(Sum.inr m:Key)=.inr n)=>n1 (by rw[Sum.inr.inj z];exact aC h7)];exact Vp n2 h7 (by simpa using e2)
theorem aeU(ns:Φ)(n:Str)(h:n∉ns):kpK (nmK ns) (.inr n)=nmK (ns++[n])/\kpT (nmK ns) (nmT ns) (.inr n) (.int (ns.length:Nat))=nmT (ns++[n]):=by
 unfold kpK kpT;rw[ZS ns n h];refine⟨by rw[ZZ (by decide)];simp[nmK],?_⟩;rw[ZZ (by decide)];simp only[nmT,aA,List.length_singleton,List.range_succ,bf,List.map_singleton]
noncomputable abbrev rmT(p:Str×List T):T:=.tup [.str p.1,.lst p.2]
def yV:ST:=λts q=>∃fe:List (Str×List T),ts=[.lst (fe.map rmT)]/\fe.length<=1000/\(∀p∈fe,Wd p.1)/\(fe.map (·.1)).Nodup/\q (.d1 (nmK (fe.map (·.1))) (nmT (fe.map (·.1))))
theorem JF(F:Fun K mH mH tY f fd)(T:Txt K mg D)(i_:OkT P w K mg base 1 mD mC uM):cj P w K mg base CX0 2 f fd mX (spT K yV):=by
 refine F.okT mQ (λts R hP=>by obtain⟨t,e,_⟩:=hP;exact e ▸ rfl) λag A outer s H E hr=>?_;refine⟨_,(bC (iu 1 mQ.nd (Or.inl rfl) O4)
  (bC (dB VZ rfl (cH (qv 0)) (b_ (n:=99) 2 mQ.nd (Or.inl rfl))
  (bC (bM 3 mQ.nd (Or.inl rfl) (bJ (qv 2) bA))
  (bC (cG (QW.qt (nR (fX (dX (bI i_ hr.md (by rfl) (bx (qv 3) bF)))) (k_ (T8 1 (YW (yQ hr) (qv 3) (qv 1))))))
  (bG fQ)
  bT)
  (bG (Oe 1 (yQ hr) (LC 1 (bV Vq (by rfl) T.dY W1 (bx (qv 1) bF))) (qv 3))))))
  (bG (jJ 1)))),?_⟩
 rintro _ R ⟨fe,rfl,rl,hw,nd,q⟩;refine fV rmT fe (λas o=>∃x y,o=[.fz (.lst (fe.map rmT)),.d1 (nmK (as.map (·.1))) (nmT (as.map (·.1))),x,y]) ⟨_,_,rfl⟩ ?_ ?_
 .rintro as a bs _ e ⟨x,y,rfl⟩;have na:a.1∉as.map (·.1):=by
   rw[e,bf,List.map_cons]at nd;exact λz=>(List.nodup_append.mp nd).2.2 a.1 z a.1 (aO ..) rfl
  have al:as.length<=fe.length:=by rw[e];simp
  refine⟨_,rfl,hw a (e ▸ by simp),_,rfl,?_⟩;rw[Sw a.1 _ _ na];refine⟨trivial,_,rfl,by rw[ak,ak];exact Y3 (show _<=1000 by exact aL al rl) (by decide),.fz (rmT a),.fz (.str a.1),?_⟩;obtain⟨k1,k2⟩:=aeU (as.map (·.1)) a.1 na;rw[bf,List.map_singleton,<- k1,<- k2];simp only[ak]
  rfl
 .rintro _ ⟨x,y,rfl⟩;exact q
structure NWk(ns:Φ)(us:List (Nat×Rat)):Prop where
 few:us.length<=1000
 lt:∀p∈us,p.1<ns.length
abbrev R9(ns:Φ)(us:List (Nat×Rat)):List (Str×Rat):=us.map λp=>(ns.getD p.1 ⟨#[]⟩,p.2)
def sS(D:Adr):ST:=λts q=>∃(C:Addr)(n:Str)(p:Rat)(ns:Φ)(us:List (Nat×Rat)),ts=[drT C n p (R9 ns us),.dct (nmK ns) (nmT ns)]/\c7 D C/\ns.Nodup/\NWk ns us/\q (.l1 (us.map nwT))
theorem Dv(F:Fun K jc jc nH f fd)(T:Txt K mg D)(wI:OkI P w K mg base CX0 1 D.Door_ways oU (spT K (Ao D))):cj P w K mg base CX0 2 f fd iQ (spT K (sS D)):=by
 refine F.okT iW (λts R hP=>by obtain⟨C,n,p,ns,us,e,_⟩:=hP;exact e ▸ rfl) λag A outer s H E hr=>?_;refine⟨_,(bC (iu 2 iW.nd (Or.inl rfl) (d7 bF))
  (bC (dB VZ rfl (cH (QE.any λC(hC:c7 D C)=>CP (qv 0) (T.cl C hC.fam) (T.M6 C hC) wI hr.md (KS:=tZ))) (fG (n:=2) rfl (bR (b_ (n:=99) 3 iW.nd (Or.inl rfl)) (bR (b_ (n:=99) 4 iW.nd (Or.inl rfl)) dF)))
  (bC (cG (W7 (yQ hr) (qv 3) (qv 1))
  (bG fQ)
  bT)
  (bG (nG 2 (cW (bx (Lk (yQ hr) (qv 1) (qv 3)) (bx (qv 4) bF)))))))
  (bG (jJ 2)))),?_⟩
 rintro _ R ⟨C,n,p,ns,us,rfl,hC,nd,hu,q⟩;refine⟨C,hC,⟨rfl,rfl⟩,C,n,p,_,rfl,hC.fam,?_⟩;show uO _ _ _ (List.map wyT (R9 ns us)) _;rw[show(R9 ns us).map wyT=us.map λp=>wyT (ns.getD p.1 ⟨#[]⟩,p.2)from WP];refine fV (λp=>wyT (ns.getD p.1 ⟨#[]⟩,p.2)) us (λas o=>∃x y,o=[.fz (drT C n p (R9 ns us)),.fz (.dct (nmK ns) (nmT ns)),.l1 (as.map nwT),x,y]) ⟨_,_,rfl⟩ ?_ ?_
 .rintro as a bs _ e ⟨x,y,rfl⟩;have lt:=hu.lt a (e ▸ by simp);have al:as.length<us.length:=by rw[e];simp
  have few:=hu.few;have en:ns[a.1]?=some (ns.getD a.1 ⟨#[]⟩):=by rw[au,aj lt];rfl
  have ev:qd (nmK ns) (nmT ns) (.inr (ns.getD a.1 ⟨#[]⟩))=some (.int (a.1:Nat)):=Vp nd en (by rw[aq,Up lt];rfl);refine⟨rfl,_,rfl,?_⟩;rw[ev];refine⟨_,_,rfl,ev,by rw[ak];exact Y3 (show _<=1000 by exact aL (Y2 al) few) (by decide),.fz (.str (ns.getD a.1 ⟨#[]⟩)),.fz (frR a.2),?_⟩;rw[bf]
  rfl
 .rintro _ ⟨x,y,rfl⟩;exact q
structure Made where
 cls:Addr
 of:bN
abbrev mdT(ns:Φ)(m:Made):T:=drT m.cls m.of.name m.of.pay (R9 ns m.of.ways)
structure Mds(D:Adr)(ns:Φ)(ds:List Made):Prop where
 few:ds.length<=1000
 cls:∀m∈ds,c7 D m.cls
 ways:∀m∈ds,NWk ns m.of.ways
 nd:(ds.map λm=>m.of.name).Nodup
theorem adt(ns:Φ)(n:Str)(h:n∉ns):kpK (nmK ns) (.inr n)=nmK (ns++[n])/\kpT (nmK ns) (ns.map λ_=>L2.T.bl true) (.inr n) (.bl true)=(ns++[n]).map λ_=>L2.T.bl true:=by
 unfold kpK kpT;rw[ZS ns n h];refine⟨by rw[ZZ (by decide)];simp[nmK],?_⟩;rw[ZZ (by decide)];simp
def BZ(D:Adr):ST:=λts q=>∃(ns:Φ)(ds:List Made),ts=[.lst (ds.map (mdT ns)),.dct (nmK ns) (nmT ns)]/\ns.Nodup/\Mds D ns ds/\q (.l1 (ds.map λm=>ofT m.of))
theorem Nk(F:Fun K oK oK vI f fd)(T:Txt K mg D)(nF:OkT P w K mg base 2 jc iQ (sS D)):cj P w K mg base CX0 3 f fd o9 (spT K (BZ D)):=by
 refine F.okT n8 (λts R hP=>by obtain⟨ns,ds,e,_⟩:=hP;exact e ▸ rfl) λag A outer s H E hr=>?_;refine⟨_,(bC (iu 2 n8.nd (Or.inl rfl) O4)
  (bC (iu 3 n8.nd (Or.inl rfl) (d7 bF))
  (bC (dB VZ rfl (cH (qv 0)) (b_ (n:=99) 4 n8.nd (Or.inl rfl))
  (bC (cG (T8 2 (YW (yQ hr) (pY (Fm:=Fam D) (λC h=>⟨T.cl C h,T.Gb C h⟩) (qv 4)) (qv 2)))
  (bG fQ)
  bT)
  (bC (Oe 2 (yQ hr) u9 (pY (Fm:=Fam D) (λC h=>⟨T.cl C h,T.Gb C h⟩) (qv 4)))
  (bG (nG 3 (cW (bx (pY (Fm:=Fam D) (λC h=>⟨T.cl C h,T.Gb C h⟩) (qv 4)) (bx (pY (Fm:=Fam D) (λC h=>⟨T.cl C h,T.aaZ C h⟩) (qv 4)) (bx (bI nF hr.md (by rfl) (bx (qv 4) (bx (qv 1) bF))) bF)))))))))
  (bG (jJ 3))))),?_⟩
 rintro _ R ⟨ns,ds,rfl,nd,hd,q⟩;refine fV (mdT ns) ds (λas o=>∃x,o=[.fz (.lst (ds.map (mdT ns))),.fz (.dct (nmK ns) (nmT ns)),.d1 (nmK (as.map λm=>m.of.name)) ((as.map λm=>m.of.name).map λ_=>.bl true),.l1 (as.map λm=>ofT m.of),x]) ⟨_,rfl⟩ ?_ ?_
 .rintro as a bs _ e ⟨x,rfl⟩;have na:a.of.name∉as.map λm=>m.of.name:=by
   have nd:=hd.nd;rw[e,bf,List.map_cons]at nd;exact λz=>(List.nodup_append.mp nd).2.2 _ z _ (aO ..) rfl
  have al:as.length<ds.length:=by rw[e];simp
  have few:=hd.few;have ma:a∈ds:=e ▸ by simp
  have hc:=hd.cls a ma;refine⟨hc.fam,_,rfl,_,rfl,?_⟩;rw[Sw _ _ _ na];refine⟨hc.fam,_,rfl,_,rfl,by rw[ak,ak];exact Y3 (show _<=1000 by exact aL (Y2 al) few) (by decide),hc.fam,_,rfl,hc.fam,_,rfl,_,_,_,ns,a.of.ways,rfl,hc,nd,hd.ways a ma,by rw[ak];exact Y3 (show _<=1000 by exact aL (Y2 al) few) (by decide),.fz (mdT ns a),?_⟩;obtain⟨k1,k2⟩:=adt (as.map λm=>m.of.name) a.of.name na;rw[show(as++[a]).map (λm=>m.of.name)=as.map (λm=>m.of.name)++[a.of.name]from bf,<- k1,<- k2,bf]
  rfl
 .rintro _ ⟨x,rfl⟩;exact q
structure adN(D:Adr)(ns:Φ)(ae:List (List Made)):Prop where
 len:ae.length=ns.length
 few:ns.length<=1000
 wd:∀n∈ns,Wd n
 nd:ns.Nodup
 mds:∀ds∈ae,Mds D ns ds
abbrev zy(ns:Φ)(ae:List (List Made)):List T:=(ns.zip ae).map λp=>rmT (p.1,p.2.map (mdT ns))
noncomputable abbrev offs(ae:List (List Made)):List (List bN):=ae.map λds=>ds.map λm=>m.of
def Wn(D:Adr):SI:=λC ks ts as R=>∃(s:Rat)(ns:Φ)(ae:List (List Made)),C=D.Hall/\ks=[]/\ts=[]/\as=[frR s,.lst (zy ns ae)]/\0<=s/\s<1/\Bq s/\adN D ns ae/\R mL [frR s,.dct (nmK ns) (nmT ns),.lst ((offs ae).map λds=>.lst (ds.map ofT))]
theorem NT(F:Fun K z6 Cq qY f fd)(T:Txt K mg D)(rE:OkT P w K mg base 3 lR kO xK)(tV:OkT P w K mg base 2 mH mX yV)(vm:OkT P w K mg base 3 oK o9 (BZ D)):cj P w K mg base CX0 4 f fd n_ (spI K (Wn D)):=by
 refine F.okI Oc (λC ks ts as R hP=>by obtain⟨n,p,_,_,_,_,e,_⟩:=hP;exact e ▸ rfl) (by decide) λag A outer s H E hr=>?_;refine⟨_,(bC (jH (bI rE hr.md (by rfl) (bx (qv 1) bF)))
  (bC (qJ (Fm:=Fam D) 0 (λC h=>⟨T.cl C h,T.vq C h⟩) (qv 1))
  (bC (qJ (Fm:=Fam D) 0 (λC h=>⟨T.cl C h,T.zG C h⟩) (bI tV hr.md (by rfl) (bx (qv 2) bF)))
  (bG (qJ (Fm:=Fam D) 0 (λC h=>⟨T.cl C h,T.HW C h⟩) (dI (bH qY) xq xq ["room"] (cH (qv 2)) (fj (i:=0)) cI (bI vm hr.md (by rfl) (bx (bJ (qv 0) bA) (bx (adz (Fm:=Fam D) 1 (λC h=>⟨T.cl C h,T.zG C h⟩)) bF))))))))),?_⟩
 rintro a dx C _ _ _ R ⟨s,ns,ae,rfl,rfl,rfl,rfl,s0,s1,sb,h,q⟩;have z1:(ns.zip ae).map (·.1)=ns:=List.map_fst_zip (by have:=h.len;exact WG (Eq.symm this));have z2:(ns.zip ae).map (·.2)=ae:=List.map_snd_zip (by have:=h.len;exact WG this);have zl:(ns.zip ae).length=ns.length:=by rw[VX,h.len,UV]
 have hf:=qe D;have few:=h.few;refine⟨_,rfl,s0,s1,sb,⟨hf,by decide⟩,(ns.zip ae).map λp=>(p.1,p.2.map (mdT ns)),by rw[WP];rfl,by rw[ak,zl];exact few,λp hp=>?_,?_,⟨hf,by decide⟩,?_⟩
 .obtain⟨x,hx,rfl⟩:=YV.mp hp;exact h.wd x.1 (z1 ▸ YV.mpr ⟨x,hx,rfl⟩)
 .rw[WP];exact z1.symm ▸ h.nd
 .rw[show((ns.zip ae).map λp=>(p.1,p.2.map (mdT ns))).map (·.1)=ns from List.map_map.trans z1];refine⟨by rw[ak,zl];exact aL few (by decide),comp_map (λp=>rmT (p.1,p.2.map (mdT ns))) (λp=>.lst (p.2.map λm=>ofT m.of)) (ns.zip ae) (λp hp N M hN=>?_) ⟨⟨hf,by decide⟩,_,_,rfl,?_⟩⟩
  .exact⟨hf,_,rfl,ns,p.2,rfl,h.nd,h.mds p.2 (z2 ▸ YV.mpr ⟨p,hp,rfl⟩),hN⟩
  .have:(ns.zip ae).map (λp=>L2.T.lst (p.2.map λm=>ofT m.of))=(offs ae).map λds=>.lst (ds.map ofT):=by
    rw[show(offs ae).map (λds=>L2.T.lst (ds.map ofT))=ae.map λds=>.lst (ds.map λm=>ofT m.of)from by simp[offs,WP,Function.comp_def]]
    conv=>rhs;rw[<- z2,WP]
    rfl
   rw[<- this]at q;exact q
structure R5(ns:Φ)(off:List (List bN)):Prop where
 len:off.length=ns.length
 few:ns.length<=1000
 fews:∀ds∈off,ds.length<=1000
def oZ(D:Adr):ST:=λts q=>∃(s:Rat)(ns:Φ)(off:List (List bN)),ts=[hlT D s ns off]/\q (.fz (.int (ns.length:Nat)))
theorem Ma(F:Fun K Am Aq w6 f fd)(T:Txt K mg D):cj P w K mg base CX0 1 f fd iI (spT K (oZ D)):=by
 refine F.okT Lg (λts R hP=>by obtain⟨s,ns,off,e,_⟩:=hP;exact e ▸ rfl) λag A outer s H E hr=>?_;refine⟨_,(bG (bQ (bV Vq (by rfl) T.dY W1 (bx (pY (Fm:=Fam D) (λC h=>⟨T.cl C h,T.zG C h⟩) (qv 0)) bF)))),?_⟩;rintro _ R ⟨s,ns,off,rfl,q⟩;refine⟨qe D,_,rfl,?_⟩;rw[<- ak (f:=(Sum.inr:Str->Key))]at q;exact q
def yH(D:Adr):ST:=λts q=>∃(s:Rat)(ns:Φ)(off:List (List bN))(k:Nat),ts=[hlT D s ns off,.int k]/\k<ns.length/\q (.fz .non)
theorem Jt(F:Fun K pJ pZ lC f fd)(T:Txt K mg D)(dG:OkT P w K mg base 1 iC ig nC)(fM:OkI P w K mg base CX0 1 D.Hall_size iI (spT K (oZ D))):cj P w K mg base CX0 2 f fd gA (spT K (yH D)):=by
 refine F.okT zm (λts R hP=>by obtain⟨s,ns,off,k,e,_⟩:=hP;exact e ▸ rfl) λag A outer s H E hr=>?_;refine⟨_,(bG (cG (QW.qt (nR (fX (dX (bI dG hr.md (by rfl) (bx (qv 1) bF)))) (k_ (fX (R6 Rh uY bA (qv 1) (CP (qv 0) T.lH T.uo fM hr.md (KS:=mL)))))))
  (bG fQ)
  bT)),?_⟩
 rintro _ R ⟨s,ns,off,k,rfl,hk,q⟩;refine⟨_,_,rfl,rfl,⟨rfl,rfl⟩,_,_,_,rfl,?_⟩;show sw (!decide ((k:Int)<(ns.length:Nat))) _ _;rw[Zs (show(k:Int)<(ns.length:Nat)by lia)];exact q
def tG(D:Adr):ST:=λts q=>∃(s:Rat)(ns:Φ)(off:List (List bN))(k:Nat)(ds:List bN),ts=[hlT D s ns off,.int k]/\R5 ns off/\off[k]?=some ds/\q (.l1 (ds.map ofT))
theorem cZ{α:Type}{l:List α}{h:α->T}{k:Nat}{a:α}(e:l[k]?=some a):ixT (l.map h) (k:Nat)=some (h a):=by
 show nth (l.map h) k=_;rw[rR,aq,e];rfl
theorem W0(F:Fun K vJ uW mR f fd)(T:Txt K mg D)(j8:OkI P w K mg base CX0 2 D.Hall_check_room gA (spT K (yH D))):cj P w K mg base CX0 3 f fd eZ (spT K (tG D)):=by
 refine F.okT Ja (λts R hP=>by obtain⟨s,ns,off,k,ds,e,_⟩:=hP;exact e ▸ rfl) λag A outer s H E hr=>?_;refine⟨_,(bC (jH (Ba (qv 0) T.lH T.yZ j8 hr.md (bx (qv 1) bF) (KS:=mL)))
  (bG (bQ (dI (bH mR) rD rD ["name","pay","numbered"] (cH (bJ (pY (Fm:=Fam D) (λC h=>⟨T.cl C h,T.HW C h⟩) (qv 0)) (qv 1))) (fG (n:=3) rfl (bR (fj (i:=0)) (bR (fj (i:=1)) (bR (fj (i:=2)) dF)))) cI (cW (bx (qv 0) (bx (qv 1) (bx (xP Lq (by rfl) T.OD boot_list (bx (qv 2) bF)) bF)))))))),?_⟩
 rintro _ R ⟨s,ns,off,k,ds,rfl,h,e,q⟩;have lk:k<ns.length:=by rw[<- h.len];exact(ao.mp e).1
 refine⟨⟨rfl,rfl⟩,s,ns,off,k,rfl,lk,qe D,_,rfl,.lst (ds.map ofT),cZ (h:=λds=>L2.T.lst (ds.map ofT)) e,by rw[ak];exact aL (h.fews ds (aC e)) (by decide),comp_map ofT ofT ds (λo _ N M hN=>⟨rfl,hN⟩) q⟩
open Rw (vr iB gW m_ gcL f9 gD sE kh Big pN jx mW jK mV fK)
noncomputable abbrev Row:=List Int×Int
noncomputable abbrev rwT(r:Row):T:=.tup [.lst (r.1.map T.int),.int r.2]
noncomputable def NN:Nat:=10^600
theorem agk{i:Int}(h:i.natAbs<=NN*NN*NN):Bd i:=Y3 h (by decide +kernel)
theorem bdN{i:Int}(h:i.natAbs<=NN):Bd i:=agk (aL h (by decide +kernel))
theorem ada{i:Int}(h:i.natAbs<=NN*NN):Bd i:=agk (aL h (by decide +kernel))
theorem acq{a b:Int}{m n:Nat}(h1:a.natAbs<=m)(h2:b.natAbs<=n):(a*b).natAbs<=m*n:=by rw[VY];exact WH h1 h2
theorem tH{a b:Int}(h:0<b):Int.fdiv a b=a/b:=Zyu _ (XY h)
def DW:ST:=λts q=>∃r:Row,ts=[.lst (r.1.map T.int),.int r.2]/\0<r.2/\Bd r.2/\r.1.length<=1000/\q (.fz (rwT (iB r)))
theorem W2(F:Fun K sH sH B_ f fd)(dJ:OkT P w K mg base 1 iy iH lY):cj P w K mg base CX0 2 f fd tK (spT K DW):=by
 refine F.okT xW (λts R hP=>by obtain⟨r,e,_⟩:=hP;exact e ▸ rfl) λag A outer s H E hr=>?_;refine⟨_,(bC (bM 2 xW.nd (Or.inr rfl) (qv 1))
  (bC (dB VZ rfl (cH (qv 0)) (b_ (n:=99) 3 xW.nd (Or.inl rfl))
  (bG (bM 2 xW.nd (Or.inr rfl) (bI dJ hr.md (by rfl) (bx (qv 3) (bx (qv 2) bF))))))
  (bG (bQ (cW (bx (dI (bH B_) Qk ["tops","bottom","common","?top"] ["top"] (cH (qv 0)) (fj (i:=0)) cI (bK mF (qv 0) (qv 3))) (bx (bK mF (qv 1) (qv 2)) bF))))))),?_⟩
 rintro _ R ⟨⟨tops,b⟩,rfl,hb,bb,tl,q⟩;have hb:0<b:=hb;have bb:Bd b:=bb;refine fV L2.T.int tops (λas o=>∃x,o=[.fz (.lst (tops.map L2.T.int)),.fz (.int b),.fz (.int (gcL as b)),x]) ⟨_,rfl⟩ ?_ ?_
 .rintro as a bs _ e ⟨x,rfl⟩;refine⟨_,_,rfl,.fz (.int a),?_⟩;rw[show gcL (as++[a]) b=((Int.gcd a (gcL as b):Nat):Int)from by unfold gcL;rw[List.foldl_append];rfl]
  rfl
 .rintro _ ⟨x,rfl⟩;have g0:=f9 (ts:=tops) hb;have g1:Bd (gcL tops b):=Kh (by have:=sE (ts:=tops) hb;omega) bb;refine⟨by rw[ak];exact aL tl (by decide),comp_map L2.T.int (λt=>.int (t/gcL tops b)) tops (λt ht N M hN=>⟨⟨by exact WS g0,g1⟩,?_⟩) ⟨⟨by exact WS g0,g1⟩,?_⟩⟩
  .rw[tH g0];exact hN
  .rw[tH g0];have:(iB (tops,b)).1.map L2.T.int=tops.map λt=>.int (t/gcL tops b):=WP;rw[<- this];exact q
structure Fn(c:Rat):Prop where
 n:c.num.natAbs<=NN
 d:c.den<=NN
noncomputable abbrev pr(c:Rat):Int×Int:=(c.num,c.den)
def Ar:ST:=λts q=>∃(r:Row)(c:Rat),ts=[rwT r,frR c]/\Big NN r/\r.1.length<=1000/\Fn c/\q (.fz (rwT (iB (gW r (pr c)))))
theorem Mf(F:Fun K oE oE qD f fd)(T:Txt K mg D)(sX:OkT P w K mg base 2 sH tK DW):cj P w K mg base CX0 3 f fd oX (spT K Ar):=by
 refine F.okT Ly (λts R hP=>by obtain⟨r,c,e,_⟩:=hP;exact e ▸ rfl) λag A outer s H E hr=>?_;refine⟨_,(bG (bQ (bI sX hr.md (by rfl) (bx (dI (bH qD) vg vg ["top"] (cH (bJ (qv 0) bA)) (fj (i:=0)) cI (bK cB (qv 0) (bJ (qv 2) bA))) (bx (bK cB (bJ (qv 0) bA) (bJ (qv 1) bA)) bF))))),?_⟩;rintro _ R ⟨r,c,rfl,hr,rl,hc,q⟩;have:=c.den_pos;have cd:((c.den:Nat):Int).natAbs<=NN:=hc.d;refine⟨by rw[ak];exact aL rl (by decide),comp_map L2.T.int (λt=>.int (t*c.num)) r.1 (λt ht N M hN=>⟨⟨bdN (hr.top t ht),bdN hc.n⟩,hN⟩) ⟨⟨bdN hr.bot,bdN cd⟩,gW r (pr c),?_,XZ hr.pos (show(0:Int)<(c.den:Nat)by lia),ada (acq hr.bot cd),by show(r.1.map _).length<=1000;rw[ak];exact rl,q⟩⟩;show _=[L2.T.lst ((r.1.map λt=>t*c.num).map L2.T.int),.int (r.2*c.den)];rw[WP]
 rfl
def Es:ST:=λts q=>∃(r o:Row)(c:Rat),ts=[rwT r,rwT o,frR c]/\Big NN r/\Big NN o/\r.1.length<=1000/\o.1.length=r.1.length/\Fn c/\q (.fz (rwT (iB (m_ r o (pr c)))))
theorem Qo(F:Fun K qy qy ud f fd)(T:Txt K mg D)(dJ:OkT P w K mg base 1 iy iH lY)(sX:OkT P w K mg base 2 sH tK DW):cj P w K mg base CX0 3 f fd qG (spT K Es):=by
 refine F.okT jW (λts R hP=>by obtain⟨r,o,c,e,_⟩:=hP;exact e ▸ rfl) λag A outer s H E hr=>?_;refine⟨_,(bC (bM 3 jW.nd (Or.inl rfl) (bK cB (bJ (qv 1) bA) (bJ (qv 2) bA)))
  (bC (bM 4 jW.nd (Or.inl rfl) (bI dJ hr.md (by rfl) (bx (bJ (qv 0) bA) (bx (qv 3) bF))))
  (bC (bM 5 jW.nd (Or.inr rfl) (bK mF (qv 3) (qv 4)))
  (bC (bM 6 jW.nd (Or.inr rfl) (bK cB (bK mF (bJ (qv 0) bA) (qv 4)) (bJ (qv 2) bA)))
  (bC (qM (bH ud) zP zP ["one","another"] (Hv (by rfl) T.Ph (bx (bJ (qv 0) bA) (bx (bJ (qv 1) bA) bF))) (fG (n:=2) rfl (bR (fj (i:=0)) (bR (fj (i:=1)) dF))) cI (bK cN (bK cB (qv 0) (qv 7)) (bK cB (qv 1) (qv 8))) (lM (i:=7) jW.nd rfl (Or.inl rfl)))
  (bG (bQ (bI sX hr.md (by rfl) (bx (qv 7) (bx (bK cB (bJ (qv 0) bA) (qv 5)) bF)))))))))),?_⟩
 rintro _ R ⟨r,o,c,rfl,hr,ho,rl,ol,hc,q⟩;have:=c.den_pos;have cd:((c.den:Nat):Int).natAbs<=NN:=hc.d;have hB:0<o.2*(c.den:Int):=XZ ho.pos (by lia);have bB:=acq ho.bot cd;have g0:=mK (a:=r.2) (WS hB);have gr:((Int.gcd r.2 (o.2*(c.den:Int)):Nat):Int)≠0:=by exact WS g0
 have gl:Int.gcd r.2 (o.2*(c.den:Int))<=r.2.natAbs:=UX (by have:=hr.pos;omega) (Int.gcd_dvd_natAbs_left ..);have gb:Bd ((Int.gcd r.2 (o.2*(c.den:Int)):Nat):Int):=bdN (by have:=hr.bot;lia);have d2:(o.2*(c.den:Int)/((Int.gcd r.2 (o.2*(c.den:Int)):Nat):Int)).natAbs<=NN*NN:=aL (Int.natAbs_ediv_le_natAbs _ _) bB;have d1:(r.2/((Int.gcd r.2 (o.2*(c.den:Int)):Nat):Int)).natAbs<=NN:=aL (Int.natAbs_ediv_le_natAbs _ _) hr.bot;refine⟨⟨bdN ho.bot,bdN cd⟩,_,_,rfl,⟨gr,gb⟩,⟨gr,gb⟩,⟨by rw[tH g0];exact bdN d1,bdN hc.n⟩,?_⟩;rw[tH g0,tH g0];refine⟨by unfold Dk;rw[ak,VX,ak,ak,ol,UV];exact aL rl (by decide),?_⟩;rw[zip_map];refine comp_map (λp=>.tup [.int p.1,.int p.2]) (λp=>.int (p.1*(o.2*(c.den:Int)/((Int.gcd r.2 (o.2*(c.den:Int)):Nat):Int))+p.2*(r.2/((Int.gcd r.2 (o.2*(c.den:Int)):Nat):Int)*c.num))) (r.1.zip o.1) (λp hp N M hN=>⟨rfl,⟨bdN (hr.top _ (VQ hp).1),ada d2⟩,⟨bdN (ho.top _ (VQ hp).2),ada (acq d1 hc.n)⟩,hN⟩) ⟨⟨bdN hr.bot,ada d2⟩,m_ r o (pr c),?_,?_,agk ?_,?_,q⟩
 .show _=[L2.T.lst ((List.zipWith _ r.1 o.1).map L2.T.int),_];rw[Zxu,List.zip,Zxu]
  rfl
 .exact XZ hr.pos (Zxy hB (XY g0) (Q3 ..))
 .rw[Nat.mul_assoc];exact acq hr.bot d2
 .show(List.zipWith _ r.1 o.1).length<=1000;rw[JS,ol,UV];exact rl
open Rw (vr iB gW m_ gcL f9 gD sE kh Big pN jx mW jK mV fK)
inductive Stp where
 |swap (i j:Nat)|times (i:Nat) (c:Rat)|add (i j:Nat) (c:Rat)
def stT:Stp->T
 |.swap i j=>.tup [.str "swap",.int i,.int j]
 |.times i c=>.tup [.str "times",.int i,frR c]
 |.add i j c=>.tup [.str "add",.int i,.int j,frR c]
noncomputable def rAt(rs:List Row)(i:Nat):Row:=rs.getD i ([],1)
def wX(rs:List Row):Stp->List Row
 |.swap i j=>(rs.set i (rAt rs j)).set j (rAt rs i)
 |.times i c=>rs.set i (iB (gW (rAt rs i) (pr c)))
 |.add i j c=>rs.set i (iB (m_ (rAt rs i) (rAt rs j) (pr c)))
def ail(n:Nat):Stp->Prop
 |.swap i j=>i<n/\j<n
 |.times i c=>i<n/\Fn c
 |.add i j c=>i<n/\j<n/\Fn c
theorem xT{rs:List Row}{i:Nat}(h:i<rs.length):rs[i]?=some (rAt rs i):=by
 unfold rAt;rw[au,aj h];rfl
theorem d9{rs:List Row}{i:Nat}(h:i<rs.length):rAt rs i∈rs:=aC (xT h)
theorem zF{n i:Nat}(h:i<n):ixN n ((i:Nat):Int)=some i:=by
 unfold ixN;rw[ZY (Wp _),ZY (by lia)];rfl
theorem tR{rs:List Row}{i:Nat}(h:i<rs.length):ixT (rs.map rwT) ((i:Nat):Int)=some (rwT (rAt rs i)):=cZ (xT h)
structure Rws(rs:List Row)(wd:Nat):Prop where
 big:∀r∈rs,Big NN r
 wds:∀r∈rs,r.1.length=wd
 few:rs.length<=100
 wde:wd<=1000
def Av:SO:=λar ts R=>∃(rs:List Row)(st:Stp)(wd:Nat),ar=[rs.map rwT]/\ts=[stT st]/\Rws rs wd/\ail rs.length st/\R [(wX rs st).map rwT]
theorem O2(F:Fun K oR oR u_ f fd)(T:Txt K mg D)(vC:OkT P w K mg base 3 oE oX Ar)(zW:OkT P w K mg base 3 qy qG Es):cj P w K mg base CX0 4 f fd oA (spO K Av):=by
 refine F.okO Ca (λar ts R ⟨rs,st,wd,e1,e2,_⟩=>by rw[e1,e2];rfl) (by decide) λag A outer s H E hr=>?_;refine⟨_,(bC (bM 2 Ca.nd (Or.inl rfl) (uJ 0 (bJ (qv 1) bA)))
  (bG (cG (bY (go_eq hr.units) (bJ (qv 1) bA) uL)
  (bC (Dm 0 (uJ 0 (bJ (qv 1) bA)) (bJ (qv 1) bA))
  (bG (Dm 0 (qv 2) (bJ (qv 1) bA))))
  (bG (cG (bY (go_eq hr.units) (bJ (qv 1) bA) uL)
  (bG (Dm 0 (bI vC hr.md (by rfl) (bx (qv 2) (bx (bJ (qv 1) bA) bF))) (bJ (qv 1) bA)))
  (bG (Dm 0 (bI zW hr.md (by rfl) (bx (qv 2) (bx (uJ 0 (bJ (qv 1) bA)) (bx (bJ (qv 1) bA) bF)))) (bJ (qv 1) bA)))))))),?_⟩
 rintro as ar ts R tl ⟨rs,st,wd,rfl,rfl,h,hs,q⟩;obtain⟨a,rfl⟩ : ∃a,as=[a]:=by
  match as,tl with
  |[a],_=>exact⟨a,rfl⟩
 have br:∀(L:List L2.T)(x y:OT),R [L]->∃a9,(∀j,slot [.la a L,x,y] j=slot (List.zipWith OT.la [a] a9) j\/[a].length<=j)/\a9.length=[a].length/\R a9:=λL x y q=>⟨[L],λj=>by
  cases j with
  |zero=>exact .inl rfl
  |succ j=>exact .inr (by simp),rfl,q⟩
 have lm:(rs.map rwT).length=rs.length:=ak _
 match st,hs,q with
 |.swap i j,hs,q =>
  refine⟨_,tR hs.1,_,tR hs.2,i,zF (lm ▸ hs.1),j,zF (by rw[VS,lm];exact hs.2),br _ _ _ ?_⟩;rw[wX,List.map_set,List.map_set]at q;exact q
 |.times i c,hs,q =>
  have m:=d9 hs.1;refine⟨_,tR hs.1,rAt rs i,c,rfl,h.big _ m,by rw[h.wds _ m];exact h.wde,hs.2,i,zF (lm ▸ hs.1),br _ _ _ ?_⟩;rw[wX,List.map_set]at q;exact q
 |.add i j c,hs,q =>
  have m:=d9 hs.1;have n:=d9 hs.2.1;refine⟨_,tR hs.1,_,tR hs.2.1,rAt rs i,rAt rs j,c,rfl,h.big _ m,h.big _ n,by rw[h.wds _ m];exact h.wde,by rw[h.wds _ m,h.wds _ n],hs.2.2,i,zF (lm ▸ hs.1),br _ _ _ ?_⟩;rw[wX,List.map_set]at q;exact q
open Rw (vr iB gW m_ gcL f9 gD sE kh Big pN jx mW jK mV fK)
def uH:ST:=λts q=>∃(r:Row)(k:Nat),ts=[rwT r,.int k]/\k<r.1.length/\Big NN r/\q (.fz (frR (vr r k)))
theorem K6(F:Fun K kJ kJ xG f fd)(dH:OkT P w K mg base 2 nu m9 sW):cj P w K mg base CX0 3 f fd j6 (spT K uH):=by
 refine F.okT Mx (λts R hP=>by obtain⟨r,k,e,_⟩:=hP;exact e ▸ rfl) λag A outer s H E hr=>?_;refine⟨_,(bG (bQ (bI dH hr.md (by rfl) (bx (bJ (bJ (qv 0) bA) (qv 1)) (bx (bJ (qv 0) bA) bF))))),?_⟩;rintro _ R ⟨r,k,rfl,hk,hr,q⟩;have h0:=hr.pos;refine⟨_,cZ (aj hk),_,_,rfl,by exact WS h0,bdN hr.bot,λx y l=>?_⟩;rw[iZ l (WS h0),UK];unfold vr at q;rw[au,aj hk]at q;exact q
def uR:ST:=λts q=>∃(rs:List Row)(wd:Nat),ts=[.lst (rs.map rwT)]/\Rws rs wd/\q (.l1 (rs.map λr=>.lst ((List.range wd).map λk=>frR (vr r k))))
theorem Fq(F:Fun K jG jG iG f fd)(dH:OkT P w K mg base 2 nu m9 sW):cj P w K mg base CX0 3 f fd jD (spT K uR):=by
 refine F.okT Fv (λts R hP=>by obtain⟨r,k,e,_⟩:=hP;exact e ▸ rfl) λag A outer s H E hr=>?_;refine⟨_,(bG (bQ (adi (bH iG) iw iw "row" (cH (qv 0)) adT cI (Wc (bH iG) ("row"::iw) ("row"::iw) ["top"] (cH (bJ (qv 0) bA)) (fj (i:=0)) cI (bI dH hr.md (by rfl) (bx (qv 0) (bx (bJ (qv 1) bA) bF))))))),?_⟩;rintro _ R ⟨rs,wd,rfl,h,q⟩;refine⟨by rw[ak];exact aL h.few (by decide),comp_map rwT (λr=>.lst ((List.range wd).map λk=>frR (vr r k))) rs (λr hr N M hN=>⟨by rw[ak,h.wds r hr];exact aL h.wde (by decide),?_⟩) q⟩;have hb:=h.big r hr;have h0:=hb.pos;refine comp_map T.int (λt=>frR ((t:Rat)/(r.2:Rat))) r.1 (λt ht N M hN=>⟨_,_,rfl,by exact WS h0,bdN hb.bot,λx y l=>by rw[iZ l (WS h0),UK];exact hN⟩) ?_;have e:(r.1.map λt:Int=>frR ((t:Rat)/(r.2:Rat)))=(List.range wd).map λk=>frR (vr r k):=by
  refine Zzx (by rw[ak,ak,WJ,h.wds r hr]) λn h1 h2=>?_;rw[ak]at h1;rw[UU,UU,Zzw];unfold vr;rw[au,aj h1]
  rfl
 rw[e];exact hN
theorem Zb{lo n i:Nat}{t:T}(e:(rng (lo:Nat) n)[i]?=some t):i<n/\t=.int ((lo+i:Nat):Int):=by
 unfold rng at e;rw[aq]at e;by_cases hi:i<n
 .rw[Up hi]at e;cases e;exact⟨hi,rfl⟩
 .rw[aM (by simpa using hi)]at e;cases e
theorem aaL{r:Row}{k:Nat}(h:0<r.2)(hk:k<r.1.length):vr r k=0↔r.1[k]=0:=by
 have e:vr r k=(r.1[k] : Rat)/(r.2:Rat):=by unfold vr;rw[au,aj hk];rfl
 have n:(r.2:Rat)≠0:=λz=>by have:=Rat.intCast_eq_zero_iff.mp z;lia
 rw[e];constructor
 .intro z;have:(r.1[k] : Rat)=0:=by grind
  exact Rat.intCast_eq_zero_iff.mp this
 .intro z;rw[z];grind
def yM:ST:=λts R=>∃(rs:List Row)(wd p k:Nat),ts=[.lst (rs.map rwT),.int p,.int k]/\Rws rs wd/\p<=rs.length/\k<wd/\(∀q,p<=q->q<rs.length->vr (rAt rs q) k≠0->R (.fz (.int q)))/\((∀i,p<=i->i<rs.length->vr (rAt rs i) k=0)->R (.fz .non))
theorem Js(F:Fun K mU mU t_ f fd)(T:Txt K mg D):cj P w K mg base CX0 1 f fd mZ (spT K yM):=by
 refine F.okT yS (λts R hP=>by obtain⟨r,_,_,k,e,_⟩:=hP;exact e ▸ rfl) λag A outer s H E hr=>?_;refine⟨_,(bC (dB VZ rfl (Kr (by rfl) T.dO (bx (qv 1) (bx (bV dh (by rfl) T.dY W1 (bx (qv 0) bF)) bF))) (b_ (n:=99) 3 yS.nd (Or.inl rfl))
  (bG (cG (bY (tO hr.units) (bJ (bJ (bJ (qv 0) (qv 3)) bA) (qv 2)) bA)
  (bG (bQ (qv 3)))
  bT)))
  (bG (bQ jg))),?_⟩
 rintro _ R ⟨rs,wd,p,k,rfl,h,hp,hk,q,q0⟩;have at_:∀i,i<rs.length->k<(rAt rs i).1.length:=λi hi=>by rw[h.wds _ (d9 hi)];exact hk
 have few:=h.few;have lm:(rs.map rwT).length=rs.length:=ak _;refine⟨⟨by lia,by lia,by lia,by lia⟩,Bk (λi o=>∃x,o=[.fz (.lst (rs.map rwT)),.fz (.int p),.fz (.int k),x]/\∀j,p<=j->j<p+i->vr (rAt rs j) k=0) _ 0 ⟨_,rfl,λj _ _=>by lia⟩ (λi t o e z=>?_) λo z=>?_⟩
 .obtain⟨hi,rfl⟩:=Zb e;rw[lm]at hi;have eK:p+i<rs.length:=by omega
  obtain⟨x,rfl,hz⟩:=z;have v0:=aaL (h.big _ (d9 eK)).pos (at_ _ eK);refine⟨_,tR eK,_,cZ (aj (at_ _ eK)),?_⟩;by_cases c:(rAt rs (p+i)).1[k]'(at_ _ eK)=0
  .refine swF (by show xr true (decide (_=_))=false;rw[Zs c];rfl) ⟨_,rfl,λj hj hl=>?_⟩;by_cases ej:j=p+i
   .rw[ej];exact v0.mpr c
   .exact hz j hj (by lia)
  .exact swT (by show xr true (decide (_=_))=true;rw[Zp c];rfl) (q _ (X2 _ _) eK λz=>c (v0.mp z))
 .obtain⟨x,rfl,hz⟩:=z;refine q0 λj hj hl=>hz j hj ?_;unfold rng;rw[ak,WJ,lm];lia
def Ii:SO:=λar ts R=>∃(rs:List Row)(ss:List T)(st:Stp)(wd:Nat),ar=[rs.map rwT,ss]/\ts=[stT st]/\Rws rs wd/\ail rs.length st/\ss.length<sizeLine/\R [(wX rs st).map rwT,ss++[stT st]]
theorem ZQ(F:Fun K xg xg O7 f fd)(uX:OkF P w K mg base 4 oR oA (spO K Av)):cj P w K mg base CX0 5 f fd vU (spO K Ii):=by
 refine F.okO YD (λar ts R ⟨rs,ss,st,wd,e1,e2,_⟩=>by rw[e1,e2];rfl) (by decide) λag A outer s H E hr=>?_;refine⟨_,(bC (afg 0 uX hr.md (by rfl) (bx (qv 2) bF))
  (bG (nG 1 (qv 2)))),?_⟩
 rintro as ar ts R tl ⟨rs,ss,st,wd,rfl,rfl,h,hs,hl,q⟩;obtain⟨a,b,rfl⟩ : ∃a b,as=[a,b]:=by
  match as,tl with
  |[a,b],_=>exact⟨a,b,rfl⟩
 refine⟨rs,st,wd,rfl,rfl,h,hs,hl,[(wX rs st).map rwT,ss++[stT st]],λj=>?_,rfl,q⟩
 match j with
 |0=>exact .inl rfl
 |1=>exact .inl rfl
 |j+2=>exact .inr (by simp)
open Rw (vr iB gW m_ gcL f9 gD sE kh Big pN jx mW jK mV fK)
theorem Ge{rs:List Row}{i:Nat}{r:Row}(h:i<rs.length)(j:Nat):rAt (rs.set i r) j=if j=i then r else rAt rs j:=by
 unfold rAt;rw[au,au,List.getElem?_set];by_cases e:i=j
 .subst e;rw[ZY rfl,ZY rfl,ZY h];rfl
 .rw[ZZ e,ZZ (Ne.symm e)]
theorem Fn.of{a b:Int}(hb:b≠0)(h1:a.natAbs<=NN)(h2:b.natAbs<=NN):Fn (Rat.divInt a b):=by
 have hg:=Zxz a hb;have low:∃x y,Low a b x y:=by
  rcases Int.lt_or_lt_of_ne hb with z|z
  .exact⟨_,_,wU (c:=-((Int.gcd a b:Nat):Int)) hb (by lia) (by lia) (Zwx (by lia) z)⟩
  .exact⟨_,_,wU (c:=((Int.gcd a b:Nat):Int)) hb (by lia) (by lia) (XZ (by lia) z)⟩
 obtain⟨x,y,l⟩:=low;have e:=iZ l hb;injection e with e;injection e with e1 e;injection e with e2 e;injection e1 with e1;injection e2 with e2;exact⟨by rw[<- e1];exact aL l.lx h1,by have:=l.ly;lia⟩
theorem aaG{r:Row}{k:Nat}(hk:k<r.1.length):vr r k=Rat.divInt r.1[k] r.2:=by
 unfold vr;rw[au,aj hk,UK];rfl
theorem Fn.vr{r:Row}{k:Nat}(h:Big NN r)(hk:k<r.1.length):Fn (vr r k):=by
 have:=h.pos;rw[aaG hk];exact Fn.of (WS this) (h.top _ (aU _)) h.bot
theorem Fn.inv{c:Rat}(h:Fn c)(h0:c≠0):Fn (1/c):=by
 have nb:c.num≠0:=λz=>h0 (by rw[<- rd c,z];exact TK _);rw[Rat.div_def,Rat.one_mul,Rat.inv_def];exact Fn.of nb h.d h.n
theorem Fn.neg{c:Rat}(h:Fn c):Fn (0-c):=by
 rw[Rat.sub_eq_add_neg,Rat.zero_add];exact⟨by show(-c.num).natAbs<=NN;rw[Int.natAbs_neg];exact h.n,h.d⟩
theorem Fn.bq{c:Rat}(h:Fn c):Bq c:=⟨bdN h.n,bdN h.d⟩
theorem Rws.fn{rs:List Row}{wd i k:Nat}(h:Rws rs wd)(hi:i<rs.length)(hk:k<wd):Fn (Rw.vr (rAt rs i) k):=Fn.vr (h.big _ (d9 hi)) (by rw[h.wds _ (d9 hi)];exact hk)
theorem Rws.of{rs dm:List Row}{wd:Nat}(h:Rws rs wd)(hl:dm.length=rs.length)(hr:∀i,i<rs.length->Big NN (rAt dm i)/\(rAt dm i).1.length=wd):Rws dm wd:=by
 have:∀r∈dm,Big NN r/\r.1.length=wd:=λr hm=>by
  obtain⟨i,hi,e0⟩:=Zxt hm;have e:=xT hi;rw[aj hi,e0]at e;injection e with e;rw[e];exact hr i (hl ▸ hi)
 exact⟨λr hm=>(this r hm).1,λr hm=>(this r hm).2,hl ▸ h.few,h.wde⟩
theorem Hw(rs:List Row)(st:Stp):(wX rs st).length=rs.length:=by cases st<;>simp[wX]
def bgP(r:Row)(k:Nat):Row:=if vr r k=1 then r else iB (gW r (pr (1/vr r k)))
def bgA(rs:List Row)(p q k i:Nat):Row:=if i=p then bgP (rAt rs q) k else rAt rs (Rw.sw p q i)
def swR(rs:List Row)(p q:Nat):List Row:=if q=p then rs else wX rs (.swap p q)
theorem aby(rs:List Row)(p q:Nat):(swR rs p q).length=rs.length:=by
 unfold swR;split
 .rfl
 .exact Hw _ _
theorem aeX{rs:List Row}{p q:Nat}(hp:p<rs.length)(hq:q<rs.length)(i:Nat):rAt (swR rs p q) i=rAt rs (Rw.sw p q i):=by
 unfold swR Rw.sw;by_cases e:q=p
 .subst e;rw[ZY rfl];by_cases c:i=q
  .rw[ZY c,c]
  .rw[ZZ c,ZZ c]
 .rw[ZZ e];show rAt ((rs.set p (rAt rs q)).set q (rAt rs p)) i=_;rw[Ge (by rw[VS];exact hq),Ge hp];by_cases c:i=q
  .subst c;rw[ZY rfl,ZZ e,ZY rfl]
  .rw[ZZ c];by_cases d:i=p
   .rw[ZY d,ZY d]
   .rw[ZZ d,ZZ d,ZZ c]
def CG:SO:=λar ts R=>∃(rs:List Row)(ss:List T)(wd p q k:Nat),ar=[rs.map rwT,ss]/\ts=[.int p,.int q,.int k]/\Rws rs wd/\p<rs.length/\q<rs.length/\k<wd/\vr (rAt rs q) k≠0/\ss.length+2<sizeLine /\
 ∀dm h9,dm.length=rs.length->(∀i,i<rs.length->rAt dm i=bgA rs p q k i)->h9.length<=ss.length+2->R [dm.map rwT,h9]
theorem aeH{x y:RS}{E:DT}{o:List OT}(J:List OT->Prop)(k:∀o',J o'->y E o')(h:(∀o',J o'->y E o')->jf x y E o):jf x y E o:=h k
theorem eqR(v u:Rat):(decide (v.num=u.num)&&decide (((v.den:Nat):Int)=u.den))=decide (v=u):=by
 rw[<- Bool.decide_and];refine decide_eq_decide.mpr ⟨λ⟨a,b⟩=>Rat.ext a (by lia),λz=>by rw[z];exact⟨rfl,rfl⟩⟩
theorem fin2{R:List (List T)->Prop}{a b:Addr}(L M:List T){o:List OT}(q:R [L,M]):∃a9,(∀j,slot (.la a L::.la b M::o) j=slot (List.zipWith OT.la [a,b] a9) j\/[a,b].length<=j)/\a9.length=[a,b].length/\R a9:=⟨[L,M],λj=>by
 match j with
 |0=>exact .inl rfl
 |1=>exact .inl rfl
 |j+2=>exact .inr (by simp),rfl,q⟩
theorem Za{α β:Type}{as:List α}{x y:β}(tl : [x,y].length=as.length):∃a b,as=[a,b]:=by
 match as,tl with
 |[a,b],_=>exact⟨a,b,rfl⟩
theorem Pg(F:Fun K o8 o8 xH f fd)(T:Txt K mg D)(tX:OkF P w K mg base 5 xg vU (spO K Ii))(jV:OkT P w K mg base 3 kJ j6 uH)(Ss:OkT P w K mg base 3 Ga FQ VL):cj P w K mg base CX0 6 f fd nZ (spO K CG):=by
 refine F.okO Bc (λar ts R ⟨rs,ss,wd,p,q,k,e1,e2,_⟩=>by rw[e1,e2];rfl) (by decide) λag A outer s H E hr=>?_;refine⟨_,(bC (cG (bY (tO hr.units) (qv 3) (qv 2))
  (bG (HJ 0 1 tX hr.md (by rfl) (bx (cW (bx uL (bx (qv 2) (bx (qv 3) bF)))) bF)))
  bT)
  (bC (bM 5 Bc.nd (Or.inl rfl) (bI jV hr.md (by rfl) (bx (uJ 0 (qv 2)) (bx (qv 4) bF))))
  (bG (cG (bY (tO hr.units) (qv 5) (lW (by rfl) T.Ek T.wJ))
  (bG (HJ 0 1 tX hr.md (by rfl) (bx (cW (bx uL (bx (qv 2) (bx (bI Ss hr.md (by rfl) (bx (lW (by rfl) T.Ek T.wJ) (bx (qv 5) bF))) bF)))) bF)))
  bT)))),?_⟩
 rintro as ar ts R tl ⟨rs,ss,wd,p,q,k,rfl,rfl,h,hp,hq,hk,h0,hl,ok⟩;obtain⟨a,b,rfl⟩:=Za tl;have sl:=aby rs p q;have sa:=aeX hp hq;have gu:Rw.sw p q p=q:=ZY rfl;have swl:∀i,i<rs.length->Rw.sw p q i<rs.length:=λi hi=>by
  unfold Rw.sw;split
  .exact hq
  .split<;>omega
 have hS:Rws (swR rs p q) wd:=h.of sl λi hi=>by rw[sa];exact⟨h.big _ (d9 (swl i hi)),h.wds _ (d9 (swl i hi))⟩
 refine aeH (λo=>∃dC,o=[.la a ((swR rs p q).map rwT),.la b dC,.fz (.int p),.fz (.int q),.fz (.int k),.und]/\dC.length<=ss.length+1) ?_ λgo=>?_
 .rintro _ ⟨dC,rfl,l1⟩;have c8:p<(swR rs p q).length:=by lia
  have hk':k<(rAt (swR rs p q) p).1.length:=by rw[hS.wds _ (d9 c8)];exact hk
  have fn:=hS.fn c8 hk;refine⟨_,tR c8,_,k,rfl,hk',hS.big _ (d9 c8),?_⟩;have v:vr (rAt (swR rs p q) p) k=vr (rAt rs q) k:=by rw[sa,gu]
  rw[v];rw[v]at fn;by_cases e:vr (rAt rs q) k=1
  .refine swF (by show xr true (_&&_)=false;rw[show(decide ((vr (rAt rs q) k).num=1)&&decide (((vr (rAt rs q) k).den:Int)=1))=_ from eqR _ 1,Zs e];rfl) (fin2 _ _ (ok _ _ sl (λi hi=>?_) (aL l1 (Xs _))));rw[sa];unfold bgA bgP;split
   .rename_i c;rw[c,gu]
   .rfl
  .refine swT (by show xr true (_&&_)=true;rw[show(decide ((vr (rAt rs q) k).num=1)&&decide (((vr (rAt rs q) k).den:Int)=1))=_ from eqR _ 1,Zp e];rfl) ⟨1,_,rfl,h0,bq1,fn.bq,by show Bd (1*_);rw[JP];exact bdN fn.n,swR rs p q,dC,.times p (1/vr (rAt rs q) k),wd,rfl,rfl,hS,⟨c8,fn.inv h0⟩,by lia,fin2 _ _ (ok _ _ (by rw[Hw];exact sl) (λi hi=>?_) (by rw[aA];show _+1<=_;exact Nat.succ_le_succ l1))⟩;show rAt ((swR rs p q).set p _) i=_;rw[Ge c8,sa,sa,gu];unfold bgA bgP;split
   .rfl
   .rfl
 .by_cases e:q=p
  .refine swF (by show xr true (decide (_=_))=false;rw[Zs (by lia)];rfl) (go [.la a (rs.map rwT),.la b ss,.fz (.int p),.fz (.int q),.fz (.int k),.und] ⟨ss,?_,by exact Xs _⟩);unfold swR;rw[ZY e]
  .refine swT (by show xr true (decide (_=_))=true;rw[Zp (by lia)];rfl) ⟨rs,ss,.swap p q,wd,rfl,rfl,h,⟨hp,hq⟩,by lia,go [.la a ((wX rs (.swap p q)).map rwT),.la b (ss++[stT (.swap p q)]),.fz (.int p),.fz (.int q),.fz (.int k),.und] ⟨ss++[stT (.swap p q)],?_,by simp⟩⟩;unfold swR;rw[ZZ e]
open Rw (vr iB gW m_ gcL f9 gD sE kh Big pN jx mW jK mV fK)
def clA(rs:List Row)(p k i:Nat):Row:=if i=p\/vr (rAt rs i) k=0 then rAt rs i else iB (m_ (rAt rs i) (rAt rs p) (pr (0-vr (rAt rs i) k)))
def uQ:SO:=λar ts R=>∃(rs:List Row)(ss:List T)(wd p k:Nat),ar=[rs.map rwT,ss]/\ts=[.int p,.int k]/\Rws rs wd/\p<rs.length/\k<wd/\ss.length+rs.length<sizeLine/\(∀i,i<rs.length->Big NN (clA rs p k i)) /\
 ∀dm h9,dm.length=rs.length->(∀i,i<rs.length->rAt dm i=clA rs p k i)->h9.length<=ss.length+rs.length->R [dm.map rwT,h9]
theorem abL{rs:List Row}{p k i wd:Nat}(h:Rws rs wd)(hp:p<rs.length)(hi:i<rs.length):(clA rs p k i).1.length=wd:=by
 unfold clA;split
 .exact h.wds _ (d9 hi)
 .rw[jK];show(List.zipWith _ (rAt rs i).1 (rAt rs p).1).length=wd;rw[JS,h.wds _ (d9 hi),h.wds _ (d9 hp),UV]
theorem Fj(F:Fun K jM jM pO f fd)(T:Txt K mg D)(tX:OkF P w K mg base 5 xg vU (spO K Ii))(jV:OkT P w K mg base 3 kJ j6 uH)(oG:OkT P w K mg base 3 tD sI Bw):cj P w K mg base CX0 6 f fd jF (spO K uQ):=by
 refine F.okO nP (λar ts R ⟨rs,ss,wd,p,k,e1,e2,_⟩=>by rw[e1,e2];rfl) (by decide) λag A outer s H E hr=>?_;refine⟨_,(bG (dB VZ rfl (cY (by rfl) T.dO (bx (LC 0 (bV dh (by rfl) T.dY W1 (bx (qv 0) bF))) bF)) (b_ (n:=99) 4 nP.nd (Or.inl rfl))
  (bG (cG (QW.qt (Il (bY (tO hr.units) (qv 4) (qv 2)) (C_ (bY (tO hr.units) (bJ (bJ (uJ 0 (qv 4)) bA) (qv 3)) bA))))
  (bC (bM 5 nP.nd (Or.inl rfl) (bI oG hr.md (by rfl) (bx (lW (by rfl) T.jm T.gM) (bx (bI jV hr.md (by rfl) (bx (uJ 0 (qv 4)) (bx (qv 3) bF))) bF))))
  (bG (HJ 0 1 tX hr.md (by rfl) (bx (cW (bx uL (bx (qv 4) (bx (qv 2) (bx (qv 5) bF))))) bF))))
  bT)))),?_⟩
 rintro as ar ts R tl ⟨rs,ss,wd,p,k,rfl,rfl,h,hp,hk,hl,hb,ok⟩;obtain⟨a,b,rfl⟩:=Za tl;have lm:(rs.map rwT).length=rs.length:=ak _;have few:=h.few;refine⟨trivial,⟨by lia,by lia⟩,jr (λn o=>∃c6 dC x y,o=[.la a (c6.map rwT),.la b dC,.fz (.int p),.fz (.int k),x,y]/\c6.length=rs.length/\(∀i,i<rs.length->rAt c6 i=if i<n then clA rs p k i else rAt rs i)/\dC.length<=ss.length+n) ⟨rs,ss,_,_,rfl,rfl,λi _=>by rw[ZZ (WV _)],aG _⟩ ?_ ?_⟩
 .rintro n _ hn ⟨c6,dC,x,y,rfl,l1,gh,s1⟩;have hn:n<rs.length:=by rw[lm]at hn;lia
  have rn:rAt c6 n=rAt rs n:=by rw[gh n hn,ZZ (X9 _)]
  have rp:rAt c6 p=rAt rs p:=by
   rw[gh p hp];split
   .unfold clA;rw[ZY (.inl rfl)]
   .rfl
  have h1:Rws c6 wd:=h.of l1 λi hi=>by
   rw[gh i hi];split
   .exact⟨hb i hi,abL h hp hi⟩
   .exact⟨h.big _ (d9 hi),h.wds _ (d9 hi)⟩
  have stay:clA rs p k n=rAt rs n->∀i,i<rs.length->rAt c6 i=if i<n+1 then clA rs p k i else rAt rs i:=λe i hi=>by
   rw[gh i hi];by_cases c:i=n
   .subst c;rw[ZZ (X9 _),ZY (X1 _),e]
   .by_cases d:i<n
    .rw[ZY d,ZY (WU _ d)]
    .rw[ZZ d,ZZ (by lia)]
  by_cases e:n=p
  .exact swF (by show xr true (decide (_=_))=false;rw[Zs (by lia)];rfl) ⟨c6,dC,_,_,rfl,l1,stay (ZY (.inl e)),by lia⟩
  .have f':n<c6.length:=by lia
   have hk1:k<(rAt c6 n).1.length:=by rw[h1.wds _ (d9 f')];exact hk
   have v0:=aaL (h1.big _ (d9 f')).pos hk1;refine swT (by show xr true (decide (_=_))=true;rw[Zp (by lia)];rfl) ⟨_,tR f',_,cZ (aj hk1),?_⟩;by_cases c:(rAt c6 n).1[k]'hk1=0
   .exact swF (by show xr true (decide (_=_))=false;rw[Zs c];rfl) ⟨c6,dC,_,_,rfl,l1,stay (ZY (.inr (by rw[<- rn];exact v0.mpr c))),by lia⟩
   .have fn:=h1.fn f' hk;refine swT (by show xr true (decide (_=_))=true;rw[Zp c];rfl) ⟨_,tR f',_,k,rfl,hk1,h1.big _ (d9 f'),0,_,rfl,bq0,fn.bq,by show Bd (1*_);rw[JP];exact bdN fn.d,c6,dC,.add n p (0-vr (rAt c6 n) k),wd,rfl,rfl,h1,⟨f',by lia,fn.neg⟩,by lia,wX c6 (.add n p (0-vr (rAt c6 n) k)),dC++[stT (.add n p (0-vr (rAt c6 n) k))],_,_,rfl,by rw[Hw];exact l1,λi hi=>?_,by rw[aA];show _+1<=_;lia⟩;show rAt (c6.set n _) i=_;rw[Ge f',rn,rp];by_cases d:i=n
    .rw[ZY d,d,ZY (X1 _)];unfold clA;rw[ZZ λz=>z.elim e λz=>c (v0.mp (by rw[rn];exact z))]
    .rw[ZZ d,gh i hi];by_cases d':i<n
     .rw[ZY d',ZY (WU _ d')]
     .rw[ZZ d',ZZ (by lia)]
 .rintro _ ⟨c6,dC,x,y,rfl,l1,gh,s1⟩;rw[lm]at gh s1;exact fin2 _ _ (ok c6 dC l1 (λi hi=>by rw[gh i hi,ZY (by lia)]) (by lia))
open Rw (vr iB gW m_ gcL f9 gD sE kh Big pN jx mW jK mV fK sg fY fu bW gn gU)
theorem ZD(c:Rat):(((pr c).1:Int):Rat)/(((pr c).2:Int):Rat)=c:=by rw[<- UK];exact rd c
theorem Lr(c:Rat):0<(pr c).2:=by have:=c.den_pos;show(0:Int)<(c.den:Nat);lia
theorem Va{r:Row}(h:0<r.2):0<(iB r).2:=Zxy h (XY (f9 h)) gD.1
theorem aeM{r:Row}{k:Nat}(h:0<r.2)(h0:vr r k≠0):0<(bgP r k).2/\(bgP r k).1.length=r.1.length/\(gcL (bgP r k).1 (bgP r k).2=1\/bgP r k=r)/\∀j,vr (bgP r k) j*vr r k=vr r j:=by
 unfold bgP;by_cases e:vr r k=1
 .rw[ZY e];exact⟨h,rfl,.inr rfl,λj=>by rw[e,Rat.mul_one]⟩
 .rw[ZZ e];have tp:0<(gW r (pr (1/vr r k))).2:=XZ h (Lr _);refine⟨Va tp,by rw[jK];unfold gW;rw[ak],.inl (kh tp),λj=>?_⟩;rw[pN tp,jx h (Lr _),ZD]
  grind
theorem aeC{rs:List Row}{p k i:Nat}(hi:0<(rAt rs i).2)(hp:0<(rAt rs p).2)(hl:(rAt rs i).1.length=(rAt rs p).1.length):0<(clA rs p k i).2/\(gcL (clA rs p k i).1 (clA rs p k i).2=1\/clA rs p k i=rAt rs i)/\∀j,vr (clA rs p k i) j=if i=p then vr (rAt rs p) j else vr (rAt rs i) j-vr (rAt rs i) k*vr (rAt rs p) j:=by
 unfold clA;by_cases e:i=p
 .rw[ZY (.inl e)];exact⟨hi,.inr rfl,λj=>by rw[ZY e,e]⟩
 .by_cases z:vr (rAt rs i) k=0
  .rw[ZY (.inr z)];exact⟨hi,.inr rfl,λj=>by rw[ZZ e,z];grind⟩
  .rw[ZZ λy=>y.elim e z];have tp:0<(m_ (rAt rs i) (rAt rs p) (pr (0-vr (rAt rs i) k))).2:=by
    have hB:=XZ hp (Lr (0-vr (rAt rs i) k));exact XZ hi (Zxy hB (XY (mK (WS hB))) (Q3 _ _))
   refine⟨Va tp,.inl (kh tp),λj=>?_⟩;rw[pN tp,mW hi hp (Lr _) hl,ZD,ZZ e]
   grind
structure FnB(M:Nat)(c:Rat):Prop where
 n:c.num.natAbs<=M
 d:c.den<=M
theorem FnB.vr{M:Nat}{r:Row}{k:Nat}(h:Big M r)(hk:k<r.1.length):FnB M (Rw.vr r k):=by
 have hb:=h.pos;have hg:=Zxz r.1[k] (WS hb);have l:=wU (t:=r.1[k]) (c:=((Int.gcd r.1[k] r.2:Nat):Int)) (WS hb) (by lia) (by lia) (XZ (by lia) hb);have e:=iZ l (WS hb);rw[aaG hk];injection e with e;injection e with e1 e;injection e with e2 e;injection e1 with e1;injection e2 with e2;exact⟨by rw[<- e1];exact aL l.lx (h.top _ (aU _)),by have:=l.ly;have:=h.bot;omega⟩
structure B0(rs0:List Row)(wd N:Nat):Prop where
 big:∀i,i<rs0.length->Big N (rAt rs0 i)/\(rAt rs0 i).1.length=wd
 one:1<=N
 mb:(2*rs0.length*N)^rs0.length<=NN
 nn:N<=NN
abbrev aT(rs0:List Row)(i j:Nat):Int:=(rAt rs0 i).1.getD j 0
abbrev aB(rs0:List Row)(i:Nat):Int:=(rAt rs0 i).2
structure Gs(rs0:List Row)(wd N c:Nat)(rs:List Row):Prop where
 len:rs.length=rs0.length
 row:∀i,i<rs0.length->0<(rAt rs i).2/\(rAt rs i).1.length=wd/\(gcL (rAt rs i).1 (rAt rs i).2=1\/Big N (rAt rs i))
 st:∃pv s,fK (aT rs0) (aB rs0) rs0.length wd (λi j=>vr (rAt rs i) j) c pv s
 unit:∀i l,i<rs0.length->l<c->vr (rAt rs i) l=if i=l then 1 else 0
 ker:∀x:Nat->Rat,(∀i,i<rs0.length->sg (λj=>vr (rAt rs i) j*x j) wd=0)->∀i,i<rs0.length->sg (λj=>vr (rAt rs0 i) j*x j) wd=0
section
variable{rs0 rs:List Row}{wd N c q:Nat}
theorem B0.zero(h:B0 rs0 wd N):Gs rs0 wd N 0 rs0:=⟨rfl,λi hi=>⟨(h.big i hi).1.pos,(h.big i hi).2,.inr (h.big i hi).1⟩,⟨λ_=>0,id,fK.zero λi hi=>(h.big i hi).1.pos⟩,λ_ _ _ z=>absurd z (WV _),λ_ z=>z⟩
theorem alW{m N:Nat}(hm:1<=m)(h1:1<=N):N<=(2*m*N)^m:=by
  have x:N<=2*m*N:=Zxw _ (by lia);have y:1<=2*m*N:=WH (show 1<=2*m by lia) h1
  calc N<=(2*m*N)^1:=by rw[Nat.pow_one];exact x
    _<=_:=XT y hm
theorem B0.sbigM(h:B0 rs0 wd N){R:Nat->Nat->Rat}{p:Nat}(st:∃pv s,fK (aT rs0) (aB rs0) rs0.length wd R p pv s){i:Nat}(hi:i<rs0.length){r:Row}(hr:0<r.2)(hw:r.1.length=wd)(g:gcL r.1 r.2=1\/Big N r)(e:∀j,j<wd->vr r j=R i j):Big ((2*rs0.length*N)^rs0.length) r:=by
 rcases g with g|g
 .obtain⟨pv,s,st⟩:=st;obtain⟨v,u,u0,ub,vb,ee⟩:=st.bound h.one (λi j hi hj=>by
   have b:=h.big i hi;show((rAt rs0 i).1.getD j 0).natAbs<=N;rw[au,aj (by rw[b.2];exact hj)];exact b.1.top _ (aU _)) (λi hi=>⟨(h.big i hi).1.pos,(h.big i hi).1.bot⟩) hi
  exact mV hr g hw u0 ub vb λj hj=>by rw[e j hj];exact ee j hj
 .exact g.le (alW (by lia) h.one)
theorem B0.sbig(h:B0 rs0 wd N){R:Nat->Nat->Rat}{p:Nat}(st:∃pv s,fK (aT rs0) (aB rs0) rs0.length wd R p pv s){i:Nat}(hi:i<rs0.length){r:Row}(hr:0<r.2)(hw:r.1.length=wd)(g:gcL r.1 r.2=1\/Big N r)(e:∀j,j<wd->vr r j=R i j):Big NN r:=(h.sbigM st hi hr hw g e).le h.mb
theorem Gs.bigM(g:Gs rs0 wd N c rs)(h:B0 rs0 wd N){i:Nat}(hi:i<rs0.length):Big ((2*rs0.length*N)^rs0.length) (rAt rs i):=h.sbigM g.st hi (g.row i hi).1 (g.row i hi).2.1 (g.row i hi).2.2 λ_ _=>rfl
theorem Gs.big(g:Gs rs0 wd N c rs)(h:B0 rs0 wd N){i:Nat}(hi:i<rs0.length):Big NN (rAt rs i):=h.sbig g.st hi (g.row i hi).1 (g.row i hi).2.1 (g.row i hi).2.2 λ_ _=>rfl
theorem Vz{p q i m:Nat}(hp:p<m)(hq:q<m)(hi:i<m):Rw.sw p q i<m:=by
 unfold Rw.sw;split
 .exact hq
 .split<;>omega
theorem adL(p q i:Nat):Rw.sw p q (Rw.sw p q i)=i:=by
 unfold Rw.sw;by_cases a:i=p
 .subst a;rw[ZY rfl];by_cases b:q=i
  .rw[ZY b,b]
  .rw[ZZ b,ZY rfl]
 .by_cases b:i=q
  .subst b;rw[ZZ a,ZY rfl,ZY rfl]
  .rw[ZZ a,ZZ b,ZZ a,ZZ b]
theorem Gs.next(g:Gs rs0 wd N c rs)(h:B0 rs0 wd N)(hc:c<rs0.length)(cw:c<wd)(hq:c<=q)(dv:q<rs0.length)(h0:vr (rAt rs q) c≠0){rs2:List Row}(e2:∀i,i<rs0.length->rAt rs2 i=bgA rs c q c i) :
  (∀i,i<rs0.length->Big NN (rAt rs2 i)/\(rAt rs2 i).1.length=wd)/\(∀i,i<rs0.length->Big NN (clA rs2 c c i))/\∀gx:List Row,gx.length=rs0.length->(∀i,i<rs0.length->rAt gx i=clA rs2 c c i)->Gs rs0 wd N (c+1) gx:=by
 have gu:Rw.sw c q c=q:=ZY rfl;obtain⟨b1,b2,b3,b4⟩:=aeM (g.row q dv).1 h0;have ec:rAt rs2 c=bgP (rAt rs q) c:=by rw[e2 c hc];exact ZY rfl
 have ei:∀i,i<rs0.length->i≠c->rAt rs2 i=rAt rs (Rw.sw c q i):=λi hi ne=>by rw[e2 i hi];exact ZZ ne
 have ci:∀i,i<rs0.length->0<(rAt rs2 i).2/\(rAt rs2 i).1.length=wd/\(gcL (rAt rs2 i).1 (rAt rs2 i).2=1\/Big N (rAt rs2 i)):=λi hi=>by
  by_cases e:i=c
  .rw[e,ec];refine⟨b1,by rw[b2];exact(g.row q dv).2.1,b3.elim .inl λz=>?_⟩;rw[z];exact(g.row q dv).2.2
  .rw[ei i hi e];exact g.row _ (Vz hc dv hi)
 have cl:=λi(hi:i<rs0.length)=>aeC (rs:=rs2) (p:=c) (k:=c) (i:=i) (ci i hi).1 (ci c hc).1 (by rw[(ci i hi).2.1,(ci c hc).2.1]);have clw:∀i,i<rs0.length->(clA rs2 c c i).1.length=wd:=λi hi=>by
  unfold clA;split
  .exact(ci i hi).2.1
  .rw[jK];show(List.zipWith _ (rAt rs2 i).1 (rAt rs2 c).1).length=wd;rw[JS,(ci i hi).2.1,(ci c hc).2.1,UV]
 have clg:∀i,i<rs0.length->gcL (clA rs2 c c i).1 (clA rs2 c c i).2=1\/Big N (clA rs2 c c i):=λi hi=>(cl i hi).2.1.elim .inl λz=>by rw[z];exact(ci i hi).2.2
 have Vc:∀j,vr (clA rs2 c c c) j*vr (rAt rs q) c=vr (rAt rs q) j:=λj=>by
  rw[(cl c hc).2.2 j,ZY rfl,ec];exact b4 j
 have Vi:∀i,i<rs0.length->i≠c->∀j,vr (clA rs2 c c i) j=vr (rAt rs (Rw.sw c q i)) j-vr (rAt rs (Rw.sw c q i)) c*vr (clA rs2 c c c) j:=λi hi ne j=>by
  rw[(cl i hi).2.2 j,(cl c hc).2.2 j,ZZ ne,ZY rfl,ei i hi ne]
 have du:∃pv s,fK (aT rs0) (aB rs0) rs0.length wd (λi j=>vr (clA rs2 c c i) j) (c+1) pv s:=by
  obtain⟨pv,s,st⟩:=g.st;have s1:=st.swap hq dv (R':=λi j=>vr (rAt rs (Rw.sw c q i)) j) λi j _ _=>rfl;exact⟨_,_,s1.pivot hc (λi hi=>(h.big i hi).1.pos) cw (by show vr (rAt rs (Rw.sw c q c)) c≠0;rw[gu];exact h0) (R':=λi j=>vr (clA rs2 c c i) j) (λj _=>by show vr (clA rs2 c c c) j*vr (rAt rs (Rw.sw c q c)) c=vr (rAt rs (Rw.sw c q c)) j;rw[gu];exact Vc j) λi j hi ne _=>Vi i hi ne j⟩
 have mE:∀i,i<rs0.length->Big NN (clA rs2 c c i):=λi hi=>h.sbig du hi (cl i hi).1 (clw i hi) (clg i hi) λ_ _=>rfl;refine⟨λi hi=>⟨?_,(ci i hi).2.1⟩,mE,λgx l3 e3=>⟨l3,λi hi=>by rw[e3 i hi];exact⟨(cl i hi).1,clw i hi,clg i hi⟩,?_,λi l hi hl=>?_,λx hx=>g.ker x λi hi=>?_⟩⟩
 .by_cases e:i=c
  .rw[e];refine h.sbig du hc (ci c hc).1 (ci c hc).2.1 (ci c hc).2.2 λj _=>?_;show _=vr (clA rs2 c c c) j;rw[(cl c hc).2.2 j,ZY rfl]
  .rw[ei i hi e];exact g.big h (Vz hc dv hi)
 .obtain⟨pv,s,st⟩:=du;exact⟨pv,s,st.congr λi j hi=>by rw[e3 i hi]⟩
 .rw[e3 i hi];have v0:l<c->vr (clA rs2 c c c) l=0:=λhl=>by
   have:=Vc l;rw[g.unit q l dv hl,ZZ (by lia)]at this
   grind
  have v1:vr (clA rs2 c c c) c=1:=by
   have:=Vc c
   grind
  by_cases e:i=c
  .subst e;by_cases z:l<i
   .rw[v0 z,ZZ (UT z)]
   .rw[show l=i by lia,v1,ZY rfl]
  .rw[Vi i hi e l];by_cases z:l<c
   .rw[v0 z,g.unit _ l (Vz hc dv hi) z];have:(Rw.sw c q i=l)=(i=l):=by
     unfold Rw.sw;rw[ZZ e];split
     .exact propext ⟨λ_=>by lia,λ_=>by lia⟩
     .rfl
    simp only[this]
    grind
   .rw[show l=c by lia,v1,ZZ e]
    grind
 .have lT:=hx c hc;rw[e3 c hc]at lT;by_cases e:i=q
  .rw[e,bW (g:=λj=>vr (rAt rs q) c*(vr (clA rs2 c c c) j*x j)) λj _=>by rw[<- Vc j];grind,fu,lT]
   grind
  .have hs:=Vz hc dv hi;have ne:Rw.sw c q i≠c:=λz=>by
    have:=adL c q i;rw[z,gu]at this;exact e this.symm
   have j3:=hx _ hs;rw[e3 _ hs]at j3;rw[bW (g:=λj=>vr (clA rs2 c c (Rw.sw c q i)) j*x j+vr (rAt rs i) c*(vr (clA rs2 c c c) j*x j)) λj _=>by rw[Vi _ hs ne,adL];grind,fY,fu,lT,j3]
   grind
theorem Gs.found(g:Gs rs0 wd N c rs)(hc:c<rs0.length)(cw:c<wd)(inj:∀x:Nat->Rat,(∀j,rs0.length<=j->x j=0)->(∀i,i<rs0.length->sg (λj=>vr (rAt rs0 i) j*x j) wd=0)->∀j,j<rs0.length->x j=0):¬∀i,c<=i->i<rs0.length->vr (rAt rs i) c=0:=λhz=>by
 have:=inj (λj=>if j<c then -(vr (rAt rs j) c)else if j=c then 1 else 0) (λj hj=>by rw[ZZ (by lia),ZZ (by lia)]) (g.ker _ λi hi=>?_) c hc
 .rw[ZZ (X9 _),ZY rfl]at this;exact absurd this (by decide)
 .rw[bW (g:=λj=>(if j=i then 1 else 0)*(if j<c then -(vr (rAt rs j) c)else 0)+(if j=c then 1 else 0)*vr (rAt rs i) c) λj hj=>?_,fY,gU (v:=λj=>if j<c then -(vr (rAt rs j) c)else 0),gU (v:=λ_=>vr (rAt rs i) c),ZY cw]
  .by_cases e:i<c
   .rw[ZY (Tk e cw),ZY e]
    grind
   .rw[hz i (VU e) hi];rw[ZZ e]
    grind
  .by_cases a:j<c
   .rw[ZY a,ZY a,g.unit i j hi a,ZZ (show j≠c by exact aQ a)];by_cases b:i=j
    .rw[ZY b,ZY b.symm];grind
    .rw[ZZ b,ZZ (Ne.symm b)];grind
   .rw[ZZ a,ZZ a];by_cases b:j=c
    .rw[ZY b,b];grind
    .rw[ZZ b];grind
theorem Gs.answer(g:Gs rs0 (rs0.length+1) N rs0.length rs){i:Nat}(hi:i<rs0.length):sg (λj=>vr (rAt rs0 i) j*vr (rAt rs j) rs0.length) rs0.length=vr (rAt rs0 i) rs0.length:=by
 have:=g.ker (λj=>if j<rs0.length then vr (rAt rs j) rs0.length else -1) (λi hi=>?_) i hi
 .show _=_;rw[show sg (λj=>vr (rAt rs0 i) j*(if j<rs0.length then vr (rAt rs j) rs0.length else -1)) (rs0.length+1)=sg (λj=>vr (rAt rs0 i) j*(if j<rs0.length then vr (rAt rs j) rs0.length else -1)) rs0.length+vr (rAt rs0 i) rs0.length*(if rs0.length<rs0.length then vr (rAt rs rs0.length) rs0.length else -1)from rfl,ZZ (X9 _),bW (g:=λj=>vr (rAt rs0 i) j*vr (rAt rs j) rs0.length) λj hj=>by rw[ZY hj]]at this
  grind
 .rw[show sg (λj=>vr (rAt rs i) j*(if j<rs0.length then vr (rAt rs j) rs0.length else -1)) (rs0.length+1)=sg (λj=>vr (rAt rs i) j*(if j<rs0.length then vr (rAt rs j) rs0.length else -1)) rs0.length+vr (rAt rs i) rs0.length*(if rs0.length<rs0.length then vr (rAt rs rs0.length) rs0.length else -1)from rfl,ZZ (X9 _),bW (g:=λj=>(if j=i then 1 else 0)*vr (rAt rs j) rs0.length) λj hj=>by rw[ZY hj,g.unit i j hi hj];simp only[eq_comm],gU (v:=λj=>vr (rAt rs j) rs0.length),ZY hi]
  grind
end
open Rw (vr iB gW m_ gcL f9 gD sE kh Big pN jx mW jK mV fK sg fY fu bW gn gU)
abbrev iU(r:List Rat):Row:=(tops (cD 1 r) r,((cD 1 r:Nat):Int))
abbrev Hi(r:List Rat):T:=.lst (r.map frR)
theorem acC(r:List Rat):(iU r).1.length=r.length:=ak _
theorem Jd(r:List Rat)(j:Nat):vr (iU r) j=r.getD j 0:=by
 unfold vr;have hB:=eY r UY;show(((tops (cD 1 r) r).getD j 0:Int):Rat)/(((cD 1 r:Nat):Int):Rat)=_;unfold tops;rw[au,au,aq];by_cases h:j<r.length
 .rw[aj h];show((r[j].num*((cD 1 r/r[j].den:Nat):Int):Int):Rat)/_=r[j];obtain⟨k,hk⟩:=(jy r (n:=1)).2 r[j] (aU h);have hd:=r[j].den_pos;rw[show cD 1 r/r[j].den=k by rw[hk];exact Zww _ hd];have hU:k≠0:=λz=>by rw[z]at hk;lia
  rw[<- UK,hk,Th,Rat.divInt_mul_right (by lia)];exact rd _
 .rw[aM (Nat.not_lt.mp h)];show((0:Int):Rat)/_=0
  grind
structure Sys(ac:List (List Rat))(N:Nat):Prop where
 wid:∀r∈ac,r.length=ac.length+1
 few:ac.length<=100
 lev:∀r∈ac,Big N (iU r)
 num:∀r∈ac,∀c∈r,Bd c.num
 one:1<=N
 mb:(2*ac.length*N)^ac.length<=NN
 nn:N<=NN
 inj:∀x:Nat->Rat,(∀j,ac.length<=j->x j=0)->(∀r∈ac,sg (λj=>r.getD j 0*x j) (ac.length+1)=0)->∀j,j<ac.length->x j=0
theorem M7{ac:List (List Rat)}{i:Nat}(h:i<ac.length):rAt (ac.map iU) i=iU ac[i]:=by
 have:=xT (rs:=ac.map iU) (i:=i) (by rw[ak];exact h);rw[aq,aj h]at this;injection this with this;exact this.symm
theorem Sys.b0{ac:List (List Rat)}{N:Nat}(h:Sys ac N):B0 (ac.map iU) (ac.length+1) N:=⟨λi hi=>by
 rw[ak]at hi;rw[M7 hi];exact⟨h.lev _ (aU hi),by rw[acC];exact h.wid _ (aU hi)⟩,h.one,by rw[ak];exact h.mb,h.nn⟩
theorem Rws.mk'{rs:List Row}{wd:Nat}(hr:∀i,i<rs.length->Big NN (rAt rs i)/\(rAt rs i).1.length=wd)(h1:rs.length<=100)(h2:wd<=1000):Rws rs wd:=by
 have:∀r∈rs,Big NN r/\r.1.length=wd:=λr hm=>by
  obtain⟨i,hi,e0⟩:=Zxt hm;have e:=xT hi;rw[aj hi,e0]at e;injection e with e;rw[e];exact hr i hi
 exact⟨λr hm=>(this r hm).1,λr hm=>(this r hm).2,h1,h2⟩
theorem Sys.rws{ac:List (List Rat)}{N c:Nat}{rs:List Row}(h:Sys ac N)(g:Gs (ac.map iU) (ac.length+1) N c rs):Rws rs (ac.length+1):=by
 have l:=g.len;have few:=h.few;rw[ak]at l;refine Rws.mk' (λi hi=>?_) (aL (WG l) few) (by lia);have eK:i<(ac.map iU).length:=by rw[g.len]at hi;exact hi
 exact⟨g.big h.b0 eK,(g.row i eK).2.1⟩
theorem af5{ac:List (List Rat)}{i n:Nat}(hi:i<ac.length)(x:Nat->Rat):sg (λj=>vr (rAt (ac.map iU) i) j*x j) n=sg (λj=>ac[i].getD j 0*x j) n:=bW λj _=>by rw[M7 hi,Jd]
theorem Sys.inj'{ac:List (List Rat)}{N:Nat}(h:Sys ac N):∀x:Nat->Rat,(∀j,(ac.map iU).length<=j->x j=0)->(∀i,i<(ac.map iU).length->sg (λj=>vr (rAt (ac.map iU) i) j*x j) (ac.length+1)=0)->∀j,j<(ac.map iU).length->x j=0:=by
 rw[ak];intro x h1 h2;refine h.inj x h1 λr hr=>?_;obtain⟨i,hi,rfl⟩:=Zxt hr;rw[<- af5 hi];exact h2 i hi
def J1(m:Nat)(y:Nat->Rat):List T:=(List.range m).map λi=>.lst ((List.range (m+1)).map λj=>frR (if j<m then if i=j then 1 else 0 else y i))
theorem agu{ac:List (List Rat)}{N:Nat}{rs:List Row}(h:Sys ac N)(g:Gs (ac.map iU) (ac.length+1) N ac.length rs):(rs.map λr=>T.lst ((List.range (ac.length+1)).map λk=>frR (vr r k)))=J1 ac.length λi=>vr (rAt rs i) ac.length:=by
 have l:=g.len;rw[ak]at l;unfold J1;refine Zzx (by rw[ak,ak,WJ,l]) λi h1 h2=>?_;rw[ak]at h1;rw[UU,UU,Zzw];have e:=xT h1;rw[aj h1]at e;injection e with e;rw[e]
 congr 1
 refine U1 λj hj=>?_;have hj:=List.mem_range.mp hj;by_cases c:j<ac.length
 .rw[ZY c,g.unit i j (by rw[ak];exact aR h1 (WG l)) c]
 .rw[ZZ c,show j=ac.length by lia]
theorem agb{ac:List (List Rat)}{N:Nat}{rs:List Row}(g:Gs (ac.map iU) (ac.length+1) N ac.length rs):∀r∈ac,sg (λj=>r.getD j 0*vr (rAt rs j) ac.length) ac.length=r.getD ac.length 0:=λr hr=>by
 obtain⟨i,hi,rfl⟩:=Zxt hr;have l:(ac.map iU).length=ac.length:=ak _;have:=Gs.answer (rs0:=ac.map iU) (N:=N) (rs:=rs) (by rw[l];exact g) (i:=i) (by rw[l];exact hi);rw[l,M7 hi,Jd]at this;rw[<- this];exact bW λj _=>by rw[Jd]
def Hu:ST:=λts R=>∃(ac:List (List Rat))(N:Nat),ts=[.lst (ac.map Hi),.int ac.length]/\Sys ac N/\∀(ss:List T)(y:Nat->Rat),(∀r∈ac,sg (λj=>r.getD j 0*y j) ac.length=r.getD ac.length 0)->(∀i,i<ac.length->FnB ((2*ac.length*N)^ac.length) (y i))->R (.fz (.tup [.lst ss,.lst (J1 ac.length y)]))
theorem U4(F:Fun K uw uw yC f fd)(T:Txt K mg D)(jC:OkT P w K mg base 2 qj pI wu)(tW:OkT P w K mg base 1 mU mZ yM)(vQ:OkF P w K mg base 6 o8 nZ (spO K CG))(pW:OkF P w K mg base 6 jM jF (spO K uQ))(pH:OkT P w K mg base 3 jG jD uR):cj P w K mg base CX0 7 f fd um (spT K Hu):=by
 refine F.okT jP (λts R hP=>by obtain⟨_,_,e,_⟩:=hP;exact e ▸ rfl) λag A outer s H E hr=>?_;refine⟨_,(bC (aef (bH yC) Dq Dq ["row"] (cH (qv 0)) (fj (i:=0)) cI (bI jC hr.md (by rfl) (bx (qv 0) bF)) (lM (i:=2) jP.nd rfl (Or.inl rfl)))
  (bC (iu 3 jP.nd (Or.inl rfl) (d7 bF))
  (bC (bM 4 jP.nd (Or.inl rfl) bA)
  (bC (dB VZ rfl (cY (by rfl) T.dO (bx (qv 1) bF)) (b_ (n:=99) 5 jP.nd (Or.inl rfl))
  (bC (bM 6 jP.nd (Or.inl rfl) (LC 2 (bI tW hr.md (by rfl) (bx (qv 2) (bx (qv 4) (bx (qv 5) bF))))))
  (bG (cG (bY FT (qv 6) jg)
  (bC (HJ 2 3 vQ hr.md (by rfl) (bx (qv 4) (bx (qv 6) (bx (qv 5) bF))))
  (bC (HJ 2 3 pW hr.md (by rfl) (bx (qv 4) (bx (qv 5) bF)))
  (bG (Z4 4 jP.nd (Or.inl rfl) aaD bA))))
  bT))))
  (bG (Hs 3 (Hs 2 (bQ (cW (bx (qv 3) (bx (bI pH hr.md (by rfl) (bx (qv 2) bF)) bF))))))))))),?_⟩
 rintro _ R ⟨ac,N,rfl,h,ok⟩;have lm:(ac.map Hi).length=ac.length:=ak _;have ll:(ac.map iU).length=ac.length:=ak _;have few:=h.few;have b0:=h.b0;have e0:(ac.map λr=>rwT (iU r))=(ac.map iU).map rwT:=by rw[WP];rfl
 refine⟨by rw[lm];exact aL few (by decide),comp_map Hi (λr=>rwT (iU r)) ac (λr hr N' M hN=>⟨r,rfl,by rw[h.wid r hr];lia,h.num r hr,bdN (aL (h.lev r hr).bot h.nn),hN⟩) ?_⟩;rw[e0];refine⟨⟨by lia,by lia⟩,jr (λc o=>∃rs ss x y,o=[.fz (.lst (ac.map Hi)),.fz (.int ac.length),.l1 (rs.map rwT),.l1 ss,.fz (.int (c:Nat)),x,y]/\Gs (ac.map iU) (ac.length+1) N c rs/\ss.length<=102*c) ⟨_,[],_,_,rfl,b0.zero,aG _⟩ ?_ ?_⟩
 .rintro c _ hc ⟨rs,ss,x,y,rfl,g,sl⟩;have hc:c<ac.length:=by lia
  have dk:c<(ac.map iU).length:=by lia
  have l:=g.len;have hR:=h.rws g;have big:(20000:Nat)<sizeLine:=by decide
  refine⟨rs,_,c,c,rfl,hR,by lia,by exact WU _ hc,λq h1 h2 h3=>⟨trivial,rs,ss,_,c,q,c,rfl,rfl,hR,by exact Y3 h1 h2,h2,by exact WU _ hc,h3,by lia,λrs2 ss2 l2 e2 s2=>?_⟩,λz=>(g.found dk (WU _ hc) h.inj' λi a b=>z i a (by lia)).elim⟩;obtain⟨n1,n2,n3⟩:=g.next b0 dk (WU _ hc) h1 (aR h2 (WG l)) h3 (rs2:=rs2) λi hi=>e2 i (by lia);exact⟨rs2,ss2,_,c,c,rfl,rfl,Rws.mk' (λi hi=>n1 i (by lia)) (by lia) (by lia),by lia,by exact WU _ hc,by lia,λi hi=>n2 i (by lia),λgx ss3 l3 e3 s3=>⟨gx,ss3,.fz (.int c),.fz (.int q),rfl,n3 gx (by lia) λi hi=>e3 i (by lia),by lia⟩⟩
 .rintro _ ⟨rs,ss,x,y,rfl,g,sl⟩;have g:Gs (ac.map iU) (ac.length+1) N ac.length rs:=g;have hR:=h.rws g;have l:=g.len;refine⟨rs,_,rfl,hR,?_⟩;have:=ok ss _ (agb g) λi hi=>by
   have eK:i<(ac.map iU).length:=by lia
   have b:=g.bigM b0 eK;rw[ll]at b;exact FnB.vr b (by rw[(g.row i eK).2.1];exact X1 _)
  rw[<- agu h g]at this;exact this
open Rw (vr iB gW m_ gcL f9 gD sE kh Big pN jx mW jK mV fK sg fY fu bW gn gU)
def Eh:ST:=λts q=>∃(ac:List (List Rat))(n:Nat),ts=[.lst (ac.map Hi)]/\(∀r∈ac,r.length=n)/\(ac=[]->n=0)/\q (.fz (.int n))
theorem QD(F:Fun K qX qX zQ f fd)(T:Txt K mg D):cj P w K mg base CX0 1 f fd qF (spT K Eh):=by
 refine F.okT Rv (λts R hP=>by obtain⟨_,_,e,_⟩:=hP;exact e ▸ rfl) λag A outer s H E hr=>?_;refine⟨_,(bC (cG (bY (go_eq hr.units) (bV dh (by rfl) T.dY W1 (bx (qv 0) bF)) bA)
  (bG (bQ bA))
  bT)
  (bG (bQ (bV dh (by rfl) T.dY W1 (bx (bJ (qv 0) bA) bF))))),?_⟩
 rintro _ R ⟨ac,n,rfl,h,h0,q⟩
 match ac,h,h0 with
 |[],h,h0=>rw[h0 rfl]at q;exact q
 |r::ac,h,h0 =>
  have e:(r.map frR).length=n:=by rw[ak];exact h r (aO ..)
  rw[<- e]at q;exact⟨_,rfl,q⟩
theorem P_(i:Nat):∀m,(List.range m).filter (λj=>decide (j=i))=if i<m then[i]else[]
 |0=>by rw[ZZ (WV _)];rfl
 |m+1=>by
  rw[List.range_succ,List.filter_append,P_ i m];by_cases e:m=i
  .subst e;rw[ZZ (X9 _),ZY (X1 _)];simp
  .rw[Zyr (by simpa using e)];by_cases c:i<m
   .rw[ZY c,ZY (WU _ c)];rfl
   .rw[ZZ c,ZZ (by lia)];rfl
def wY:ST:=λts q=>∃(ac:List (List Rat))(ax:List Rat),ts=[.lst (ac.map Hi),.lst (ax.map frR)]/\ac.length<=100/\(∀r∈ac,r.length<=100)/\q (.l1 ((List.zipWith (λr c=>r++[c]) ac ax).map Hi))
theorem G4(F:Fun K lO lO mJ f fd)(T:Txt K mg D):cj P w K mg base CX0 1 f fd lQ (spT K wY):=by
 refine F.okT HN (λts R hP=>by obtain⟨_,_,e,_⟩:=hP;exact e ▸ rfl) λag A outer s H E hr=>?_;refine⟨_,(bG (bQ (dI (bH mJ) rG rG ["row","right"] (Hv (by rfl) T.Ph (bx (qv 0) (bx (qv 1) bF))) (fG (n:=2) rfl (bR (fj (i:=0)) (bR (fj (i:=1)) dF))) cI (bK cN (qv 0) (d7 (bx (qv 1) bF)))))),?_⟩;rintro _ R ⟨ac,ax,rfl,h1,h2,q⟩;have zl:(ac.zip ax).length<=ac.length:=by rw[VX];exact Nat.min_le_left ..
 refine⟨by unfold Dk;rw[ak,VX,ak,ak];exact aL (aL (Nat.min_le_left ..) h1) (by decide),?_⟩;rw[zip_map];refine comp_map (λp=>.tup [Hi p.1,frR p.2]) (λp=>Hi (p.1++[p.2])) (ac.zip ax) (λp hp N M hN=>⟨rfl,?a,?b⟩) ?c
 case a =>
  have:=h2 _ (VQ hp).1;show(p.1.map frR).length+1<=sizeLine;rw[ak];exact aL (show _<=101 by exact Nat.succ_le_succ this) (by decide)
 case b =>
  show N (.lst (p.1.map frR++[frR p.2]));rw[show(p.1.map frR++[frR p.2])=(p.1++[p.2]).map frR by rw[bf];rfl];exact hN
 case c =>
  rw[Zxu]at q;rw[List.zip,Zxu];exact q
def Br:ST:=λts q=>∃(m:Nat)(y:Nat->Rat),ts=[.lst (J1 m y),.int m]/\m<=100/\q (.l1 ((List.range m).map λi:Nat=>.int i))
theorem MP(F:Fun K nY nY qz f fd)(T:Txt K mg D):cj P w K mg base CX0 1 f fd oJ (spT K Br):=by
 refine F.okT oh (λts R hP=>by obtain⟨_,_,e,_⟩:=hP;exact e ▸ rfl) λag A outer s H E hr=>?_;refine⟨_,(bC (iu 2 oh.nd (Or.inl rfl) (d7 bF))
  (bC (dB VZ rfl (cH (qv 0)) (b_ (n:=99) 3 oh.nd (Or.inr rfl))
  (bC (qM (bH qz) vB vB ["column"] (cY (by rfl) T.dO (bx (qv 1) bF)) (fj (i:=0)) (Lx (bY (tO hr.units) (bJ (qv 4) (qv 0)) (lW (by rfl) T.jm T.gM))) (qv 0) (lM (i:=4) oh.nd rfl (Or.inl rfl)))
  (bG (cG (bY El (bV dh (by rfl) T.dY W1 (bx (qv 4) bF)) bA)
  (bG (nG 2 (bJ (qv 4) bA)))
  bT))))
  (bG (jJ 2)))),?_⟩
 rintro _ R ⟨m,y,rfl,h,q⟩;have sz:(1000:Nat)<=sizeLine:=by decide
 refine fV _ (List.range m) (λas o=>∃x z,o=[.fz (.lst (J1 m y)),.fz (.int m),.l1 (as.map λi:Nat=>.int i),x,z]) ⟨_,_,rfl⟩ ?_ ?_
 .rintro as i bs _ e ⟨x,z,rfl⟩;have hi:i<m:=List.mem_range.mp (e ▸ by simp);have la:as.length<m:=by have:=ZH List.length e;rw[WJ,aA,List.length_cons]at this;lia
  refine⟨⟨by lia,by lia⟩,by rw[rng,ak,WJ];exact aL (show _<=1000 by lia) sz,ni (λk:Nat=>.int (0+k)) (λj=>decide (j=i)) (λj=>.int (0+(j:Nat))) (List.range m) (λj hj N M h1 h2=>?_) ?_⟩
  .have hj:=List.mem_range.mp hj;show hName 0 (L2.T.int (0+((j:Nat):Int))) _ _;rw[show(0:Int)+((j:Nat):Int)=((j:Nat):Int)by lia]at h1 ⊢;refine⟨_,cZ (Up (WU _ hj)),?_⟩;by_cases c:j=i
   .refine swT ?_ (h1 (Zs c));show xr true (_&&_)=true;rw[ZY hj,ZY c.symm]
    rfl
   .refine swF ?_ (h2 (Zp c));show xr true (_&&_)=false;rw[ZY hj,ZZ (Ne.symm c)]
    rfl
  .rw[P_,ZY hi];refine⟨_,rfl,by rw[ak];lia,.fz (.lst ((List.range (m+1)).map λj=>frR (if j<m then if i=j then 1 else 0 else y i))),.fz (.lst [.int (0+(i:Nat))]),?_⟩;rw[bf];show[_,_,OT.l1 (as.map _++[L2.T.int (0+(i:Nat))]),_,OT.fz (.lst [L2.T.int (0+(i:Nat))])]=[_,_,OT.l1 (as.map _++[L2.T.int (i:Nat)]),_,_];rw[show(0:Int)+((i:Nat):Int)=((i:Nat):Int)by exact Int.zero_add _]
 .rintro _ ⟨x,z,rfl⟩;exact q
def HX:ST:=λts q=>∃(m:Nat)(y:Nat->Rat),ts=[.lst (J1 m y),.lst ((List.range m).map λi:Nat=>.int i),.int m]/\m<=100/\q (.fz .non)
theorem T_(F:Fun K uz uz Di f fd)(T:Txt K mg D):cj P w K mg base CX0 1 f fd uG (spT K HX):=by
 refine F.okT Iw (λts R hP=>by obtain⟨_,_,e,_⟩:=hP;exact e ▸ rfl) λag A outer s H E hr=>?_;refine⟨_,(bC (dB VZ rfl (Kr (by rfl) T.dO (bx (bV dh (by rfl) T.dY W1 (bx (qv 1) bF)) (bx (bV dh (by rfl) T.dY W1 (bx (qv 0) bF)) bF))) (b_ (n:=99) 3 Iw.nd (Or.inl rfl))
  (bG (cG (bY (tO hr.units) (bJ (bJ (qv 0) (qv 3)) (qv 2)) (lW (by rfl) T.jm T.gM))
  (bG (bQ (qv 3)))
  bT)))
  (bG (bQ jg))),?_⟩
 rintro _ R ⟨m,y,rfl,h,q⟩;have l1:((List.range m).map λi:Nat=>L2.T.int i).length=m:=by rw[ak,WJ]
 have l2:(J1 m y).length=m:=by unfold J1;rw[ak,WJ]
 refine⟨⟨by lia,by lia,by lia,by lia⟩,Bk (λ_ _=>True) _ 0 trivial (λi t o e z=>?_) λo _=>q⟩;have:=(Zb e).1;lia
def BP:ST:=λts q=>∃(m:Nat)(y:Nat->Rat),ts=[.lst (J1 m y),.lst ((List.range m).map λi:Nat=>.int i),.int m]/\m<=100/\q (.l1 ((List.range m).map λi=>frR (y i)))
theorem K3(F:Fun K ou ou vX f fd)(T:Txt K mg D):cj P w K mg base CX0 1 f fd oN (spT K BP):=by
 refine F.okT nT (λts R hP=>by obtain⟨_,_,e,_⟩:=hP;exact e ▸ rfl) λag A outer s H E hr=>?_;refine⟨_,(bC (iu 3 nT.nd (Or.inl rfl) (bK cB (d7 (bx (lW (by rfl) T.jm T.gM) bF)) (qv 2)))
  (bC (dB VZ rfl (z9 (by rfl) T.nq (bx (qv 1) bF)) (fG (n:=2) rfl (bR (b_ (n:=99) 4 nT.nd (Or.inl rfl)) (bR (b_ (n:=99) 5 nT.nd (Or.inl rfl)) dF)))
  (bG (Dm 3 (bJ (bJ (qv 0) (qv 4)) (qv 2)) (qv 5))))
  (bG (jJ 3)))),?_⟩
 rintro _ R ⟨m,y,rfl,h,q⟩;refine⟨⟨by lia,by lia,by show 1*_<=_;exact aL (show _<=100 by lia) (by decide)⟩,λz ez=>?_⟩;have ez:z=(List.range m).map λi=>if i<0 then frR (y i)else frR 0:=by
  rw[ez,List.flatten_replicate_singleton];refine Zzx (by rw[aN,ak,WJ];rfl) λn h1 h2=>?_;rw[List.getElem_replicate,UU,ZZ (WV _)]
  rfl
 subst ez;refine xV (λi:Nat=>.int i) (List.range m) (λk o=>∃x z,o=[.fz (.lst (J1 m y)),.fz (.lst ((List.range m).map λi:Nat=>.int i)),.fz (.int m),.l1 ((List.range m).map λi=>if i<k then frR (y i)else frR 0),x,z]) ⟨_,_,rfl⟩ ?_ ?_
 .rintro k i _ e ⟨x,z,rfl⟩;have hk:k<m:=by have:=(ao.mp e).1;rwa[WJ]at this
  rw[Up hk]at e;cases e;refine⟨rfl,_,cZ (Up hk),_,cZ (Up (X1 m)),k,zF (by rw[ak,WJ];exact hk),.fz (.int k),.fz (.int k),?_⟩;have:((List.range m).map λi=>if i<k then frR (y i)else frR 0).set k (frR (if m<m then if k=m then 1 else 0 else y k))=(List.range m).map λi=>if i<k+1 then frR (y i)else frR 0:=by
   rw[ZZ (X9 _)];refine Zzx (by rw[VS,ak,ak]) λn h1 h2=>?_;rw[List.getElem_set,UU,UU,Zzw];by_cases c:k=n
   .rw[ZY c,ZY (by lia),c]
   .rw[ZZ c];by_cases d:n<k
    .rw[ZY d,ZY (WU _ d)]
    .rw[ZZ d,ZZ (by lia)]
  rw[<- this]
  rfl
 .rintro _ ⟨x,z,rfl⟩;have:((List.range m).map λi=>if i<(List.range m).length then frR (y i)else frR 0)=(List.range m).map λi=>frR (y i):=U1 λi hi=>by rw[WJ,ZY (List.mem_range.mp hi)]
  rw[<- this]at q;exact q
open Rw (vr iB gW m_ gcL f9 gD sE kh Big pN jx mW jK mV fK sg fY fu bW gn gU)
noncomputable abbrev Ab(ac:List (List Rat))(ax:List Rat):List (List Rat):=List.zipWith (λr c=>r++[c]) ac ax
def vO:ST:=λts R=>∃(ac:List (List Rat))(ax:List Rat)(N:Nat),ts=[.lst (ac.map Hi),.lst (ax.map frR)]/\ax.length=ac.length/\(∀r∈ac,r.length=ac.length)/\Sys (Ab ac ax) N/\∀y:Nat->Rat,(∀r∈Ab ac ax,sg (λj=>r.getD j 0*y j) ac.length=r.getD ac.length 0)->(∀i,i<ac.length->FnB ((2*ac.length*N)^ac.length) (y i))->R (.l1 ((List.range ac.length).map λi=>frR (y i)))
theorem Je(F:Fun K lK lK rQ f fd)(T:Txt K mg D)(yW:OkT P w K mg base 1 qX qF Eh)(rW:OkT P w K mg base 1 lO lQ wY)(DX:OkT P w K mg base 7 uw um Hu)(vN:OkT P w K mg base 1 nY oJ Br)(DK:OkT P w K mg base 1 uz uG HX)(vA:OkT P w K mg base 1 ou oN BP):cj P w K mg base CX0 8 f fd kY (spT K vO):=by
 refine F.okT lE (λts R hP=>by obtain⟨_,_,_,e,_⟩:=hP;exact e ▸ rfl) λag A outer s H E hr=>?_;refine⟨_,(bC (bM 2 lE.nd (Or.inl rfl) (bI yW hr.md (by rfl) (bx (qv 0) bF)))
  (bC (bM 3 lE.nd (Or.inl rfl) (bJ (bI DX hr.md (by rfl) (bx (bI rW hr.md (by rfl) (bx (qv 0) (bx (qv 1) bF))) (bx (qv 2) bF))) bA))
  (bC (bM 4 lE.nd (Or.inl rfl) (bI vN hr.md (by rfl) (bx (qv 3) (bx (qv 2) bF))))
  (bC (cG (QW.qt (nR (bY uY (bV dh (by rfl) T.dY W1 (bx (qv 4) bF)) (qv 2)) (k_ (bY FT (bI DK hr.md (by rfl) (bx (qv 3) (bx (qv 4) (bx (qv 2) bF)))) jg))))
  (bG (bQ jg))
  bT)
  (bG (bQ (bI vA hr.md (by rfl) (bx (qv 3) (bx (qv 4) (bx (qv 2) bF)))))))))),?_⟩
 rintro _ R ⟨ac,ax,N,rfl,hl,hw,h,ok⟩;have la:(Ab ac ax).length=ac.length:=by rw[JS,hl,UV]
 have few:=h.few;rw[la]at few;refine⟨ac,ac.length,rfl,hw,λz=>by rw[z];rfl,ac,ax,rfl,few,λr hr=>by rw[hw r hr];exact few,Ab ac ax,N,?_,h,λss y h1 h2=>?_⟩
 .rw[la];rfl
 .rw[la]at h1 h2 ⊢;have lr:((List.range ac.length).map λi:Nat=>L2.T.int i).length=ac.length:=by rw[ak,WJ]
  exact⟨ac.length,y,rfl,few,swF (Zp (by show ¬((((List.range ac.length).map λi:Nat=>L2.T.int i).length:Nat):Int)<_;lia)) ⟨ac.length,y,rfl,few,ac.length,y,rfl,few,ok y h1 h2⟩⟩
def YG(m:Nat):List (List T):=(List.range m).map λi=>(List.range m).map λj=>frR (if j=i then 1 else 0)
def vD:ST:=λts q=>∃m:Nat,ts=[.int m]/\m<=100/\q (.l2 (YG m))
theorem Iv(F:Fun K j5 j5 ju f fd)(T:Txt K mg D):cj P w K mg base CX0 1 f fd lG (spT K vD):=by
 refine F.okT Hr (λts R hP=>by obtain⟨_,e,_⟩:=hP;exact e ▸ rfl) λag A outer s H E hr=>?_;refine⟨_,(bG (bQ (aap (bH ju) jw jw "row" (cY (by rfl) T.dO (bx (qv 0) bF)) adT cI (Wc (bH ju) ("row"::jw) ("row"::jw) ["column"] (cY (by rfl) T.dO (bx (qv 1) bF)) (fj (i:=0)) cI (Wi (bY (go_eq hr.units) (qv 0) (qv 1)) (lW (by rfl) T.Ek T.wJ) (lW (by rfl) T.jm T.gM)))))),?_⟩;rintro _ R ⟨m,rfl,h,q⟩;have sz:(100:Nat)<=sizeLine:=by decide
 have rl:(rng 0 m).length<=sizeLine:=by rw[rng,ak,WJ];exact aL h sz
 refine⟨⟨by lia,by lia⟩,rl,Qi (λi=>(List.range m).map λj=>frR (if j=i then 1 else 0)) m (λi hi N M hN=>⟨⟨by lia,by lia⟩,rl,Mh (λj=>frR (if j=i then 1 else 0)) m (λj hj N M hN=>?_) hN⟩) q⟩;by_cases e:j=i
 .rw[ZY e]at hN;exact swT (Zs (by lia)) hN
 .rw[ZZ e]at hN;exact swF (Zp (by lia)) hN
noncomputable def dT:Option Nat->T
 |none=>.non
 |some d=>.int d
noncomputable def Ah:Option Nat->Nat->Bool
 |none,n=>decide (n=0)
 |some d,n=>decide (d<n)
structure PlT(off:List (List bN))(pl:List (Option Nat)):Prop where
 len:pl.length=off.length
 ok:∀(k:Nat)(d:Option Nat)(ds:List bN),pl[k]?=some d->off[k]?=some ds->Ah d ds.length=true
def Wk:ST:=λts q=>∃(d:Option Nat)(n:Nat),ts=[dT d,.int n]/\q (.fz (.bl (Ah d n)))
theorem ab1(F:Fun K FW FW Ud f fd)(T:Txt K mg D)(dG:OkT P w K mg base 1 iC ig nC):cj P w K mg base CX0 2 f fd Gi (spT K Wk):=by
 refine F.okT adf (λts R hP=>by obtain⟨_,_,e,_⟩:=hP;exact e ▸ rfl) λag A outer s H E hr=>?_;refine⟨_,(bC (cG (bY (go_eq hr.units) (qv 1) bA)
  (bG (bQ (Dt G3 (qv 0) jg)))
  bT)
  (bG (bQ (Uy (bI dG hr.md (by rfl) (bx (qv 0) bF)) (Um (RG Rh uY bA (qv 0) (qv 1))))))),?_⟩
 rintro _ R ⟨d,n,rfl,q⟩;by_cases e:n=0
 .subst e;cases d with
  |none=>exact q
  |some d=>exact q
 .refine swF (Zp (by lia)) ?_;cases d with
  |none =>
   rw[show Ah none n=false from Zp e]at q;exact⟨_,_,rfl,rfl,q⟩
  |some d =>
   rw[show Ah (some d) n=decide ((d:Int)<(n:Int))from decide_eq_decide.mpr (by omega)]at q;exact⟨_,_,rfl,rfl,q⟩
def m5(D:Adr):ST:=λts q=>∃(s:Rat)(ns:Φ)(off:List (List bN))(pl:List (Option Nat)),ts=[hlT D s ns off,.lst (pl.map dT)]/\R5 ns off/\PlT off pl/\q (.fz (.bl true))
theorem J2(F:Fun K gQ gQ tU f fd)(T:Txt K mg D)(Uq:OkT P w K mg base 2 FW Gi Wk)(fM:OkI P w K mg base CX0 1 D.Hall_size iI (spT K (oZ D)))(cV:OkI P w K mg base CX0 3 D.Hall_offers eZ (spT K (tG D))):cj P w K mg base CX0 4 f fd gO (spT K (m5 D)):=by
 refine F.okT qZ (λts R hP=>by obtain⟨_,_,_,_,e,_⟩:=hP;exact e ▸ rfl) λag A outer s H E hr=>?_;refine⟨_,(bC (cG (QW.qt (nR (fX (dX (Ji .list (qv 1) (by rfl) T.j_ (by rfl) T.OD boot_list))) (k_ (bY (tO hr.units) (bV dh (by rfl) T.dY W1 (bx (qv 1) bF)) (CP (qv 0) T.lH T.uo fM hr.md (KS:=mL))))))
  (bG fQ)
  bT)
  (bC (dB VZ rfl (z9 (by rfl) T.nq (bx (qv 1) bF)) (fG (n:=2) rfl (bR (b_ (n:=99) 2 qZ.nd (Or.inl rfl)) (bR (b_ (n:=99) 3 qZ.nd (Or.inl rfl)) dF)))
  (bG (cG (fX (dX (bI Uq hr.md (by rfl) (bx (qv 3) (bx (bV dh (by rfl) T.dY W1 (bx (Ba (qv 0) T.lH T.lF cV hr.md (bx (qv 2) bF) (KS:=mL)) bF)) bF)))))
  (bG fQ)
  bT)))
  (bG (bQ u9)))),?_⟩
 rintro _ R ⟨s,ns,off,pl,rfl,h,hp,q⟩;refine⟨⟨rfl,rfl⟩,_,_,_,rfl,swF ?_ ?_⟩
 .show xr true (decide ((((pl.map dT).length:Nat):Int)=(ns.length:Nat)))=false;rw[ak,hp.len,h.len,Zs rfl]
  rfl
 .refine xV dT pl (λk o=>∃x y,o=[.fz (hlT D s ns off),.fz (.lst (pl.map dT)),x,y]) ⟨_,_,rfl⟩ ?_ ?_
  .rintro k d _ e ⟨x,y,rfl⟩;have lk:k<off.length:=by rw[<- hp.len];exact(ao.mp e).1
   have ek:=aj lk;refine⟨rfl,⟨rfl,rfl⟩,_,_,_,k,_,rfl,h,ek,d,(off[k]).length,?_,?_⟩
   .show[dT d,L2.T.int ((((off[k]).map ofT).length:Nat):Int)]=_;rw[ak]
   .rw[hp.ok k d _ e ek];exact⟨_,_,rfl⟩
  .rintro _ ⟨x,y,rfl⟩;exact q
def chO(off:List (List bN))(pl:List (Option Nat)):List (Option bN):=pl.zipIdx.map λp=>p.1.bind λd=>(off.getD p.2 [])[d]?
def opT:Option bN->T
 |none=>.non
 |some o=>ofT o
def uN(D:Adr):ST:=λts q=>∃(s:Rat)(ns:Φ)(off:List (List bN))(pl:List (Option Nat)),ts=[hlT D s ns off,.lst (pl.map dT)]/\R5 ns off/\PlT off pl/\q (.l1 ((chO off pl).map opT))
theorem Ey(F:Fun K jL jL lg f fd)(T:Txt K mg D)(cV:OkI P w K mg base CX0 3 D.Hall_offers eZ (spT K (tG D))):cj P w K mg base CX0 4 f fd jB (spT K (uN D)):=by
 refine F.okT Et (λts R hP=>by obtain⟨_,_,_,_,e,_⟩:=hP;exact e ▸ rfl) λag A outer s H E hr=>?_;refine⟨_,(bG (bQ (dI (bH lg) pR pR ["room","door"] (z9 (by rfl) T.nq (bx (qv 1) bF)) (fG (n:=2) rfl (bR (fj (i:=0)) (bR (fj (i:=1)) dF))) cI (Wi (bY G3 (qv 1) jg) jg (bJ (Ba (qv 2) T.lH T.lF cV hr.md (bx (qv 0) bF) (KS:=mL)) (qv 1)))))),?_⟩;rintro _ R ⟨s,ns,off,pl,rfl,h,hp,q⟩;refine⟨by unfold yO;rw[ak,List.length_zipIdx,ak,hp.len,h.len];exact aL h.few (by decide),?_⟩;rw[YS];refine comp_map (λp=>.tup [.int (p.2:Nat),dT p.1]) (λp=>opT (p.1.bind λd=>(off.getD p.2 [])[d]?)) pl.zipIdx (λp hm N M hN=>⟨rfl,?a⟩) ?b
 case b =>
  unfold chO at q;rw[WP]at q;exact q
 case a =>
  obtain⟨d,k⟩:=p;have e:=List.mem_zipIdx_iff_getElem?.mp hm;have lk:k<off.length:=by rw[<- hp.len];exact(ao.mp e).1
  have ek:=aj lk;have eg:off.getD k []=off[k]:=by rw[au,ek];rfl
  have ft:=hp.ok k d _ e ek;cases d with
  |none=>exact hN
  |some d =>
   have ld:d<(off[k]).length:=of_decide_eq_true ft;have hN:N (opT ((off.getD k [])[d]?)):=hN;rw[eg,aj ld]at hN;exact⟨⟨rfl,rfl⟩,_,_,_,k,_,rfl,h,ek,_,cZ (aj ld),hN⟩
open Rw (sg)
def rowsOf(f:Nat->Nat->Rat)(m:Nat):List (List T):=(List.range m).map λi=>(List.range m).map λj=>frR (f i j)
noncomputable def rY:List (Nat×Rat)->Nat->Rat
 |[],_=>0
 |w::ws,j=>(if w.1=j then w.2 else 0)+rY ws j
noncomputable def gq:Option bN->List (Nat×Rat)
 |none=>[]
 |some o=>o.ways
structure WyB(s:Rat)(m:Nat)(ws:List (Nat×Rat)):Prop where
 nd:(ws.map (·.1)).Nodup
 few:ws.length<=1000
 lt:∀w∈ws,w.1<m
 bq:∀w∈ws,Bq w.2/\Bd ((s.den:Int)*w.2.den)/\Bq (s*w.2)
def eF(s:Rat)(cs:List (Option bN))(i j:Nat):Rat:=(if j=i then 1 else 0)-s*rY (gq (cs.getD i none)) j
def A_:ST:=λts q=>∃(s:Rat)(cs:List (Option bN)),ts=[frR s,.lst (cs.map opT)]/\cs.length<=100/\Bq s/\(∀o∈cs,WyB s cs.length (gq o))/\q (.l2 (rowsOf (eF s cs) cs.length))
theorem Ym(f:Nat->Nat->Rat)(m:Nat):(rowsOf f m).length=m:=by unfold rowsOf;rw[ak,WJ]
theorem Wb{f:Nat->Nat->Rat}{m i:Nat}(h:i<m):(rowsOf f m)[i]?=some ((List.range m).map λj=>frR (f i j)):=by
 unfold rowsOf;rw[aq,Up h];rfl
theorem uh{f g:Nat->Nat->Rat}{m:Nat}(h:∀i j,i<m->j<m->f i j=g i j):rowsOf f m=rowsOf g m:=U1 λi hi=>U1 λj hj=>by rw[h i j (List.mem_range.mp hi) (List.mem_range.mp hj)]
theorem ZM{f g:Nat->Nat->Rat}{m i k:Nat}{v:Rat}(h:∀a b,a<m->b<m->g a b=if a=i/\b=k then v else f a b):(rowsOf f m).set i (((List.range m).map λj=>frR (f i j)).set k (frR v))=rowsOf g m:=by
 unfold rowsOf;refine Zzx (by rw[VS,ak,ak]) λa h1 h2=>?_;have ha:a<m:=by rw[ak,WJ]at h2;exact h2
 rw[List.getElem_set];by_cases e:i=a
 .rw[ZY e,UU,Zzw];refine Zzx (by rw[VS,ak,ak]) λb h3 h4=>?_;have hb:b<m:=by rw[ak,WJ]at h4;exact h4
  rw[List.getElem_set,UU,UU,Zzw,h a b ha hb];by_cases c:k=b
  .rw[ZY c,ZY ⟨e.symm,c.symm⟩]
  .rw[ZZ c,ZZ λz=>c z.2.symm,e]
 .rw[ZZ e,UU,UU,Zzw];refine U1 λb hb=>?_;rw[h a b ha (List.mem_range.mp hb),ZZ λz=>e z.1.symm]
theorem abu{f:Nat->Nat->Rat}{m i:Nat}(h:i<m):ixT (rowsOf f m) ((i:Nat):Int)=some ((List.range m).map λj=>frR (f i j)):=by
 show nth (rowsOf f m) i=_;rw[rR,Wb h]
theorem aae(as:List (Nat×Rat))(w:Nat×Rat)(j:Nat):rY (as++[w]) j=rY as j+if w.1=j then w.2 else 0:=by
 induction as with
 |nil=>show(_+(0:Rat))=0+_;grind
 |cons a as ih=>show _+rY (as++[w]) j=(_+rY as j)+_;rw[ih];grind
theorem WW{ws:List (Nat×Rat)}{j:Nat}(h:j∉ws.map (·.1)):rY ws j=0:=by
 induction ws with
 |nil=>rfl
 |cons a as ih =>
  show(if a.1=j then a.2 else 0)+rY as j=0;rw[ih λz=>h (aJ _ z),ZZ λz=>h (by rw[<- z];exact aO ..)]
  grind
def uF(s:Rat)(cs:List (Option bN))(n:Nat)(as:List (Nat×Rat))(i j:Nat):Rat:=if i<n then eF s cs i j else if i=n then(if j=i then 1 else 0)-s*rY as j else if j=i then 1 else 0
theorem abQ(s:Rat)(cs:List (Option bN))(n i j:Nat):uF s cs n [] i j=if i<n then eF s cs i j else if j=i then 1 else 0:=by
 unfold uF;split
 .rfl
 .split
  .show _-s*0=_;grind
  .rfl
theorem abn{s:Rat}{cs:List (Option bN)}{n:Nat}(i j:Nat):uF s cs n (gq (cs.getD n none)) i j=if i<n+1 then eF s cs i j else if j=i then 1 else 0:=by
 unfold uF;by_cases a:i<n
 .rw[ZY a,ZY (show i<n+1 by exact WU _ a)]
 .by_cases b:i=n
  .subst b;rw[ZZ a,ZY rfl,ZY (show i<i+1 by exact X1 _)]
   rfl
  .rw[ZZ a,ZZ b,ZZ (show ¬i<n+1 by lia)]
theorem Sg(s:Rat)(cs:List (Option bN))(n:Nat)(as:List (Nat×Rat))(j:Nat):uF s cs n as n j=(if j=n then 1 else 0)-s*rY as j:=by unfold uF;rw[ZZ (X9 _),ZY rfl]
theorem afH{s:Rat}{cs:List (Option bN)}{n i:Nat}(as bs:List (Nat×Rat))(j:Nat)(h:i≠n):uF s cs n as i j=uF s cs n bs i j:=by unfold uF;rw[ZZ h,ZZ h]
theorem Nh(F:Fun K oO oO v7 f fd)(T:Txt K mg D)(rH:OkT P w K mg base 1 j5 lG vD)(oG:OkT P w K mg base 3 tD sI Bw)(uy:OkT P w K mg base 3 vW vL Im):cj P w K mg base CX0 4 f fd oW (spT K A_):=by
 refine F.okT iK (λts R hP=>by obtain⟨_,_,e,_⟩:=hP;exact e ▸ rfl) λag A outer s H E hr=>?_;refine⟨_,(bC (iu 2 iK.nd (Or.inl rfl) (bI rH hr.md (by rfl) (bx (bV dh (by rfl) T.dY W1 (bx (qv 1) bF)) bF)))
  (bC (dB VZ rfl (z9 (by rfl) T.nq (bx (qv 1) bF)) (fG (n:=2) rfl (bR (b_ (n:=99) 3 iK.nd (Or.inl rfl)) (bR (b_ (n:=99) 4 iK.nd (Or.inl rfl)) dF)))
  (bG (cG (bY FT (qv 4) jg)
  (bG (dB VZ rfl (cH (bJ (qv 4) bA)) (fG (n:=2) rfl (bR (b_ (n:=99) 5 iK.nd (Or.inl rfl)) (bR (b_ (n:=99) 6 iK.nd (Or.inl rfl)) dF)))
  (bG (acM 2 (bI oG hr.md (by rfl) (bx (adn 2 (qv 3) (qv 5)) (bx (bI uy hr.md (by rfl) (bx (qv 0) (bx (qv 6) bF))) bF))) (qv 3) (qv 5)))))
  bT)))
  (bG (jJ 2)))),?_⟩
 rintro _ R ⟨s,cs,rfl,hm,hs,hw,q⟩;refine⟨cs.length,?_,hm,?_⟩
 .show[L2.T.int (((cs.map opT).length:Nat):Int)]=_;rw[ak]
 .have lc:∀x:Nat,((cs.map opT).length:Nat)=cs.length:=λ_=>ak _;refine xV opT cs (λn o=>∃x y z u,o=[.fz (frR s),.fz (.lst (cs.map opT)),.l2 (rowsOf (λi j=>if i<n then eF s cs i j else if j=i then 1 else 0) cs.length),x,y,z,u]) ⟨.und,.und,.und,.und,?_⟩ ?_ ?_
  .show[_,_,OT.l2 (rowsOf (λi j=>if j=i then 1 else 0) cs.length),_,_,_,_]=_;rw[uh (f:=λi j=>if j=i then 1 else 0) (g:=λi j=>if i<0 then eF s cs i j else if j=i then 1 else 0) λi j _ _=>by rw[ZZ (WV _)]]
  .rintro n oo _ e ⟨x,y,z,u,rfl⟩;have hn:n<cs.length:=(ao.mp e).1;have eg:cs.getD n none=oo:=by rw[au,e];rfl
   have hb:=hw oo (aC e);rw[show rowsOf (λi j=>if i<n then eF s cs i j else if j=i then 1 else 0) cs.length=rowsOf (uF s cs n []) cs.length from uh λi j _ _=>(abQ s cs n i j).symm];rw[show rowsOf (λi j=>if i<n+1 then eF s cs i j else if j=i then 1 else 0) cs.length=rowsOf (uF s cs n (gq oo)) cs.length from uh λi j _ _=>by rw[<- eg];exact(abn i j).symm];refine⟨rfl,?_⟩
   match oo,hb with
   |none,hb=>exact⟨_,_,_,_,rfl⟩
   |some o,hb =>
    refine fV nwT o.ways (λas ot=>∃z u,ot=[.fz (frR s),.fz (.lst (cs.map opT)),.l2 (rowsOf (uF s cs n as) cs.length),.fz (.int n),.fz (ofT o),z,u]) ⟨_,_,rfl⟩ ?_ ?_
    .rintro as ⟨k,c⟩ bs _ e2 ⟨z,u,rfl⟩;have j2:(k,c)∈o.ways:=e2 ▸ by simp
     have hk:=hb.lt _ j2;obtain⟨c1,c2,c3⟩:=hb.bq _ j2;have nk:k∉as.map (·.1):=λz=>by
      have nd:=hb.nd;rw[show gq (some o)=o.ways from rfl,e2,bf]at nd;exact(List.nodup_append.mp nd).2.2 k z k (by simp) rfl
     have cell:uF s cs n as n k=if k=n then 1 else 0:=by
      unfold uF;rw[ZZ (X9 _),ZY rfl,WW nk]
      grind
     have q1:Bq (uF s cs n as n k)/\Bd (((uF s cs n as n k).den:Int)*(s*c).den):=by
      rw[cell];split
      .exact⟨bq1,by show Bd (1*_);rw[JP];exact c3.2⟩
      .exact⟨bq0,by show Bd (1*_);rw[JP];exact c3.2⟩
     refine⟨rfl,_,(abu hn),_,cZ (Up hk),s,c,rfl,hs,c1,c2,_,_,rfl,q1.1,c3,q1.2,n,_,zF (by rw[Ym];exact hn),Wb hn,k,zF (by rw[ak,WJ];exact hk),.fz (.int k),.fz (frR c),?_⟩;rw[<- ZM (f:=uF s cs n as) (g:=uF s cs n (as++[(k,c)])) (i:=n) (k:=k) (v:=uF s cs n as n k-s*c) λa b _ _=>?_]
     .rfl
     .by_cases a1:a=n
      .subst a1;rw[Sg,aae];by_cases b1:b=k
       .subst b1;rw[ZY (show a=a/\b=b from⟨rfl,rfl⟩),Sg,ZY (show(b,c).1=b from rfl)]
        grind
       .rw[ZZ (show ¬(a=a/\b=k)from λz=>b1 z.2),Sg,ZZ (show ¬(k,c).1=b from λz=>b1 z.symm)]
        grind
      .rw[ZZ (show ¬(a=n/\b=k)from λz=>a1 z.1)];exact afH _ _ _ a1
    .rintro _ ⟨z,u,rfl⟩;exact⟨_,_,_,_,rfl⟩
  .rintro _ ⟨x,y,z,u,rfl⟩;rw[show rowsOf (eF s cs) cs.length=rowsOf (λi j=>if i<cs.length then eF s cs i j else if j=i then 1 else 0) cs.length from uh λi j hi _=>by rw[ZY hi]]at q;exact q
open Rw (sg)
noncomputable def jX:Option bN->Rat
 |none=>0
 |some o=>o.pay
def zu(s:Rat)(cs:List (Option bN)):List (List Rat):=(List.range cs.length).map λi=>(List.range cs.length).map λj=>eF s cs i j
theorem alo(s:Rat)(cs:List (Option bN)):(rowsOf (eF s cs) cs.length).map T.lst=(zu s cs).map Hi:=by
 unfold rowsOf zu;rw[WP,WP];refine U1 λi _=>?_;show T.lst _=T.lst (List.map frR _);rw[WP]
 rfl
theorem Mp(s:Rat)(cs:List (Option bN)):(zu s cs).length=cs.length:=by unfold zu;rw[ak,WJ]
theorem agj{s:Rat}{cs:List (Option bN)} : ∀r∈zu s cs,r.length=cs.length:=λr hr=>by
 obtain⟨i,_,rfl⟩:=YV.mp hr;rw[ak,WJ]
def Al(s:Rat)(cs:List (Option bN))(y:Nat->Rat):Prop:=∀i,i<cs.length->sg (λj=>eF s cs i j*y j) cs.length=jX (cs.getD i none)
structure WoB(s:Rat)(cs:List (Option bN))(N:Nat):Prop where
 bs:Bq s
 ways:∀o∈cs,WyB s cs.length (gq o)
 sys:Sys (Ab (zu s cs) (cs.map jX)) N
theorem SJ{s:Rat}{cs:List (Option bN)}{i:Nat}(h:i<cs.length):(Ab (zu s cs) (cs.map jX))[i]?=some (((List.range cs.length).map λj=>eF s cs i j)++[jX (cs.getD i none)]):=by
 unfold Ab zu;rw[Zyq,aq,Up h,aq,au,aj h]
 rfl
theorem aaQ{s:Rat}{cs:List (Option bN)}{y:Nat->Rat}(h:∀r∈Ab (zu s cs) (cs.map jX),sg (λj=>r.getD j 0*y j) cs.length=r.getD cs.length 0):Al s cs y:=λi hi=>by
 have:=h _ (aC (SJ hi));have l:((List.range cs.length).map λj=>eF s cs i j).length=cs.length:=by rw[ak,WJ]
 rw[show(((List.range cs.length).map λj=>eF s cs i j)++[jX (cs.getD i none)]).getD cs.length 0=jX (cs.getD i none)by
  rw[au,aD (by rw[l];exact aG _),l,Zzy];rfl]at this
 rw[<- this];refine Rw.bW λj hj=>?_;rw[au,aF (by rw[l];exact hj),aq,Up hj]
 rfl
def Bu(D:Adr):ST:=λts R=>∃(s:Rat)(ns:Φ)(off:List (List bN))(pl:List (Option Nat))(N:Nat),ts=[hlT D s ns off,.lst (pl.map dT)]/\R5 ns off/\PlT off pl/\off.length<=100/\WoB s (chO off pl) N/\∀y:Nat->Rat,Al s (chO off pl) y->(∀i,i<off.length->FnB ((2*off.length*N)^off.length) (y i))->R (.l1 ((List.range off.length).map λi=>frR (y i)))
theorem G_{off:List (List bN)}{pl:List (Option Nat)}(h:PlT off pl):(chO off pl).length=off.length:=by unfold chO;rw[ak,List.length_zipIdx,h.len]
theorem Lz(F:Fun K oH oH qQ f fd)(T:Txt K mg D)(dZ:OkT P w K mg base 4 gQ gO (m5 D))(p8:OkT P w K mg base 4 jL jB (uN D))(wR:OkT P w K mg base 4 oO oW A_)(rA:OkT P w K mg base 8 lK kY vO):cj P w K mg base CX0 9 f fd oM (spT K (Bu D)):=by
 refine F.okT ur (λts R hP=>by obtain⟨_,_,_,_,_,e,_⟩:=hP;exact e ▸ rfl) λag A outer s H E hr=>?_;refine⟨_,(bC (jH (bI dZ hr.md (by rfl) (bx (qv 0) (bx (qv 1) bF))))
  (bC (bM 2 ur.nd (Or.inl rfl) (bI p8 hr.md (by rfl) (bx (qv 0) (bx (qv 1) bF))))
  (bC (qM (bH qQ) w5 w5 ["offer"] (cH (qv 2)) (fj (i:=0)) cI (Wi (bY G3 (qv 0) jg) (lW (by rfl) T.jm T.gM) (bJ (qv 0) bA)) (lM (i:=3) ur.nd rfl (Or.inl rfl)))
  (bG (bQ (bI rA hr.md (by rfl) (bx (bI wR hr.md (by rfl) (bx (pY (Fm:=Fam D) (λC h=>⟨T.cl C h,T.vq C h⟩) (qv 0)) (bx (qv 2) bF))) (bx (qv 3) bF)))))))),?_⟩
 rintro _ R ⟨s,ns,off,pl,N,rfl,h,hp,few,hw,ok⟩;have cl:=G_ hp;refine⟨_,_,_,_,rfl,h,hp,_,_,_,_,rfl,h,hp,?_⟩;refine⟨by rw[ak,cl];exact aL few (by decide),comp_map opT (λo=>frR (jX o)) (chO off pl) (λo ho N M hN=>by cases o<;>exact hN) ?_⟩;refine⟨qe D,_,rfl,s,chO off pl,rfl,by exact aL (WG cl) few,hw.bs,hw.ways,zu s (chO off pl),(chO off pl).map jX,N,?_,by rw[ak,Mp],by rw[Mp];exact agj,hw.sys,?_⟩
 .show[L2.T.lst ((rowsOf (eF s (chO off pl)) (chO off pl).length).map L2.T.lst),L2.T.lst ((chO off pl).map λo=>frR (jX o))]=_;rw[alo,WP]
  rfl
 .rw[Mp,cl];exact λy h1 h2=>ok y (aaQ (by rw[cl];exact h1)) h2
noncomputable def E_(ws:List (Nat×Rat))(tp:List Int):Rat:=(ws.map λw=>w.2*((tp.getD w.1 0:Int):Rat)).sum
structure BhB(ws:List (Nat×Rat))(tp:List Int):Prop where
 few:ws.length<=1000
 lt:∀w∈ws,w.1<tp.length
 num:∀w∈ws,Bd w.2.num
 lcm:Bd (cD 1 (ws.map (·.2)):Nat)
 part:∀t∈tops (cD 1 (ws.map (·.2))) (ws.map (·.2)),Bd t
 top:∀t∈tp,Bd t
def vM:ST:=λts q=>∃(o:bN)(tp:List Int),ts=[ofT o,.lst (tp.map T.int)]/\BhB o.ways tp/\q (.fz (frR (E_ o.ways tp)))
theorem MK{B:Nat}(hB:0<B)(tp:List Int):∀ws:List (Nat×Rat),(∀w∈ws,w.2.den ∣ B)->Rat.divInt ((ws.map λw=>w.2.num*((B/w.2.den:Nat):Int)*tp.getD w.1 0).sum) B=E_ ws tp
 |[],_=>by
  show Rat.divInt 0 B=0;exact TK _
 |w::ws,h=>by
  have ih:=MK hB tp ws λx hx=>h x (aJ _ hx);show Rat.divInt (w.2.num*((B/w.2.den:Nat):Int)*tp.getD w.1 0+(ws.map λw=>w.2.num*((B/w.2.den:Nat):Int)*tp.getD w.1 0).sum) B=w.2*((tp.getD w.1 0:Int):Rat)+E_ ws tp;rw[<- ih,UK,UK,Rat.intCast_add,XV];have e:((w.2.num*((B/w.2.den:Nat):Int):Int):Rat)/((B:Int):Rat)=w.2:=by
   obtain⟨k,hk⟩:=h w (aO ..);have hd:=w.2.den_pos;rw[show B/w.2.den=k by rw[hk];exact Zww _ hd];have hU:k≠0:=λz=>by rw[z]at hk;lia
   rw[<- UK,hk,Th,Rat.divInt_mul_right (by lia)];exact rd _
  have hb:((B:Int):Rat)≠0:=λz=>by have:=Rat.intCast_eq_zero_iff.mp z;lia
  grind
theorem aaz{α:Type}(ws:List α)(g h:α->Int):((ws.map g).zip ws).map (λp=>p.1*h p.2)=ws.map λw=>g w*h w:=by
 induction ws with
 |nil=>rfl
 |cons w ws ih=>exact ZH (List.cons _) ih
theorem Hl(F:Fun K lB lB jz f fd)(T:Txt K mg D)(jC:OkT P w K mg base 2 qj pI wu)(dH:OkT P w K mg base 2 nu m9 sW):cj P w K mg base CX0 3 f fd lJ (spT K vM):=by
 refine F.okT xu (λts R hP=>by obtain⟨_,_,e,_⟩:=hP;exact e ▸ rfl) λag A outer s H E hr=>?_;refine⟨_,(bC (bM 2 xu.nd (Or.inl rfl) (bI jC hr.md (by rfl) (bx (dI (bH jz) jj jj ["room","chance"] (cH (bJ (qv 0) bA)) (fG (n:=2) rfl (bR (fj (i:=0)) (bR (fj (i:=1)) dF))) cI (qv 1)) bF)))
  (bG (bQ (bI dH hr.md (by rfl) (bx (bV (Ox rfl) (by rfl) T.Vj boot_sum (bx (dI (bH jz) jj jj ["part","way"] (Hv (by rfl) T.Ph (bx (bJ (qv 2) bA) (bx (bJ (qv 0) bA) bF))) (fG (n:=2) rfl (bR (fj (i:=0)) (bR (fj (i:=1)) dF))) cI (bK cB (qv 0) (bJ (qv 3) (bJ (qv 1) bA)))) bF)) (bx (bJ (qv 2) bA) bF)))))),?_⟩
 rintro _ R ⟨o,tp,rfl,h,q⟩;refine⟨by rw[ak];exact aL h.few (by decide),comp_map nwT (λw=>frR w.2) o.ways (λw hw N M hN=>⟨rfl,hN⟩) ?_⟩;have hB:=eY (o.ways.map (·.2)) UY;refine⟨o.ways.map (·.2),by rw[WP];rfl,by rw[ak];exact h.few,λr hr=>?_,h.lcm,?_⟩
 .obtain⟨w,hw,rfl⟩:=YV.mp hr;exact h.num w hw
 .refine⟨by unfold Dk;rw[ak,VX,ak,ak];exact aL (aL (Nat.min_le_right ..) h.few) (by decide),?_⟩;rw[zip_map];refine comp_map (λp:Int×(Nat×Rat)=>.tup [.int p.1,nwT p.2]) (λp=>.int (p.1*tp.getD p.2.1 0)) _ (λp hp N M hN=>?a) ?b
  case a =>
   have m2:=(VQ hp).2;have lt:=h.lt _ m2;have hN:N (.int (p.1*tp.getD p.2.1 0)):=hN;rw[au,aj lt]at hN;exact⟨rfl,_,cZ (aj lt),⟨h.part _ (VQ hp).1,h.top _ (aU lt)⟩,hN⟩
  case b =>
   refine⟨((tops (cD 1 (o.ways.map (·.2))) (o.ways.map (·.2))).zip o.ways).map λp=>p.1*tp.getD p.2.1 0,by rw[WP];rfl,_,_,rfl,by lia,h.lcm,λx y l=>?_⟩;rw[iZ l (by lia)];unfold tops;rw[WP,aaz o.ways _ λw=>tp.getD w.1 0];have:=MK hB tp o.ways λw hw=>(jy (o.ways.map (·.2))).2 w.2 (YV.mpr ⟨w,hw,rfl⟩);rw[<- this]at q;exact q
def En:ST:=λts q=>∃(r:Rat)(rs:List Rat),ts=[.lst ((r::rs).map frR)]/\(∀x∈r::rs,Bq x)/\∀m,m∈r::rs->(∀x∈r::rs,x<=m)->q (.fz (frR m))
theorem QC(F:Fun K qx qx zE f fd)(T:Txt K mg D)(gY:OkT P w K mg base 1 pL pU vh):cj P w K mg base CX0 2 f fd qU (spT K En):=by
 refine F.okT qW (λts R hP=>by obtain⟨_,_,e,_⟩:=hP;exact e ▸ rfl) λag A outer s H E hr=>?_;refine⟨_,(bC (bM 1 qW.nd (Or.inl rfl) jg)
  (bC (dB VZ rfl (cH (qv 0)) (b_ (n:=99) 2 qW.nd (Or.inl rfl))
  (bG (cG (QW.qt (nR (bY G3 (qv 1) jg) (k_ (dX (bI gY hr.md (by rfl) (bx (qv 1) (bx (qv 2) bF)))))))
  (bG (bM 1 qW.nd (Or.inl rfl) (qv 2)))
  bT)))
  (bG (bQ (qv 1))))),?_⟩
 rintro _ R ⟨r,rs,rfl,h,q⟩;refine fV frR (r::rs) (λas o=>(as=[]/\∃x,o=[.fz (.lst ((r::rs).map frR)),.fz .non,x])\/∃m x,o=[.fz (.lst ((r::rs).map frR)),.fz (frR m),x]/\m∈as/\∀x∈as,x<=m) (.inl ⟨rfl,_,rfl⟩) ?_ ?_
 .rintro as a bs _ e (⟨rfl,x,rfl⟩|⟨m,x,rfl,hm,g9⟩)
  .exact .inr ⟨a,_,rfl,by simp,λx hx=>by rw[show x=a by simpa using hx];exact VW⟩
  .have ba:Bq a:=h a (e ▸ by simp);have bm:Bq m:=h m (e ▸ UH _ hm);exact⟨m,a,rfl,bm,ba,swD (λlt=>.inr ⟨a,_,rfl,by simp,λx hx=>(Y1.mp hx).elim (λz=>US (g9 x z) (TZ lt)) λz=>by rw[YR.mp z];exact VW⟩) λie=>.inr ⟨m,_,rfl,UH _ hm,λx hx=>(Y1.mp hx).elim (g9 x) λz=>by rw[YR.mp z];exact Rat.not_lt.mp ie⟩⟩
 .rintro _ (⟨z,_⟩|⟨m,x,rfl,hm,hx⟩)
  .cases z
  .exact q m hm hx
structure LkB(s:Rat)(o:bN)(tp:List Int)(B:Nat):Prop where
 bh:BhB o.ways tp
 pay:Bq o.pay
 bs:Bq s
 b:Bd (B:Int)
 dw:Bq (E_ o.ways tp)
 d1:Bd ((s.den:Int)*(E_ o.ways tp).den)
 p1:Bq (o.pay*(B:Rat))
 p2:Bq (s*E_ o.ways tp)
 d2:Bd (((o.pay*(B:Rat)).den:Int)*(s*E_ o.ways tp).den)
def je(s:Rat)(tp:List Int)(B:Nat)(o:bN):Rat:=o.pay*(B:Rat)+s*E_ o.ways tp
def wM(D:Adr):ST:=λts q=>∃(s:Rat)(ns:Φ)(off:List (List bN))(o:bN)(tp:List Int)(B:Nat),ts=[hlT D s ns off,ofT o,.tup [.lst (tp.map T.int),.int (B:Nat)]]/\LkB s o tp B/\q (.fz (frR (je s tp B o)))
theorem Jm(F:Fun K lU lU rF f fd)(T:Txt K mg D)(sG:OkT P w K mg base 3 lB lJ vM)(Ds:OkT P w K mg base 3 BW CZ O1)(uy:OkT P w K mg base 3 vW vL Im):cj P w K mg base CX0 4 f fd jY (spT K (wM D)):=by
 refine F.okT wZ (λts R hP=>by obtain⟨_,_,_,_,_,_,e,_⟩:=hP;exact e ▸ rfl) λag A outer s H E hr=>?_;refine⟨_,(bC (bM 3 wZ.nd (Or.inl rfl) (bI sG hr.md (by rfl) (bx (qv 1) (bx (bJ (qv 2) bA) bF))))
  (bG (bQ (bI Ds hr.md (by rfl) (bx (bI uy hr.md (by rfl) (bx (bJ (qv 1) bA) (bx (cW (bx (bJ (qv 2) bA) (bx bA bF))) bF))) (bx (bI uy hr.md (by rfl) (bx (pY (Fm:=Fam D) (λC h=>⟨T.cl C h,T.vq C h⟩) (qv 0)) (bx (qv 3) bF))) bF)))))),?_⟩
 rintro _ R ⟨s,ns,off,o,tp,B,rfl,h,q⟩;refine⟨o,tp,rfl,h.bh,o.pay,(B:Rat),rfl,h.pay,⟨h.b,bq1.2⟩,?_,qe D,_,rfl,s,E_ o.ways tp,rfl,h.bs,h.dw,h.d1,_,_,rfl,h.p1,h.p2,h.d2,q⟩;show Bd ((o.pay.den:Int)*1);rw[Q1];exact h.pay.2
def V_(rs:List Rat)(d b:Nat):Prop:=(∀x∈rs,x<=rs.getD d 0)/\b=d\/((rs.getD d 0)<rs.getD b 0/\b<rs.length/\(∀x∈rs,x<=rs.getD b 0)/\∀i,i<b->rs.getD i 0≠rs.getD b 0)
theorem afp{a b:Rat}(h:(a.num,((a.den:Nat):Int))=(b.num,((b.den:Nat):Int))):a=b:=by
 injection h with h1 h2;exact Rat.ext h1 (by lia)
theorem Zk{rs:List Rat}{m:Rat}(h:m∈rs):∃j:Nat,rs[j]?=some m/\∀(i:Nat)g,i<j->rs[i]?=some g->g≠m:=by
 induction rs with
 |nil=>cases h
 |cons r rs ih =>
  by_cases e:r=m
  .exact⟨0,by rw[e];rfl,λi _ z=>absurd z (WV _)⟩
  .obtain⟨j,e1,e2⟩:=ih ((YU.mp h).resolve_left λz=>e z.symm);refine⟨j+1,e1,λi g hi eg=>?_⟩;cases i with
   |zero=>cases eg;exact e
   |succ i=>exact e2 i g (Nat.lt_of_succ_lt_succ hi) eg
def vZ:ST:=λts q=>∃(rs:List Rat)(d:Nat),ts=[.lst (rs.map frR),.int (d:Nat)]/\d<rs.length/\rs.length<=1000/\(∀x∈rs,Bq x)/\∀b:Nat,V_ rs d b->q (.fz (.int (b:Nat)))
theorem G8(F:Fun K kW kW rK f fd)(T:Txt K mg D)(zR:OkT P w K mg base 2 qx qU En)(gY:OkT P w K mg base 1 pL pU vh):cj P w K mg base CX0 3 f fd j9 (spT K vZ):=by
 refine F.okT vf (λts R hP=>by obtain⟨_,_,e,_⟩:=hP;exact e ▸ rfl) λag A outer s H E hr=>?_;refine⟨_,(bC (bM 2 vf.nd (Or.inl rfl) (bI zR hr.md (by rfl) (bx (qv 0) bF)))
  (bC (cG (dX (bI gY hr.md (by rfl) (bx (bJ (qv 0) (qv 1)) (bx (qv 2) bF))))
  (bG (bQ (afd hr.units (qv 0) (bx (qv 2) bF))))
  bT)
  (bG (bQ (qv 1))))),?_⟩
 rintro _ R ⟨rs,d,rfl,hd,few,hb,q⟩;have ed:=aj hd;have gd:rs.getD d 0=rs[d]:=by rw[au,ed];rfl
 obtain⟨r,dm,e0⟩ : ∃r dm,rs=r::dm:=by
  cases rs with
  |nil=>exact absurd hd (WV _)
  |cons r rs=>exact⟨r,rs,rfl⟩
 refine⟨r,dm,by rw[e0];rfl,λx hx=>hb x (e0 ▸ hx),λm hm hx=>?_⟩;rw[<- e0]at hm hx;refine⟨_,cZ ed,_,m,rfl,hb _ (aU hd),hb m hm,swD (λlt=>?_) λie=>?_⟩
 .obtain⟨j,ej,nj⟩:=Zk hm;have gj:rs.getD j 0=m:=by rw[au,ej];rfl
  refine⟨rs.map λr=>(r.num,((r.den:Nat):Int)),(m.num,((m.den:Nat):Int)),j,by rw[WP];rfl,rfl,by rw[ak];exact aL few (by decide),by rw[aq,ej];rfl,λi g hi eg=>?_,q j (.inr ⟨by rw[gd,gj];exact lt,(ao.mp ej).1,by rw[gj];exact hx,λi hi=>?_⟩)⟩
  .rw[aq]at eg;have li:i<rs.length:=Tk hi (ao.mp ej).1;rw[aj li]at eg;cases eg;exact λz=>nj i _ hi (aj li) (afp z)
  .have li:i<rs.length:=Tk hi (ao.mp ej).1;rw[gj,au,aj li];exact nj i _ hi (aj li)
 .refine q d (.inl ⟨λx g9=>?_,rfl⟩);rw[gd];exact US (hx x g9) (Rat.not_lt.mp ie)
structure K9(s:Rat)(off:List (List bN))(tp:List Int)(B:Nat)(pl aS:List (Option Nat)):Prop where
 len:aS.length=pl.length
 none:∀k:Nat,pl[k]?=some none->aS[k]?=some none
 some:∀(k d:Nat)(ds:List bN),pl[k]?=some (some d)->off[k]?=some ds->∃b,aS[k]?=some (some b)/\V_ (ds.map (je s tp B)) d b
structure MeB(s:Rat)(off:List (List bN))(ys:List Rat):Prop where
 few:ys.length<=1000
 num:∀r∈ys,Bd r.num
 lcm:Bd (cD 1 ys:Nat)
 look:∀ds∈off,∀o∈ds,LkB s o (tops (cD 1 ys) ys) (cD 1 ys)/\Bq (je s (tops (cD 1 ys) ys) (cD 1 ys) o)
def Ke(D:Adr):ST:=λts R=>∃(s:Rat)(ns:Φ)(off:List (List bN))(pl:List (Option Nat))(ys:List Rat),ts=[hlT D s ns off,.lst (pl.map dT),.lst (ys.map frR)]/\R5 ns off/\PlT off pl/\MeB s off ys/\∀aS:List (Option Nat),K9 s off (tops (cD 1 ys) ys) (cD 1 ys) pl aS->R (.l1 (aS.map dT))
theorem Xr(F:Fun K yu yu Ay f fd)(T:Txt K mg D)(dZ:OkT P w K mg base 4 gQ gO (m5 D))(jC:OkT P w K mg base 2 qj pI wu)(rN:OkT P w K mg base 4 lU jY (wM D))(rZ:OkT P w K mg base 3 kW j9 vZ)(cV:OkI P w K mg base CX0 3 D.Hall_offers eZ (spT K (tG D))):cj P w K mg base CX0 5 f fd yt (spT K (Ke D)):=by
 refine F.okT pB (λts R hP=>by obtain⟨_,_,_,_,_,e,_⟩:=hP;exact e ▸ rfl) λag A outer s H E hr=>?_;refine⟨_,(bC (jH (bI dZ hr.md (by rfl) (bx (qv 0) (bx (qv 1) bF))))
  (bC (bM 3 pB.nd (Or.inr rfl) (bI jC hr.md (by rfl) (bx (qv 2) bF)))
  (bC (iu 4 pB.nd (Or.inl rfl) (d7 bF))
  (bC (dB VZ rfl (z9 (by rfl) T.nq (bx (qv 1) bF)) (fG (n:=2) rfl (bR (b_ (n:=99) 5 pB.nd (Or.inl rfl)) (bR (b_ (n:=99) 6 pB.nd (Or.inl rfl)) dF)))
  (bC (qM (bH Ay) Ho Ho ["offer"] (cH (Ba (qv 0) T.lH T.lF cV hr.md (bx (qv 5) bF) (KS:=mL))) (fj (i:=0)) cI (bI rN hr.md (by rfl) (bx (qv 1) (bx (qv 0) (bx (qv 4) bF)))) (lM (i:=7) pB.nd rfl (Or.inl rfl)))
  (bG (nG 4 (Wi (bY G3 (qv 6) jg) jg (bI rZ hr.md (by rfl) (bx (qv 7) (bx (qv 6) bF))))))))
  (bG (jJ 4)))))),?_⟩
 rintro _ R ⟨s,ns,off,pl,ys,rfl,h,hp,hm,ok⟩;refine⟨_,_,_,_,rfl,h,hp,ys,rfl,hm.few,hm.num,hm.lcm,?_⟩;have lk:=hm.look;generalize cD 1 ys=B at *;generalize tops B ys=tp at *;refine xV dT pl (λk o=>∃aS x y z,o=[.fz (hlT D s ns off),.fz (.lst (pl.map dT)),.fz (.lst (ys.map frR)),.fz (.tup [.lst (tp.map L2.T.int),.int (B:Nat)]),.l1 (aS.map dT),x,y,z]/\aS.length=k/\(∀i:Nat,i<k->pl[i]?=some none->aS[i]?=some none)/\∀(i d:Nat)(ds:List bN),i<k->pl[i]?=some (some d)->off[i]?=some ds->∃b,aS[i]?=some (some b)/\V_ (ds.map (je s tp B)) d b) ⟨[],.und,.und,.und,rfl,rfl,λi z=>absurd z (WV _),λi d ds z=>absurd z (WV _)⟩ ?_ ?_
 .rintro k d _ e ⟨aS,x,y,z,rfl,l1,h1,h2⟩;have lk':k<off.length:=by rw[<- hp.len];exact(ao.mp e).1
  have ek:=aj lk';have few:=h.few;have hl:=h.len;have lm:(aS.map dT).length<sizeLine:=by rw[ak];exact aR (show _<1001 by lia) (by decide)
  have mem:=aU lk';have fd:=h.fews _ mem;have jI:∀{i:Nat}(v:Option Nat),i<k->(aS++[v])[i]?=aS[i]?:=λv hi=>aF (by lia);have rgt:∀v:Option Nat,(aS++[v])[k]?=some v:=λv=>by rw[aD (WG l1),l1,Zzy];rfl
  have ma:∀v:Option Nat,aS.map dT++[dT v]=(aS++[v]).map dT:=λv=>by rw[bf];rfl
  refine⟨rfl,⟨rfl,rfl⟩,_,_,_,k,_,rfl,h,ek,by rw[ak];exact aL fd (by decide),comp_map ofT (λo=>frR (je s tp B o)) off[k] (λo ho N M hN=>⟨s,ns,off,o,tp,B,rfl,(lk _ mem o ho).1,hN⟩) ?_⟩;cases d with
  |none =>
   refine⟨lm,aS++[none],.fz (.int k),.fz .non,.fz (.lst (off[k].map λo=>frR (je s tp B o))),?_,by simp[l1],λi hi ei=>?_,λi d ds hi ei=>?_⟩
   .rw[<- ma]
    rfl
   .by_cases c:i=k
    .rw[c];exact rgt none
    .rw[jI none (XX (UZ hi) c)];exact h1 i (XX (UZ hi) c) ei
   .by_cases c:i=k
    .rw[c,e]at ei;cases ei
    .rw[jI none (XX (UZ hi) c)];exact h2 i d ds (XX (UZ hi) c) ei
  |some d =>
   have ld:d<(off[k]).length:=of_decide_eq_true (hp.ok k (some d) _ e ek);refine⟨off[k].map (je s tp B),d,by rw[WP];rfl,by rw[ak];exact ld,by rw[ak];exact fd,λx hx=>?_,λb hb=>⟨lm,aS++[some b],.fz (.int k),.fz (.int d),.fz (.lst (off[k].map λo=>frR (je s tp B o))),?_,by simp[l1],λi hi ei=>?_,λi d' ds hi ei es=>?_⟩⟩
   .obtain⟨o,ho,rfl⟩:=YV.mp hx;exact(lk _ mem o ho).2
   .rw[<- ma]
    rfl
   .by_cases c:i=k
    .rw[c,e]at ei;cases ei
    .rw[jI (some b) (XX (UZ hi) c)];exact h1 i (XX (UZ hi) c) ei
   .by_cases c:i=k
    .subst c;rw[e]at ei;rw[ek]at es;cases ei;cases es;exact⟨b,rgt (some b),hb⟩
    .rw[jI (some b) (XX (UZ hi) c)];exact h2 i d' ds (XX (UZ hi) c) ei es
 .rintro _ ⟨aS,x,y,z,rfl,l1,h1,h2⟩;exact ok aS ⟨l1,λk e=>h1 k (ao.mp e).1 e,λk d ds e=>h2 k d ds (ao.mp e).1 e⟩
open Rw (sg fY fu bW gn gU)
noncomputable def dw(ws:List (Nat×Rat))(x:Nat->Rat):Rat:=(ws.map λw=>w.2*x w.1).sum
noncomputable def yE(ws:List (Nat×Rat)):Rat:=(ws.map (·.2)).sum
theorem cT(w:Nat×Rat)(ws:List (Nat×Rat))(x:Nat->Rat):dw (w::ws) x=w.2*x w.1+dw ws x:=rfl
theorem tu(w:Nat×Rat)(ws:List (Nat×Rat)):yE (w::ws)=w.2+yE ws:=rfl
theorem Qd{M:Rat}{x:Nat->Rat} : ∀{ws:List (Nat×Rat)},(∀w∈ws,0<=w.2/\x w.1<=M)->dw ws x<=yE ws*M
 |[],_=>by show(0:Rat)<=0*M;rw[Rat.zero_mul];exact VW
 |w::ws,h=>by
  rw[cT,tu];have:=Qd (ws:=ws) λv hv=>h v (aJ _ hv);obtain⟨a,b⟩:=h w (aO ..);have:=UR b a
  grind
theorem adS{m:Nat}{x:Nat->Rat} : ∀{ws:List (Nat×Rat)},(∀w∈ws,w.1<m)->sg (λj=>rY ws j*x j) m=dw ws x
 |[],_=>by
  show sg (λj=>0*x j) m=0;rw[bW (g:=λ_=>0) λj _=>Rat.zero_mul _,gn]
 |w::ws,h=>by
  rw[cT,<- adS (m:=m) (ws:=ws) λv hv=>h v (aJ _ hv)];rw[bW (g:=λj=>(if j=w.1 then 1 else 0)*(w.2*x j)+rY ws j*x j) λj _=>?_,fY,gU (v:=λj=>w.2*x j),ZY (h w (aO ..))];show((if w.1=j then w.2 else 0)+rY ws j)*x j=_;by_cases e:w.1=j
  .rw[ZY e,ZY e.symm];grind
  .rw[ZZ e,ZZ (Ne.symm e)];grind
theorem Ue(x:Nat->Rat):∀{m:Nat},0<m->∃i,i<m/\∀j,j<m->x j<=x i
 |0,h=>absurd h (WV _)
 |1,_=>⟨0,UY,λj hj=>by rw[show j=0 by exact Nat.eq_zero_of_le_zero (UZ hj)];exact VW⟩
 |m+2,_=>by
  obtain⟨i,hi,h⟩:=Ue x (m:=m+1) (T1 _);by_cases c:x i<=x (m+1)
  .refine⟨m+1,by exact X1 _,λj hj=>?_⟩;by_cases e:j=m+1
   .rw[e];exact VW
   .exact US (h j (XX (UZ hj) e)) c
  .refine⟨i,by exact Tk hi (X1 _),λj hj=>?_⟩;by_cases e:j=m+1
   .rw[e];exact TZ (Rat.not_le.mp c)
   .exact h j (XX (UZ hj) e)
structure ShB(s:Rat)(m:Nat)(ws:List (Nat×Rat)):Prop where
 lt:∀w∈ws,w.1<m
 nn:∀w∈ws,0<=w.2
 one:yE ws<=1
theorem sub_le{m:Nat}{s:Rat}{ws:Nat->List (Nat×Rat)}{x:Nat->Rat}(s0:0<=s)(s1:s<1)(hw:∀i,i<m->ShB s m (ws i))(h:∀i,i<m->x i<=s*dw (ws i) x):∀j,j<m->x j<=0:=λj hj=>by
 obtain⟨i,hi,mx⟩:=Ue x (m:=m) (by lia);refine US (mx j hj) (Rat.not_lt.mp λp=>?_);have b:=hw i hi;have d:dw (ws i) x<=yE (ws i)*x i:=Qd λw hw=>⟨b.nn w hw,mx _ (b.lt w hw)⟩;have e:yE (ws i)*x i<=1*x i:=Qr b.one (TZ p);have f:=UR (US d e) s0;have g:=h i hi;have k:s*x i<1*x i:=Rat.mul_lt_mul_of_pos_right s1 p
 grind
theorem Tp{s:Rat}{cs:List (Option bN)}{x:Nat->Rat}{i:Nat}(hi:i<cs.length)(h:∀w∈gq (cs.getD i none),w.1<cs.length):sg (λj=>eF s cs i j*x j) cs.length=x i-s*dw (gq (cs.getD i none)) x:=by
 rw[<- adS h,bW (g:=λj=>(if j=i then 1 else 0)*x j+(-s)*(rY (gq (cs.getD i none)) j*x j)) λj _=>by unfold eF;grind,fY,fu,gU (v:=x),ZY hi]
 grind
theorem Kw{s:Rat}{cs:List (Option bN)}{y:Nat->Rat}(h:∀i,i<cs.length->ShB s cs.length (gq (cs.getD i none))):Al s cs y↔∀i,i<cs.length->y i=jX (cs.getD i none)+s*dw (gq (cs.getD i none)) y:=by
 constructor
 .intro w i hi;have:=w i hi;rw[Tp hi (h i hi).lt]at this
  grind
 .intro w i hi;rw[Tp hi (h i hi).lt];have:=w i hi
  grind
theorem Nx(x:Nat->Rat):∀ws:List (Nat×Rat),dw ws (λj=>-(x j))=-(dw ws x)
 |[]=>by show(0:Rat)=-0;grind
 |w::ws=>by rw[cT,cT,Nx x ws];grind
theorem aft{s:Rat}{cs:List (Option bN)}(s0:0<=s)(s1:s<1)(h:∀i,i<cs.length->ShB s cs.length (gq (cs.getD i none)))(x:Nat->Rat)(hx:∀i,i<cs.length->sg (λj=>eF s cs i j*x j) cs.length=0):∀j,j<cs.length->x j=0:=λj hj=>by
 have e:∀i,i<cs.length->x i=s*dw (gq (cs.getD i none)) x:=λi hi=>by
  have:=hx i hi;rw[Tp hi (h i hi).lt]at this
  grind
 have a:=sub_le s0 s1 h (x:=x) (λi hi=>by rw[<- e i hi];exact VW) j hj;have b:=sub_le s0 s1 h (x:=λj=>-(x j)) (λi hi=>by
  show -(x i)<=_;rw[Nx,e i hi]
  grind) j hj
 grind
open Rw (sg fY fu bW gn gU Big)
theorem uq(s:Rat)(cs:List (Option bN)):(Ab (zu s cs) (cs.map jX)).length=cs.length:=by rw[JS,Mp,ak,UV]
theorem acW{s:Rat}{cs:List (Option bN)}(s0:0<=s)(s1:s<1)(h:∀i,i<cs.length->ShB s cs.length (gq (cs.getD i none)))(x:Nat->Rat)(h0:∀j,cs.length<=j->x j=0)(hx:∀r∈Ab (zu s cs) (cs.map jX),sg (λj=>r.getD j 0*x j) (cs.length+1)=0):∀j,j<cs.length->x j=0:=by
 refine aft s0 s1 h x λi hi=>?_;have:=hx _ (aC (SJ hi));have l:((List.range cs.length).map λj=>eF s cs i j).length=cs.length:=by rw[ak,WJ]
 rw[<- this];show _=sg (λj=>(((List.range cs.length).map λj=>eF s cs i j)++[jX (cs.getD i none)]).getD j 0*x j) cs.length+_*x cs.length;rw[h0 _ (aG _),Rat.mul_zero,Rat.add_zero];refine bW λj hj=>?_;rw[au,aF (by rw[l];exact hj),aq,Up hj]
 rfl
theorem acR{A Q:Nat}{r:List Rat}(hA:1<=A)(hQ:0<Q)(h:∀c∈r,c.den ∣ Q/\c.num.natAbs<=A*c.den):Big (A*Q) (iU r):=by
 have hB:=eY r UY;have hd:cD 1 r ∣ Q:=pK r (QY _) λc hc=>(h c hc).1;have le:=UX hQ hd;refine⟨by show(0:Int)<(cD 1 r:Nat);lia,?_,λt ht=>?_⟩
 .show((cD 1 r:Nat):Int).natAbs<=A*Q;rw[XG];exact aL le (Zxw _ hA)
 .obtain⟨c,hc,rfl⟩:=YV.mp ht;rw[VY,XG];refine aL (QU _ (h c hc).2) ?_;rw[Nat.mul_assoc,Nat.mul_div_cancel' ((jy r).2 c hc)];exact U2 _ le
theorem FZ{s:Rat}{cs:List (Option bN)}{r:List Rat}(hr:r∈Ab (zu s cs) (cs.map jX)):∃i,i<cs.length/\r=((List.range cs.length).map λj=>eF s cs i j)++[jX (cs.getD i none)]:=by
 obtain⟨i,e⟩:=aV hr;have hi:i<cs.length:=by have:=(ao.mp e).1;rw[uq]at this;exact this
 rw[SJ hi]at e;injection e with e;exact⟨i,hi,e.symm⟩
theorem Xe(ys:List Rat)(k:Nat):(((tops (cD 1 ys) ys).getD k 0:Int):Rat)=ys.getD k 0*((cD 1 ys:Nat):Rat):=by
 have h:=Jd ys k;unfold Rw.vr at h;have hB:=eY ys UY;have n:((((cD 1 ys:Nat):Int)):Rat)≠0:=λz=>by have:=Rat.intCast_eq_zero_iff.mp z;lia
 have e:((((cD 1 ys:Nat):Int)):Rat)=((cD 1 ys:Nat):Rat):=rfl;rw[<- e,<- h];show _=(((tops (cD 1 ys) ys).getD k 0:Int):Rat)/_*_
 grind
theorem U7(ys:List Rat):∀ws:List (Nat×Rat),E_ ws (tops (cD 1 ys) ys)=dw ws (λk=>ys.getD k 0)*((cD 1 ys:Nat):Rat)
 |[]=>by show(0:Rat)=0*_;rw[Rat.zero_mul]
 |w::ws=>by
  show w.2*(((tops (cD 1 ys) ys).getD w.1 0:Int):Rat)+E_ ws _=_;rw[U7 ys ws,cT,Xe]
  grind
def Wt(s:Rat)(y:Nat->Rat)(o:bN):Rat:=o.pay+s*dw o.ways y
theorem xY(s:Rat)(ys:List Rat)(o:bN):je s (tops (cD 1 ys) ys) (cD 1 ys) o=Wt s (λk=>ys.getD k 0) o*((cD 1 ys:Nat):Rat):=by
 unfold je Wt;rw[U7]
 grind
theorem QX{x z:Nat->Rat} : ∀{ws:List (Nat×Rat)},(∀w∈ws,x w.1=z w.1)->dw ws x=dw ws z
 |[],_=>rfl
 |w::ws,h=>by rw[cT,cT,h w (aO ..),QX λv hv=>h v (aJ _ hv)]
theorem Mv{x z:Nat->Rat} : ∀{ws:List (Nat×Rat)},(∀w∈ws,0<=w.2/\x w.1<=z w.1)->dw ws x<=dw ws z
 |[],_=>VW
 |w::ws,h=>by
  rw[cT,cT];have:=Mv (ws:=ws) λv hv=>h v (aJ _ hv);obtain⟨a,b⟩:=h w (aO ..);have:=UR b a
  grind
theorem Dr(x z:Nat->Rat):∀ws:List (Nat×Rat),dw ws (λj=>x j-z j)=dw ws x-dw ws z
 |[]=>by show(0:Rat)=0-0;grind
 |w::ws=>by rw[cT,cT,cT,Dr x z ws];grind
def lV(s:Rat)(y:Nat->Rat)(c:Option bN):Rat:=jX c+s*dw (gq c) y
theorem Bo{m:Nat}{s:Rat}{c:Nat->Option bN}{y z:Nat->Rat}(s0:0<=s)(s1:s<1)(hw:∀i,i<m->ShB s m (gq (c i)))(hy:∀i,i<m->y i<=lV s y (c i))(hz:∀i,i<m->z i=lV s z (c i)):∀i,i<m->y i<=z i:=λi hi=>by
 have:=sub_le s0 s1 hw (x:=λj=>y j-z j) (λi hi=>by
  rw[Dr];show y i-z i<=_;have a:=hy i hi;have b:=hz i hi;unfold lV at a b
  grind) i hi
 grind
theorem aaF{m:Nat}{s:Rat}{c:Nat->Option bN}{y z:Nat->Rat}(s0:0<=s)(s1:s<1)(hw:∀i,i<m->ShB s m (gq (c i)))(hy:∀i,i<m->y i<=lV s y (c i))(hz:∀i,i<m->z i=lV s z (c i)){i:Nat}(hi:i<m)(lt:y i<lV s y (c i)):y i<z i:=by
 have le:=Bo s0 s1 hw hy hz;have m1:=Mv (ws:=gq (c i)) (x:=y) (z:=z) λw hm=>⟨(hw i hi).nn w hm,le _ ((hw i hi).lt w hm)⟩;have m2:=UR m1 s0;have e:=hz i hi;unfold lV at lt e
 grind
theorem m6{off:List (List bN)}{pl:List (Option Nat)}{i:Nat}{d:Option Nat}(e:pl[i]?=some d):(chO off pl).getD i none=d.bind λd=>(off.getD i [])[d]?:=by
 unfold chO;rw[au,aq,List.getElem?_zipIdx,e];simp
theorem acr{s:Rat}{ys:List Rat}{ds:List bN}{d b:Nat}(hd:d<ds.length)(h:V_ (ds.map (je s (tops (cD 1 ys) ys) (cD 1 ys))) d b):b=d\/∃o p,ds[d]?=some o/\ds[b]?=some p/\Wt s (λk=>ys.getD k 0) o<Wt s (λk=>ys.getD k 0) p:=by
 rcases h with⟨_,e⟩|⟨lt,lb,_⟩
 .exact .inl e
 .rw[ak]at lb;refine .inr ⟨_,_,aj hd,aj lb,?_⟩;rw[au,au,aq,aq,aj hd,aj lb]at lt;have lt:je s (tops (cD 1 ys) ys) (cD 1 ys) ds[d]<je s (tops (cD 1 ys) ys) (cD 1 ys) ds[b]:=lt;rw[xY,xY]at lt;have hB:=eY ys UY;have p:(0:Rat)<((cD 1 ys:Nat):Rat):=by
   have:((0:Int):Rat)<(((cD 1 ys:Nat):Int):Rat):=Rat.intCast_lt_intCast.mpr (by lia);exact this
  exact(Zxs p).mp lt
theorem D_{s:Rat}{off:List (List bN)}{tp:List Int}{B:Nat}{pl aS:List (Option Nat)}(hp:PlT off pl)(h:K9 s off tp B pl aS):PlT off aS:=by
 refine⟨by rw[h.len,hp.len],λk d ds e1 e2=>?_⟩;have lk:k<pl.length:=by rw[<- h.len];exact(ao.mp e1).1
 have ek:=aj lk;have ft:=hp.ok k _ ds ek e2;cases ed:pl[k]with
 |none =>
  rw[ed]at ek ft;rw[h.none k ek]at e1;cases e1;exact ft
 |some c =>
  rw[ed]at ek ft;obtain⟨b,e3,hb⟩:=h.some k c ds ek e2;rw[e3]at e1;cases e1;have lc:c<ds.length:=of_decide_eq_true ft;rcases hb with⟨_,rfl⟩|⟨_,lb,_⟩
  .exact ft
  .rw[ak]at lb;exact Zs lb
theorem rise{s:Rat}{off:List (List bN)}{pl aS:List (Option Nat)}{ys:List Rat}{z:Nat->Rat}(s0:0<=s)(s1:s<1)(hw:∀ds∈off,∀o∈ds,ShB s off.length o.ways)(hp:PlT off pl)(h:K9 s off (tops (cD 1 ys) ys) (cD 1 ys) pl aS)
 (hy:∀i,i<off.length->ys.getD i 0=lV s (λk=>ys.getD k 0) ((chO off pl).getD i none))(hz:∀i,i<off.length->z i=lV s z ((chO off aS).getD i none)):(∀i,i<off.length->ys.getD i 0<=z i)/\∀i,i<off.length->aS[i]?≠pl[i]?->ys.getD i 0<z i:=by
 have c8:=D_ hp h;have sh:∀{ql:List (Option Nat)},PlT off ql->∀i,i<off.length->ShB s off.length (gq ((chO off ql).getD i none)):=λ{ql}hq i hi=>by
  have ei:=aj (show i<ql.length by rw[hq.len];exact hi);rw[m6 ei];cases ql[i]'(by rw[hq.len];exact hi)with
  |none=>exact⟨λ_ z=>(nomatch z),λ_ z=>(nomatch z),by show(0:Rat)<=1;decide⟩
  |some d =>
   show ShB s off.length (gq ((off.getD i [])[d]?));rw[au,aj hi];show ShB s off.length (gq (off[i][d]?));cases ed:off[i][d]? with
   |none=>exact⟨λ_ z=>(nomatch z),λ_ z=>(nomatch z),by show(0:Rat)<=1;decide⟩
   |some o=>exact hw _ (aU hi) o (aC ed)
 have de:∀i,i<off.length->(aS[i]?=pl[i]?/\ys.getD i 0=lV s (λk=>ys.getD k 0) ((chO off aS).getD i none))\/ys.getD i 0<lV s (λk=>ys.getD k 0) ((chO off aS).getD i none):=λi hi=>by
  have lp:i<pl.length:=by rw[hp.len];exact hi
  have ei:=aj lp;have eo:=aj hi;have go:off.getD i []=off[i]:=by rw[au,eo];rfl
  have g7:=hy i hi;rw[m6 ei]at g7;cases ed:pl[i]with
  |none =>
   rw[ed]at ei g7;have e':=h.none i ei;exact .inl ⟨by rw[e',ei],by rw[m6 e'];exact g7⟩
  |some d =>
   rw[ed]at ei g7;obtain⟨b,e',hb⟩:=h.some i d _ ei eo;have ld:d<(off[i]).length:=of_decide_eq_true (hp.ok i (some d) _ ei eo);rcases acr ld hb with rfl|⟨o,p,e1,e2,lt⟩
   .exact .inl ⟨by rw[e',ei],by rw[m6 e'];exact g7⟩
   .refine .inr ?_;rw[m6 e',g7];show lV s _ ((off.getD i [])[d]?)<lV s _ ((off.getD i [])[b]?);rw[go,e1,e2];exact lt
 have le1:∀i,i<off.length->ys.getD i 0<=lV s (λk=>ys.getD k 0) ((chO off aS).getD i none):=λi hi=>(de i hi).elim (λz=>by rw[<- z.2];exact VW) TZ;exact⟨Bo (y:=λk=>ys.getD k 0) s0 s1 (sh c8) le1 hz,λi hi ne=>aaF (y:=λk=>ys.getD k 0) s0 s1 (sh c8) le1 hz hi ((de i hi).resolve_left λz=>ne z.1)⟩
theorem Eo{α:Type}{g:α->PyData}(h:∀x,PyData.canLay0 (g x)=true):∀xs:List α,PyData.canLayAll0 (xs.map g)=true
 |[]=>rfl
 |x::xs=>by rw[List.map_cons];unfold PyData.canLayAll0;rw[Eo h xs,h x];rfl
theorem Iu{α:Type}{g:α->PyData}{n:Nat}(h:∀x,PyData.depth (g x)<=n):∀xs:List α,PyData.depthAll (xs.map g)<=n
 |[]=>aZ _
 |x::xs=>by
  rw[List.map_cons];unfold PyData.depthAll;have:=Iu h xs;have:=h x;lia
theorem Hx{α:Type}{g:α->PyData}{h:α->T}(e:∀x,h x=ofD (g x)):∀xs:List α,xs.map h=ZL (xs.map g)
 |[]=>rfl
 |x::xs=>by rw[List.map_cons,List.map_cons,Hx e xs,e x];rfl
theorem RN{α:Type}[DecidableEq α]{g:α->PyData}(h:∀x y,PyData.eqv (g x) (g y)=decide (x=y)):∀xs ys:List α,PyData.eqvAll (xs.map g) (ys.map g)=decide (xs=ys)
 |[],[]=>rfl
 |[],_::_=>rfl
 |_::_,[]=>rfl
 |x::xs,y::ys=>by
  rw[List.map_cons,List.map_cons];unfold PyData.eqvAll;rw[h,RN h xs ys,<- Bool.decide_and];exact decide_eq_decide.mpr ⟨λz=>by rw[z.1,z.2],λz=>List.cons.inj z⟩
structure EqD{α:Type}[DecidableEq α](h:α->T)(g:α->PyData):Prop where
 of:∀x,h x=ofD (g x)
 lay:∀x,PyData.canLay0 (g x)=true
 dep:∀x,PyData.depth (g x)<=60
 eqv:∀x y,PyData.eqv (g x) (g y)=decide (x=y)
theorem EqD.lst{α:Type}[DecidableEq α]{h:α->T}{g:α->PyData}(E:EqD h g)(xs:List α):SeqAt.shaped (.list (xs.map g))=true:=by
 have h1:PyData.canLay0 (.list (xs.map g))=true:=by unfold PyData.canLay0;exact Eo E.lay xs
 have h2:PyData.depth (.list (xs.map g))<=64:=by unfold PyData.depth;have:=Iu E.dep xs;lia
 unfold SeqAt.shaped;rw[h1,Zs h2];rfl
theorem EqD.gEq{α:Type}[DecidableEq α]{h:α->T}{g:α->PyData}(E:EqD h g){neg:Bool}{a c:List α}{q:OT->Prop}(hq:q (.fz (.bl (xr neg (decide (a=c)))))):gEq neg (.lst (a.map h)) (.lst (c.map h)) q:=by
 refine⟨.list (a.map g),.list (c.map g),ZH L2.T.lst (Hx E.of a),ZH L2.T.lst (Hx E.of c),E.lst a,E.lst c,?_⟩;unfold PyData.eqv;rw[RN E.eqv];exact hq
noncomputable def dD:Option Nat->PyData
 |none=>.none
 |some d=>.int (d:Nat)
theorem YK:EqD dT dD:=⟨λx=>by cases x<;>rfl,λx=>by cases x<;>rfl,λx=>by cases x<;>exact aZ _,λx y=>by
 cases x<;>cases y
 .rfl
 .rfl
 .rfl
 .rename_i a b
  show decide ((a:Int)=(b:Int))=_;exact decide_eq_decide.mpr ⟨λz=>by rw[Int.ofNat.inj z],λz=>by rw[Option.some.inj z]⟩⟩
noncomputable def sZ:List (List bN)->List (List (Option Nat))
 |[]=>[[]]
 |ds::off=>((if ds=[]then[none]else(List.range ds.length).map some).map λd=>(sZ off).map λpl=>d::pl).flatten
theorem Vn:∀{off:List (List bN)}{pl:List (Option Nat)},PlT off pl->pl∈sZ off
 |[],pl,h=>by
  have:=h.len;rw[List.length_eq_zero_iff.mp this];exact YR.mpr rfl
 |ds::off,[],h=>by have:=h.len;cases this
 |ds::off,d::pl,h=>by
  have ih:=Vn (off:=off) (pl:=pl) ⟨Nat.succ.inj h.len,λk d ds e1 e2=>h.ok (k+1) d ds e1 e2⟩;have ft:=h.ok 0 d ds rfl rfl;refine List.mem_flatten.mpr ⟨_,YV.mpr ⟨d,?_,rfl⟩,YV.mpr ⟨pl,ih,rfl⟩⟩;cases d with
  |none =>
   have:ds.length=0:=of_decide_eq_true ft;rw[ZY (List.length_eq_zero_iff.mp this)];exact YR.mpr rfl
  |some d =>
   have:d<ds.length:=of_decide_eq_true ft;rw[ZZ λz=>by rw[z]at this;cases this];exact YV.mpr ⟨d,List.mem_range.mpr this,rfl⟩
theorem yx{α:Type} : ∀{l l':List α},l.Nodup->(∀a∈l,a∈l')->l.length<=l'.length
 |[],_,_,_=>aZ _
 |a::l,l',nd,h=>by
  obtain⟨s,t,rfl⟩:=List.append_of_mem (h a (aO ..));have jv:=List.nodup_cons.mp nd;have:=yx (l:=l) (l':=s++t) jv.2 λb hb=>by
   have m:=h b (aJ _ hb);rcases Y1.mp m with z|z
   .exact UH _ z
   .rcases YU.mp z with y|y
    .exact absurd (y ▸ hb) jv.1
    .exact aP _ y
  rw[List.length_cons,aA,List.length_cons];rw[aA]at this;lia
def jZ(s:Rat)(off:List (List bN))(pl:List (Option Nat))(ys:List Rat):Prop:=ys.length=off.length/\∀i,i<off.length->ys.getD i 0=lV s (λk=>ys.getD k 0) ((chO off pl).getD i none)
abbrev Mnd(s:Rat)(off:List (List bN))(ys:List Rat)(pl aS:List (Option Nat)):Prop:=K9 s off (tops (cD 1 ys) ys) (cD 1 ys) pl aS
structure MnB(s:Rat)(off:List (List bN))(N:Nat):Prop where
 s0:0<=s
 s1:s<1
 few:off.length<=100
 sh:∀ds∈off,∀o∈ds,ShB s off.length o.ways
 wo:∀pl,PlT off pl->WoB s (chO off pl) N
 me:∀ys:List Rat,ys.length=off.length->(∀r∈ys,FnB ((2*off.length*N)^off.length) r)->MeB s off ys
 pls:(sZ off).length<sizeLine
theorem qw{s:Rat}{off:List (List bN)}(hw:∀ds∈off,∀o∈ds,ShB s off.length o.ways){ql:List (Option Nat)}(hq:PlT off ql)(i:Nat)(hi:i<off.length):ShB s off.length (gq ((chO off ql).getD i none)):=by
 have ei:=aj (show i<ql.length by rw[hq.len];exact hi);rw[m6 ei];cases ql[i]'(by rw[hq.len];exact hi)with
 |none=>exact⟨λ_ z=>(nomatch z),λ_ z=>(nomatch z),by show(0:Rat)<=1;decide⟩
 |some d =>
  show ShB s off.length (gq ((off.getD i [])[d]?));rw[au,aj hi];show ShB s off.length (gq (off[i][d]?));cases ed:off[i][d]? with
  |none=>exact⟨λ_ z=>(nomatch z),λ_ z=>(nomatch z),by show(0:Rat)<=1;decide⟩
  |some o=>exact hw _ (aU hi) o (aC ed)
theorem Pj{s:Rat}{off:List (List bN)}{pl:List (Option Nat)}{ys zs:List Rat}(s0:0<=s)(s1:s<1)(hw:∀ds∈off,∀o∈ds,ShB s off.length o.ways)(hp:PlT off pl)(hy:jZ s off pl ys)(hz:jZ s off pl zs)(i:Nat)(hi:i<off.length):ys.getD i 0=zs.getD i 0 :=
 Rat.le_antisymm (Bo (y:=λk=>ys.getD k 0) (z:=λk=>zs.getD k 0) s0 s1 (qw hw hp) (λi hi=>by rw[<- hy.2 i hi];exact VW) hz.2 i hi) (Bo (y:=λk=>zs.getD k 0) (z:=λk=>ys.getD k 0) s0 s1 (qw hw hp) (λi hi=>by rw[<- hz.2 i hi];exact VW) hy.2 i hi)
noncomputable abbrev PWs:=List (Option Nat)×List Rat
abbrev pwT(p:PWs):T:=.tup [.lst (p.1.map dT),.lst (p.2.map frR)]
structure Told(s:Rat)(off:List (List bN))(M:Nat)(pl:List (Option Nat))(ps:List PWs):Prop where
 hd:∀p,ps[0]?=some p->p.1=pl
 ok:∀p∈ps,PlT off p.1/\jZ s off p.1 p.2/\∀r∈p.2,FnB M r
 up:∀(k:Nat)p q,ps[k]?=some p->ps[k+1]?=some q->Mnd s off p.2 p.1 q.1/\q.1≠p.1
def More(m:Nat)(ys zs:List Rat):Prop:=(∀i,i<m->ys.getD i 0<=zs.getD i 0)/\∃i,i<m/\ys.getD i 0<zs.getD i 0
theorem More.trans{m:Nat}{xs ys zs:List Rat}(h:More m xs ys)(k:More m ys zs):More m xs zs :=
 ⟨λi hi=>US (h.1 i hi) (k.1 i hi),let⟨i,hi,l⟩:=h.2;⟨i,hi,by have:=k.1 i hi;grind⟩⟩
theorem akP{off:List (List bN)}{pl aS:List (Option Nat)}(hp:PlT off pl)(c8:PlT off aS)(n:aS≠pl):∃i,i<off.length/\aS[i]?≠pl[i]?:=by
 refine Classical.byContradiction λc=>n (Zzs λi=>?_);by_cases hi:i<off.length
 .exact Decidable.byContradiction λz=>c ⟨i,hi,z⟩
 .rw[aM (by rw[c8.len];exact VU hi),aM (by rw[hp.len];exact VU hi)]
theorem Told.step{s:Rat}{off:List (List bN)}{M N:Nat}{pl:List (Option Nat)}{ps:List PWs}(h:Told s off M pl ps)(B:MnB s off N){k:Nat}{p q:PWs}(e1:ps[k]?=some p)(e2:ps[k+1]?=some q):More off.length p.2 q.2:=by
 obtain⟨u,n⟩:=h.up k p q e1 e2;obtain⟨a1,a2,_⟩:=h.ok p (aC e1);obtain⟨b1,b2,_⟩:=h.ok q (aC e2);obtain⟨c1,c2⟩:=rise (z:=λk=>q.2.getD k 0) B.s0 B.s1 B.sh a1 u a2.2 b2.2;obtain⟨i,hi,ne⟩:=akP a1 b1 n;exact⟨c1,i,hi,c2 i hi ne⟩
theorem Told.more{s:Rat}{off:List (List bN)}{M N:Nat}{pl:List (Option Nat)}{ps:List PWs}(h:Told s off M pl ps)(B:MnB s off N){j:Nat}{p:PWs}(e1:ps[j]?=some p):∀(k:Nat){q:PWs},j<k->ps[k]?=some q->More off.length p.2 q.2
 |0,_,l,_=>absurd l (WV _)
 |k+1,q,l,e2=>by
  have lk:k<ps.length:=by have:=(ao.mp e2).1;exact Tk (X1 _) this
  have ek:=aj lk;have st:=h.step B ek e2;by_cases c:j=k
  .subst c;rw[e1]at ek;cases ek;exact st
  .exact(h.more B e1 k (XX (UZ l) c) ek).trans st
theorem Told.ne{s:Rat}{off:List (List bN)}{M N:Nat}{pl:List (Option Nat)}{ps:List PWs}(h:Told s off M pl ps)(B:MnB s off N){j k:Nat}{p q:PWs}(l:j<k)(e1:ps[j]?=some p)(e2:ps[k]?=some q):p.1≠q.1:=λz=>by
 obtain⟨_,i,hi,lt⟩:=h.more B e1 k l e2;obtain⟨a1,a2,_⟩:=h.ok p (aC e1);obtain⟨b1,b2,_⟩:=h.ok q (aC e2);rw[<- z]at b2;rw[Pj B.s0 B.s1 B.sh a1 a2 b2 i hi]at lt;exact absurd lt (by grind)
theorem Told.nodup{s:Rat}{off:List (List bN)}{M N:Nat}{pl:List (Option Nat)}{ps:List PWs}(h:Told s off M pl ps)(B:MnB s off N):(ps.map (·.1)).Nodup:=by
 refine List.pairwise_iff_getElem.mpr λi j hi hj l=>?_;rw[ak]at hi hj;rw[UU,UU];exact h.ne B l (aj hi) (aj hj)
theorem Told.len{s:Rat}{off:List (List bN)}{M N:Nat}{pl:List (Option Nat)}{ps:List PWs}(h:Told s off M pl ps)(B:MnB s off N):ps.length<=(sZ off).length:=by
 have:=yx (h.nodup B) (l':=sZ off) λa ha=>by
  obtain⟨p,hp,rfl⟩:=YV.mp ha;exact Vn (h.ok p hp).1
 rwa[ak]at this
theorem Told.snoc{s:Rat}{off:List (List bN)}{M:Nat}{pl:List (Option Nat)}{ps:List PWs}{x:PWs}(h:Told s off M pl ps)(h0:ps=[]->x.1=pl)(hx:PlT off x.1/\jZ s off x.1 x.2/\∀r∈x.2,FnB M r)(hl:∀p,ps.getLast?=some p->Mnd s off p.2 p.1 x.1/\x.1≠p.1):Told s off M pl (ps++[x]):=by
 refine⟨λp e=>?_,λp hp=>?_,λk p q e1 e2=>?_⟩
 .cases ps with
  |nil=>cases e;exact h0 rfl
  |cons y ps=>exact h.hd p e
 .rcases Y1.mp hp with z|z
  .exact h.ok p z
  .cases YR.mp z;exact hx
 .have lk:k+1<(ps++[x]).length:=(ao.mp e2).1;rw[aA,List.length_singleton]at lk;rw[aF (Nat.lt_of_succ_lt_succ lk)]at e1;by_cases c:k+1<ps.length
  .rw[aF c]at e2;exact h.up k p q e1 e2
  .rw[aD (VU c),show k+1-ps.length=0 by omega]at e2;cases e2;exact hl p (by rw[List.getLast?_eq_getElem?,show ps.length-1=k by omega];exact e1)
theorem amf{t:T}{ts:List T}{q:OT->Prop}(h:q (.fz t)):gIx (.tup (t::ts)) (.int 0) q:=h
theorem ae1{c d:RT}{o:List OT}{q:Bool->Prop}(b:Bool)(h:∀q:Bool->Prop,q b->rOr c d o q)(hq:q b):rOr c d o q:=h q hq
theorem Gq{α:Type}{h:α->T}{ps:List α}{p:α}(e:ps.getLast?=some p):ixT (ps.map h) (-1)=some (h p):=by
 show nth (ps.map h).reverse 0=_;rw[rR,<- List.map_reverse,aq,<- List.head?_eq_getElem?,List.head?_reverse,e]
 rfl
structure Ep(s:Rat)(off:List (List bN))(M:Nat)(pl:List (Option Nat))(ps:List PWs):Prop where
 told:Told s off M pl ps
 ne:ps≠[]
 last:∀p,ps.getLast?=some p->Mnd s off p.2 p.1 p.1
def Ed(D:Adr):ST:=λts R=>∃(s:Rat)(ns:Φ)(off:List (List bN))(pl:List (Option Nat))(N:Nat),ts=[hlT D s ns off,.lst (pl.map dT)]/\R5 ns off/\PlT off pl/\MnB s off N/\∀ps:List PWs,Ep s off ((2*off.length*N)^off.length) pl ps->R (.l1 (ps.map pwT))
theorem Rb(F:Fun K qL qL zx f fd)(T:Txt K mg D)(dZ:OkT P w K mg base 4 gQ gO (m5 D))(vV:OkT P w K mg base 9 oH oM (Bu D))(Ib:OkT P w K mg base 5 yu yt (Ke D)):cj P w K mg base CX0 10 f fd qP (spT K (Ed D)):=by
 refine F.okT qI (λts R hP=>by obtain⟨_,_,_,_,_,e,_⟩:=hP;exact e ▸ rfl) λag A outer s H E hr=>?_;refine⟨_,(bC (jH (bI dZ hr.md (by rfl) (bx (qv 0) (bx (qv 1) bF))))
  (bC (iu 2 qI.nd (Or.inl rfl) (d7 bF))
  (bC (bM 3 qI.nd (Or.inl rfl) (xP Lq (by rfl) T.OD boot_list (bx (qv 1) bF)))
  (bC (Ae VZ (QW.qt (nR (bY (go_eq hr.units) (LC 2 (bV dh (by rfl) T.dY W1 (bx (qv 2) bF))) bA) (k_ (bY (tO hr.units) (qv 3) (bJ (uJ 2 (zV bA)) bA)))))
  (bC (nG 2 (cW (bx (qv 3) (bx (bI vV hr.md (by rfl) (bx (qv 0) (bx (qv 3) bF))) bF))))
  (bG (bM 3 qI.nd (Or.inl rfl) (bI Ib hr.md (by rfl) (bx (qv 0) (bx (qv 3) (bx (bJ (uJ 2 (zV bA)) bA) bF))))))))
  (bG (jJ 2)))))),?_⟩
 rintro _ R ⟨s,ns,off,pl,N,rfl,h,hp,B,ok⟩;generalize eM:(2*off.length*N)^off.length=M at ok;refine⟨_,_,_,_,rfl,h,hp,?_⟩;refine⟨λm o=>∃(ps:List PWs)(cl:List (Option Nat)),o=[.fz (hlT D s ns off),.fz (.lst (pl.map dT)),.l1 (ps.map pwT),.fz (.lst (cl.map dT))]/\Told s off M pl ps/\PlT off cl/\(ps=[]->cl=pl)/\(∀p,ps.getLast?=some p->Mnd s off p.2 p.1 cl)/\m+ps.length=(sZ off).length,⟨(sZ off).length,[],pl,rfl,⟨λ_ z=>(nomatch z),λ_ z=>(nomatch z),λ_ _ _ z=>(nomatch z)⟩,hp,λ_=>rfl,λ_ z=>(nomatch z),rfl⟩,?_⟩;rintro m _ ⟨ps,cl,rfl,t,hc,c0,cu,em⟩;refine ae1 (decide (ps.getLast?.map (·.1)≠some cl)) (λq hq=>?_) (swD (λhn=>?_) λhn=>?_)
 .cases e:ps.getLast? with
  |none =>
   have e0:=List.getLast?_eq_none_iff.mp e;subst e0;exact⟨trivial,hq⟩
  |some p =>
   have n0:ps.length≠0:=λz=>by rw[List.length_eq_zero_iff.mp z]at e;cases e
   rw[e]at hq;refine⟨trivial,swF (Zp (by rw[ak];lia)) ⟨_,Gq e,?_⟩⟩;dsimp only[rC,frz];refine amf (t:=.lst (p.1.map dT)) ?_;refine YK.gEq ?_;have e2:xr true (decide (cl=p.1))=decide ((some p).map (·.1)≠some cl):=by
    by_cases c:cl=p.1
    .rw[Zs c,c];simp
     rfl
    .rw[Zp c];have:¬(p.1=cl):=λz=>c z.symm;simp[this]
     rfl
   rw[e2];exact hq
 .refine⟨λo'=>∃(ys:List Rat)(fA:List (Option Nat)),o'=[.fz (hlT D s ns off),.fz (.lst (pl.map dT)),.l1 ((ps++[(cl,ys)]).map pwT),.fz (.lst (fA.map dT))]/\jZ s off cl ys/\(∀r∈ys,FnB M r)/\Mnd s off ys cl fA,?_,?_⟩
  .rintro _ ⟨ys,fA,rfl,h1,h2,h3⟩;have t':Told s off M pl (ps++[(cl,ys)]):=t.snoc c0 ⟨hc,h1,h2⟩ λp e=>⟨cu p e,λz=>hn (by rw[e];exact ZH some z.symm)⟩;have l:=t'.len B;rw[aA,List.length_singleton]at l;refine⟨(sZ off).length-(ps.length+1),by omega,ps++[(cl,ys)],fA,rfl,t',D_ hc h3,λz=>absurd z (by simp),λp e=>?_,by rw[aA,List.length_singleton];exact Nat.sub_add_cancel l⟩;rw[List.getLast?_concat]at e;cases e;exact h3
  .have sl:(ps.map pwT).length<sizeLine:=by
    rw[ak];have:=t.len B;have:=B.pls;lia
   refine⟨s,ns,off,cl,N,rfl,h,hc,B.few,B.wo cl hc,λy hw hb=>⟨sl,?_⟩⟩;have ym:((List.range off.length).map y).map frR=(List.range off.length).map λi=>frR (y i):=by rw[WP];rfl
   have yl:((List.range off.length).map y).length=off.length:=by rw[ak,WJ]
   have yg:∀k,k<off.length->((List.range off.length).map y).getD k 0=y k:=λk hk=>by rw[au,aq,Up hk];rfl
   have fb:∀r∈(List.range off.length).map y,FnB ((2*off.length*N)^off.length) r:=λr hr=>by
    obtain⟨i,hi,rfl⟩:=YV.mp hr;exact hb i (List.mem_range.mp hi)
   have wy:jZ s off cl ((List.range off.length).map y):=⟨yl,λi hi=>by
    have sp:=qw B.sh hc;have fA:=G_ hc;rw[yg i hi,(Kw (by rw[fA];exact sp)).mp hw i (by rw[fA];exact hi)];unfold lV;rw[QX (x:=λk=>((List.range off.length).map y).getD k 0) (z:=y) λw hm=>yg w.1 ((sp i hi).lt w hm)]⟩
   rw[<- ym];have el:(ps++[(cl,(List.range off.length).map y)]).getLast?=some (cl,(List.range off.length).map y):=by simp
   have il:=Gq (h:=pwT) el;rw[bf]at il;refine⟨_,il,s,ns,off,cl,(List.range off.length).map y,rfl,h,hc,B.me _ yl fb,λfA hm=>⟨_,fA,?_,wy,eM ▸ fb,hm⟩⟩;rw[bf]
   rfl
 .have hn:ps.getLast?.map (·.1)=some cl:=Decidable.not_not.mp hn;refine ok ps ⟨t,(λz=>by rw[z]at hn;cases hn),λp e=>?_⟩;rw[e]at hn;cases hn;exact cu p e
theorem eV{i:Int}(h:i.natAbs<18446744073709551616):Bd i:=aR h (aL (by decide:18446744073709551616<=2^64) (XT (by decide) (by decide)))
noncomputable abbrev scT(ns:List Int):T:=.scr (ns.map T.int)
def z_:ST:=λts q=>∃(ns:List Int)(k:Nat),ts=[scT ns,.int (k:Nat)]/\ns.length<=100/\q (.fz (.int (ns.getD k 0)))
theorem BK{α β:Type}(h:α->β)(l:List α)(lo hi:Option Int):gJ (l.map h) lo hi=(gJ l lo hi).map h:=by unfold gJ;rw[ak,List.map_take,List.map_drop]
theorem abZ{α:Type}(l:List α)(k:Nat):gJ l (some (k:Int)) (some ((k:Int)+1))=(l.drop k).take 1:=by
 unfold gJ HT.sIx;show List.take ((if(k:Int)+1<0 then _ else min ((k:Int)+1).toNat l.length)-(if(k:Int)<0 then _ else min (k:Int).toNat l.length)) (List.drop (if(k:Int)<0 then _ else min (k:Int).toNat l.length) l)=_;rw[ZZ (by lia),ZZ (Int.not_lt_of_ge (Wp _))];by_cases h:k<l.length
 .rw[show min ((k:Int)+1).toNat l.length=k+1 by lia,show min (k:Int).toNat l.length=k by lia,show k+1-k=1 by exact JU _ _]
 .rw[show min (k:Int).toNat l.length=l.length by lia,List.drop_length,TR (VU h),List.take_nil,List.take_nil]
theorem abg(F:Fun K uD uD Uw f fd):cj P w K mg base CX0 1 f fd uK (spT K z_):=by
 refine F.okT abb (λts R hP=>by obtain⟨_,_,e,_⟩:=hP;exact e ▸ rfl) λag A outer s H E hr=>?_;refine⟨_,(bG (bQ (bJ (bK cN (j4 (qv 0) (gZ (qv 1)) (gZ (bK cN (qv 1) bA))) (d7 (bx bA bF))) bA))),?_⟩;rintro _ R ⟨ns,k,rfl,hl,q⟩;have e:gJ (ns.map L2.T.int) (some (k:Int)) (some ((k:Int)+1))=((ns.drop k).take 1).map L2.T.int:=by rw[BK,abZ]
 refine⟨?_,.int (ns.getD k 0),?_,q⟩
 .show(gJ (ns.map L2.T.int) (some (k:Int)) (some ((k:Int)+1))).length+1<=sizeLine;rw[e,ak,aY];exact aL (show _<=2 by lia) (by decide)
 .show ixT (gJ (ns.map L2.T.int) (some (k:Int)) (some ((k:Int)+1))++[L2.T.int 0]) 0=_;rw[e];by_cases h:k<ns.length
  .rw[Zzv h,List.take_succ_cons,au,aj h]
   rfl
  .rw[TR (VU h),au,aM (VU h)]
   rfl
noncomputable def strN(c:Int):Nat->Int×Int
 |0=>((c%1999999973+31)*765432101%1999999973,if c<0\/10^18<=c then(c.natAbs:Int)else 0)
 |k+1=>(((strN c k).1*((strN c k).1%65521+40487)+7*(k:Int)+5)%1999999973,(strN c k).2.fdiv 1000000)
def strm(c:Int)(k:Nat):Int:=if 0<(strN c k).2 then(strN c k).2%1000000 else(strN c (k+1)).1
theorem Wq(c:Int):∀k,0<=(strN c k).1/\(strN c k).1<1999999973
 |0=>⟨Z3 _ (by decide),YY _ (by decide)⟩
 |_+1=>⟨Z3 _ (by decide),YY _ (by decide)⟩
theorem iY(c:Int)(k:Nat):0<=strm c k/\strm c k<2000000000:=by
 unfold strm;have:=Wq c (k+1);split<;>lia
abbrev jN(c:Int)(n:Nat):List Int:=(List.range n).map (strm c)
def gR:ST:=λts q=>∃(c:Int)(n:Nat),ts=[.int c,.int (n:Nat)]/\n<=1000/\q (.l1 ((jN c n).map T.int))
theorem WR(F:Fun K fJ fJ I8 f fd)(T:Txt K mg D):cj P w K mg base CX0 1 f fd fH (spT K gR):=by
 refine F.okT jT (λts R hP=>by obtain⟨_,_,e,_⟩:=hP;exact e ▸ rfl) λag A outer s H E hr=>?_;refine⟨_,(bC (iu 2 jT.nd (Or.inl rfl) (d7 bF))
  (bC (bM 3 jT.nd (Or.inl rfl) (bK cC (bK cB (bK cN (bK cC (qv 0) bA) bA) bA) bA))
  (bC (bM 4 jT.nd (Or.inl rfl) bA)
  (bC (cG (QW.qt (nR (bY uY (qv 0) bA) (k_ (bY Zz (qv 0) (bK TJ bA bA)))))
  (bG (bM 4 jT.nd (Or.inl rfl) (bV HS (by rfl) T.PB boot_abs (bx (qv 0) bF))))
  bT)
  (bC (dB VZ rfl (cY (by rfl) T.dO (bx (qv 1) bF)) (b_ (n:=99) 5 jT.nd (Or.inl rfl))
  (bC (bM 3 jT.nd (Or.inl rfl) (bK cC (bK cN (bK cN (bK cB (qv 3) (bK cN (bK cC (qv 3) bA) bA)) (bK cB bA (qv 5))) bA) bA))
  (bC (nG 2 (bJ (d7 (bx (qv 3) (bx (bK cC (qv 4) bA) bF))) (xP af9 (by rfl) T.adR boot_int (bx (Dt El (qv 4) bA) bF))))
  (bG (bM 4 jT.nd (Or.inl rfl) (bK mF (qv 4) bA))))))
  (bG (jJ 2))))))),?_⟩
 rintro _ R ⟨c,n,rfl,hn,q⟩;refine sq4 (λo=>o=[.fz (.int c),.fz (.int (n:Nat)),.l1 [],.fz (.int (strN c 0).1),.fz (.int (strN c 0).2),.und]) ?_ λY go=>?_
 .rintro _ rfl;refine⟨⟨by lia,by lia⟩,?_⟩;refine jr (λk o=>∃x,o=[.fz (.int c),.fz (.int (n:Nat)),.l1 ((jN c k).map L2.T.int),.fz (.int (strN c k).1),.fz (.int (strN c k).2),x]) ⟨_,rfl⟩ ?_ ?_
  .rintro k _ hk ⟨x,rfl⟩;have b:=Wq c k;refine⟨by decide,⟨eV (by lia),eV (by lia)⟩,⟨eV (by decide),eV (by lia)⟩,by decide,by decide,.int (strm c k),?_,?_,⟨by decide,eV (by decide)⟩,.fz (.int k),?_⟩
   .by_cases h:0<(strN c k).2
    .rw[Zs h];unfold strm;rw[ZY h]
     rfl
    .rw[Zp h];unfold strm;rw[ZZ h]
     rfl
   .rw[ak,ak,WJ];exact aR (show k<1001 by lia) (by decide)
   .rw[show jN c (k+1)=jN c k++[strm c k]by simp[jN,List.range_succ],bf]
    rfl
  .rintro _ ⟨x,rfl⟩;exact q
 .refine⟨by decide,⟨eV (by lia),eV (by decide)⟩,by decide,?_⟩;refine swD (λh=>go _ ?_) λh=>⟨⟨by decide,by decide,by decide⟩,swD (λh'=>go _ ?_) λh'=>go _ ?_⟩
  .show _=[_,_,_,_,OT.fz (L2.T.int (if c<0\/10^18<=c then(c.natAbs:Int)else 0)),_];rw[ZY (.inl h)]
   rfl
  .show _=[_,_,_,_,OT.fz (L2.T.int (if c<0\/10^18<=c then(c.natAbs:Int)else 0)),_];rw[ZY (.inr h')]
   rfl
  .show _=[_,_,_,_,OT.fz (L2.T.int (if c<0\/10^18<=c then(c.natAbs:Int)else 0)),_];rw[ZZ (λz=>z.elim h h')]
   rfl
def aa4:ST:=λts q=>∃a b:Int,ts=[.int a,.int b]/\q (.fz (.int (Int.gcd a b)))
theorem aeS(F:Fun K Lh Lh aaE f fd)(T:Txt K mg D):cj P w K mg base CX0 1 f fd NZ (spT K aa4):=by
 refine F.okT Mu (λts R hP=>by obtain⟨_,_,e,_⟩:=hP;exact e ▸ rfl) λag A outer s H E hr=>?_;refine⟨_,(bC (Ui (bV WD (by rfl) T.Yw boot_sorted (bx (d7 (bx (bV HS (by rfl) T.PB boot_abs (bx (qv 0) bF)) (bx (bV HS (by rfl) T.PB boot_abs (bx (qv 1) bF)) bF))) bF)) (agq (n:=2) rfl (bR (b_ (n:=99) 2 Mu.nd (Or.inl rfl)) (bR (b_ (n:=99) 3 Mu.nd (Or.inl rfl)) dF))))
  (bC (Ae VZ (bY El (qv 2) bA)
  (bG (agi 2 3 rfl Mu.nd (by decide) (bx (bK cC (qv 3) (qv 2)) (bx (qv 2) bF)))))
  (bG (bQ (qv 3))))),?_⟩
 rintro _ R ⟨a,b,rfl,q⟩;refine⟨[(a.natAbs:Int),(b.natAbs:Int)],rfl,by simp,λms pm so=>?_⟩;obtain⟨l,h,rfl,hg⟩ : ∃l h:Nat,ms=[(l:Int),(h:Int)]/\Nat.gcd l h=Int.gcd a b:=by
  have ln:=pm.length_eq
  match ms,ln with
  |[x,y],_ =>
   have hx:x=(a.natAbs:Int)\/x=(b.natAbs:Int):=by simpa using pm.subset (aO ..)
   rcases hx with rfl|rfl
   .have:=(List.perm_cons _).mp pm;have:=List.perm_singleton.mp this;cases this;exact⟨_,_,rfl,rfl⟩
   .have:=(List.perm_cons _).mp (pm.trans (List.Perm.swap _ _ _));have:=List.perm_singleton.mp this;cases this;exact⟨_,_,rfl,Nat.gcd_comm _ _⟩
 refine⟨rfl,λm o=>∃(l h:Nat),o=[.fz (.int a),.fz (.int b),.fz (.int l),.fz (.int h)]/\Nat.gcd l h=Int.gcd a b/\m=l,⟨_,_,_,rfl,hg,rfl⟩,?_⟩;rintro m _ ⟨l,h,rfl,hg,rfl⟩;refine swD (λhl=>?_) λhl=>?_
 .refine⟨λo=>o=[.fz (.int a),.fz (.int b),.fz (.int ((h%m:Nat):Int)),.fz (.int m)],?_,?_⟩
  .rintro _ rfl;exact⟨h%m,Nat.mod_lt _ (by lia),h%m,m,rfl,(Nat.gcd_rec m h).symm.trans hg,rfl⟩
  .exact⟨hl,by rw[Int.natCast_emod];rfl⟩
 .have:m=0:=by lia
  subst this;rw[Nat.gcd_zero_left]at hg;rw[<- hg]at q;exact q
def xZ:ST:=λts q=>∃a b:Int,ts=[.int a,.int b]/\0<b/\Bd b/\q (.fz (frR (Rat.divInt a b)))
theorem XS(F:Fun K pF pF Jb f fd)(mI:OkT P w K mg base 1 Lh NZ aa4):cj P w K mg base CX0 2 f fd pA (spT K xZ):=by
 refine F.okT Kg (λts R hP=>by obtain⟨_,_,e,_⟩:=hP;exact e ▸ rfl) λag A outer s H E hr=>?_;refine⟨_,(bC (bM 2 Kg.nd (Or.inl rfl) (bI mI hr.md (by rfl) (bx (qv 0) (bx (qv 1) bF))))
  (bG (bQ (cW (bx (bK mF (qv 0) (qv 2)) (bx (bK mF (qv 1) (qv 2)) bF)))))),?_⟩
 rintro _ R ⟨a,b,rfl,hb,hd,q⟩;have nb:b≠0:=by exact WS hb
 have g0:=mK (a:=a) nb;have g1:=U0 (a:=a) nb hd;refine⟨_,_,rfl,⟨by exact WS g0,g1⟩,⟨by exact WS g0,g1⟩,?_⟩;have l:=wU (t:=a) nb (c:=(Int.gcd a b:Nat)) (WS g0) (by lia) (XZ g0 hb);rw[<- iZ l nb]at q;exact q
noncomputable def WT(c:Nat):Bool:=decide (97<=c)&&decide (c<=122)
noncomputable def ltL:List Nat:=(Str.ofString "abcdefghijklmnopqrstuvwxyz").cps.toList
theorem agt:∀i:Fin 26,nth ltL i.val=some (97+i.val):=by decide +kernel
theorem aaq{i:Int}(h0:0<=i)(h1:i<26):ixT ltL i=some (97+i.toNat):=by
 obtain⟨k,rfl⟩:=Zwv h0;exact agt ⟨k,by lia⟩
theorem Tf{n:Nat}(h:n<26):WT (97+n)=true:=by
 unfold WT;rw[Zs (show 97<=97+n by exact X2 _ _),Zs (show 97+n<=122 by lia)];rfl
theorem o7(x:Str):x.cps.toList.length=x.length:=Array.length_toList
theorem Vw(x y:Str):(x++y).cps.toList=x.cps.toList++y.cps.toList:=by
 show(x.cps++y.cps).toList=_;rw[Array.toList_append]
theorem aco(x y:Str):(x++y).length=x.length+y.length:=by
 show(x.cps++y.cps).size=_;rw[Array.size_append];rfl
theorem YJ{x:Str}{n:Nat} : (Fl x none (some (n:Int))).cps.toList=x.cps.toList.take n:=by
 unfold Fl;have hl:x.cps.toList.length=x.length:=Array.length_toList;show((x.cps.toList.drop 0).take (HT.sIx x.length x.length (some (n:Int))-0))=_;rw[HT.xX,List.drop_zero,Nat.sub_zero,<- hl];rw[List.take_eq_take_iff];lia
theorem Rm{x:Str}{n:Nat} : (Fl x (some (n:Int)) none).cps.toList=x.cps.toList.drop n:=by
 unfold Fl;have hl:x.cps.toList.length=x.length:=Array.length_toList;show((x.cps.toList.drop (HT.sIx x.length 0 (some (n:Int)))).take (x.length-HT.sIx x.length 0 (some (n:Int))))=_;rw[HT.xX,<- hl];by_cases h:n<=x.cps.toList.length
 .rw[Nat.min_eq_left h];exact Zzu (by rw[TW];exact aG _)
 .rw[TR (by lia:x.cps.toList.length<=n),TR (by lia),List.take_nil]
theorem Vd{α:Type}{ys:List α}{a b:Nat}(ab:a<=b)(h:b<=ys.length):gJ ys (some (a:Int)) (some (b:Int))=(ys.drop a).take (b-a):=by
 unfold gJ;rw[HT.xX,HT.xX,Nat.min_eq_left h,Nat.min_eq_left (aL ab h)]
theorem adQ{x:Str}(h:x.cps.toList.all WT=true)(lo:1<=x.length)(hi:x.length<=8):Wd x:=by
 unfold Wd Wh;rw[o7,Zs lo,Zs hi];exact h
structure Nms(ns:Φ)(n:Nat):Prop where
 len:ns.length=n
 nd:ns.Nodup
 wd:∀x∈ns,Wd x
theorem Wm{R:Nat->Str->Prop}{n:Nat}{ns:Φ}(h:∀(i:Nat)x,ns[i]?=some x->R i x)(l:ns.length=n)(u:∀i j x,i<j->j<n->R i x->R j x->False):ns.Nodup:=by
 unfold List.Nodup;rw[List.pairwise_iff_getElem];intro i j hi hj ij e;exact u i j ns[i] ij (l ▸ hj) (h i _ (aj hi)) (by rw[e];exact h j _ (aj hj))
theorem Kz{g:HG}{c:RT}{e:RE}{o:List OT}{q:List T->Prop}(R:Nat->Str->Prop)(n:Nat)(st:∀k,k<n->∀(N:T->Prop)(M:Prop),(∀x,R k x->N (.str x))->g (.int (k:Nat)) o λo'=>c o' λb=>sw b (e o' λy=>N (frz y)) M)(k:∀ns:Φ,ns.length=n->(∀(i:Nat)x,ns[i]?=some x->R i x)->q (ns.map T.str)):jd g c e o (rng 0 n) q:=by
 have go:∀(m j:Nat),j+m=n->∀(us:Φ),us.length=j->(∀(i:Nat)x,us[i]?=some x->R i x)->∀{q:List T->Prop},(∀ns:Φ,ns.length=n->(∀(i:Nat)x,ns[i]?=some x->R i x)->(∃vs,ns=us++vs/\q (vs.map T.str))\/¬∃vs,ns=us++vs)->jd g c e o ((List.range' j m).map λk:Nat=>.int ((0:Int)+k)) q:=by
  intro m
  induction m with
  |zero =>
   intro j ej us lu hu q hq;rcases hq us (by lia) hu with⟨vs,e,z⟩|z
   .have:vs=[]:=by simpa using e
    rw[this]at z;exact z
   .exact absurd ⟨[],(List.append_nil us).symm⟩ z
  |succ m ih =>
   intro j ej us lu hu q hq;rw[List.range'_succ,List.map_cons];refine Xi ?_;rw[Int.zero_add];refine st j (by lia) (λt=>jd g c e o ((List.range' (j+1) m).map λk:Nat=>.int ((0:Int)+k)) λus=>q (t::us)) (jd g c e o ((List.range' (j+1) m).map λk:Nat=>.int ((0:Int)+k)) q) λx hx=>?_;refine ih (j+1) (by lia) (us++[x]) (by simp[lu]) (λi y ey=>?_) λns ln hn=>?_
   .by_cases hi:i<us.length
    .rw[aF hi]at ey;exact hu i y ey
    .have hl:=(ao.mp ey).1;rw[aA,List.length_singleton]at hl;have:i=us.length:=by lia
     subst this;rw[aD (aG _),Zzy]at ey;cases ey;exact lu ▸ hx
   .by_cases z:∃vs,ns=us++[x]++vs
    .obtain⟨vs,e⟩:=z;refine .inl ⟨vs,e,?_⟩;rcases hq ns ln hn with⟨ws,e',q'⟩|z
     .rw[e,WZ]at e';have:=List.append_cancel_left e';rw[<- this]at q';exact q'
     .exact absurd ⟨x::vs,by rw[e,WZ];rfl⟩ z
    .exact .inr z
 have:=go n 0 (Nat.zero_add _) [] rfl (λi x z=>by cases z) (q:=q) λns ln hn=>.inl ⟨ns,rfl,k ns ln hn⟩;rw[<- List.range_eq_range']at this;exact this
def nm1(c:Nat)(i:Nat)(x:Str):Prop:=x.cps.toList=List.replicate (i+1) c
def nm2(b:List Nat)(at_:Nat)(x0 st:Int)(i:Nat)(x:Str):Prop:=x.cps.toList=b.take at_++(97+((x0+st*i)%26).toNat)::b.drop at_
theorem abY{b:List Nat}{at_:Nat}{x0 st:Int}{i j:Nat}{x:Str}(hs:st=1\/st=3\/st=5\/st=7\/st=9\/st=11)(ij:i<j)(hj:j<26)(h1:nm2 b at_ x0 st i x)(h2:nm2 b at_ x0 st j x):False:=by
 have e:=h1.symm.trans h2;have e:=List.append_cancel_left e;injection e with e _;rcases hs with rfl|rfl|rfl|rfl|rfl|rfl<;>omega
theorem afV{c i:Nat}{x:Str}(hc:WT c=true)(hi:i<8)(h:nm1 c i x):Wd x:=by
 have l:=o7 x;rw[h,aN]at l;refine adQ ?_ (by lia) (by lia);rw[h,Zxr];intro d hd;rw[(List.mem_replicate.mp hd).2];exact hc
theorem aes{b:List Nat}{at_:Nat}{x0 st:Int}{i:Nat}{x:Str}(hb:b.all WT=true)(hl:b.length<=7)(h:nm2 b at_ x0 st i x):Wd x:=by
 have l:=o7 x;rw[h,aA,List.length_cons,aY,TW]at l;refine adQ ?_ (by lia) (by omega);rw[h,Zxr];rw[Zxr]at hb;intro d hd;rcases Y1.mp hd with hd|hd
 .exact hb d (List.mem_of_mem_take hd)
 .rcases YU.mp hd with rfl|hd
  .exact Tf (by lia)
  .exact hb d (List.mem_of_mem_drop hd)
theorem Kc:∀(ys:Φ)(acc:Array Nat),(ys.foldl (λacc p=>acc++(Str.ofString "").cps++p.cps) acc).toList=acc.toList++(ys.map λy=>y.cps.toList).flatten
 |[],acc=>by simp
 |y::ys,acc=>by
  have e0:(Str.ofString "").cps = #[]:=by decide +kernel
  rw[List.foldl_cons,Kc ys,e0,Array.append_empty,Array.toList_append,List.map_cons,List.flatten_cons,WZ]
theorem glue(ys:Φ):(Txt.join (Str.ofString "") ys).cps.toList=(ys.map λy=>y.cps.toList).flatten:=by
 show((ys.drop 1).foldl (λacc p=>acc++(Str.ofString "").cps++p.cps) (ys.headD Str.empty).cps).toList=_;rw[Kc];cases ys with
 |nil=>rfl
 |cons y ys=>rfl
theorem aga{c d:RT}{x y z:RS}{E:DT}{o:List OT}(b:Bool)(h:∀q:Bool->Prop,q b->afM c d o q)(hq:sw b (x { E with nx:=z E } o) (y { E with nx:=z E } o)):jf (akD (afM c d) x y) z E o:=h (λk=>sw k (x { E with nx:=z E } o) (y { E with nx:=z E } o)) hq
def RD:ST:=λts q=>∃(c:Int)(n:Nat),ts=[.int c,.int (n:Nat)]/\n<=26/\∀ns:Φ,Nms ns n->q (.l1 (ns.map T.str))
theorem dM{c:Int}{n k:Nat}(h:k<n):ixT ((jN c n).map T.int) (k:Nat)=some (.int (strm c k)):=by
 show nth ((jN c n).map T.int) k=_;rw[rR,aq,aq,Up h];rfl
theorem aas(F:Fun K Ad Ad xQ f fd)(T:Txt K mg D)(cJ:OkT P w K mg base 1 fJ fH gR):cj P w K mg base CX0 2 f fd Aj (spT K RD):=by
 refine F.okT tL (λts R hP=>by obtain⟨_,_,e,_⟩:=hP;exact e ▸ rfl) λag A outer s H E hr=>?_;refine⟨_,(bC (bM 2 tL.nd (Or.inr rfl) uL)
  (bC (bM 3 tL.nd (Or.inr rfl) (bI cJ hr.md (by rfl) (bx (qv 0) (bx bA bF))))
  (bC (cG (QW.qt (Il (bY (go_eq hr.units) (bK cC (bJ (qv 3) bA) bA) bA) (C_ (bY Rh (qv 1) bA))))
  (bG (bQ (dI (bH xQ) uI uI ["_law_k"] (cY (by rfl) T.dO (bx (qv 1) bF)) (fj (i:=0)) cI (bK cB (bJ (qv 3) (bK cC (bJ (qv 4) bA) bA)) (bK cN (qv 0) bA)))))
  bT)
  (bC (bM 4 tL.nd (Or.inr rfl) (abV uL (bx (dI (bH xQ) uI uI ["_law_x"] (cH (j4 (qv 3) (gZ bA) (gZ (bK cN bA (bK cC (bJ (qv 3) bA) bA))))) (fj (i:=0)) cI (bJ (qv 3) (bK cC (qv 0) bA))) bF)))
  (bC (bM 5 tL.nd (Or.inr rfl) (bK cC (bJ (qv 3) bA) bA))
  (bC (bM 6 tL.nd (Or.inr rfl) (bJ (d7 (bx bA (bx bA (bx bA (bx bA (bx bA (bx bA bF))))))) (bK cC (bJ (qv 3) bA) bA)))
  (bG (bQ (dI (bH xQ) uI uI ["_law_k"] (cY (by rfl) T.dO (bx (qv 1) bF)) (fj (i:=0)) cI (bK cN (bK cN (j4 (qv 5) Gj (gZ (qv 6))) (bJ (qv 3) (bK cC (bK cN (bJ (qv 4) bA) (bK cB (qv 7) (qv 0))) bA))) (j4 (qv 5) (gZ (qv 6)) Gj))))))))))),?_⟩
 rintro _ R ⟨c,n,rfl,hn,q⟩;refine⟨c,11,rfl,by decide,?_⟩;have s0:=iY c 0;have s1:=iY c 1;have lL:(Str.ofString "abcdefghijklmnopqrstuvwxyz").length<=sizeLine:=aL (show _<=1000 by decide +kernel) (by decide);have rl:(rng 0 n).length<=sizeLine:=by rw[rng,ak,WJ];exact aL hn (by decide)
 dsimp only;refine aga (decide (strm c 0%3=1)&&decide ((n:Int)<=8)) (λq hq=>?_) ?_
 .refine⟨_,dM (k:=0) (by decide),by decide,?_⟩;refine swD (λh=>?_) λh=>?_
  .rw[Zs h,Bool.true_and]at hq;exact hq
  .rw[Zp h,Bool.false_and]at hq;exact hq
 .refine sw2 (λhb=>?_) λhb=>?_
  .simp only[Zzt,decide_eq_true_eq]at hb;refine⟨⟨by lia,by lia⟩,rl,Kz (nm1 (97+(strm c 1%26).toNat)) n (λk hk N M hN=>?_) λns ln d6=>q ns ⟨ln,Wm d6 ln λi j x ij hj h1 h2=>?_,λx hx=>?_⟩⟩
   .refine⟨_,dM (k:=1) (by decide),by decide,lL,_,aaq (Z3 _ (by decide)) (YY _ (by decide)),_,rfl,by lia,by lia,λz hz=>hN z ?_⟩;rw[show((k:Int)+1).toNat=k+1 by lia]at hz;exact hz
   .have:=ZH List.length (h1.symm.trans h2);rw[aN,aN]at this;lia
   .obtain⟨i,hi⟩:=aV hx;have li:=(ao.mp hi).1;exact afV (Tf (by lia)) (by lia) (d6 i x hi)
  .obtain⟨m,em,hm⟩ : ∃m:Nat,strm c 1%8=m/\m<=7:=⟨(strm c 1%8).toNat,by lia,by lia⟩;have ec:gJ ((jN c 11).map L2.T.int) (some 2) (some (2+strm c 1%8))=(((jN c 11).drop 2).take m).map L2.T.int:=by
    rw[em,BK];have:=Vd (ys:=jN c 11) (a:=2) (b:=2+m) (X2 _ _) (by rw[ak,WJ];lia);rw[show 2+m-2=m by exact JU _ _]at this;exact ZH (List.map L2.T.int) this
   have ml:(((jN c 11).drop 2).take m).length=m:=by rw[aY,TW,ak,WJ];lia
   refine⟨_,dM (k:=1) (by decide),by decide,?_⟩;dsimp only[frz];show(gJ ((jN c 11).map L2.T.int) (some 2) (some (2+strm c 1%8))).length<=sizeLine/\_;rw[ec];have c26:∀x∈((jN c 11).drop 2).take m,0<=x:=λx hx=>by
    obtain⟨k,_,rfl⟩:=YV.mp (List.mem_of_mem_drop (List.mem_of_mem_take hx));exact(iY c k).1
   generalize((jN c 11).drop 2).take m=us at ml c26 ⊢;have e0:(Str.ofString "").length=0:=by decide +kernel
   refine⟨by rw[ak,ml];exact aL hm (by decide),comp_map L2.T.int (λx=>.str ⟨#[97+(x%26).toNat]⟩) us (λx hx N M hN=>⟨by decide,lL,_,aaq (Z3 _ (by decide)) (YY _ (by decide)),hN⟩) ⟨us.map λx=>⟨#[97+(x%26).toNat]⟩,by rw[WP];rfl,?_,?_⟩⟩
   .rw[e0,Nat.mul_zero,Nat.add_zero,WP,show((λx:Str=>x.length) ∘ λx:Int=>(⟨#[97+(x%26).toNat]⟩ : Str))=λ_=>1 from rfl,List.map_const',List.sum_replicate_nat];lia
   have bc:(Txt.join (Str.ofString "") (us.map λx=>(⟨#[97+(x%26).toNat]⟩ : Str))).cps.toList=us.map λx=>97+(x%26).toNat:=by
    rw[glue,WP]
    clear ml c26 ec
    induction us with
    |nil=>rfl
    |cons x us ih=>rw[List.map_cons,List.flatten_cons,ih];rfl
   have bl:(Txt.join (Str.ofString "") (us.map λx=>(⟨#[97+(x%26).toNat]⟩ : Str))).length<=7:=by rw[<- o7,bc,ak];exact aL (WG ml) hm
   have ba:(us.map λx=>97+(x%26).toNat).all WT=true:=by
    rw[Zxr];intro d hd;obtain⟨x,hx,rfl⟩:=YV.mp hd;exact Tf (by lia)
   rw[<- bc]at ba;generalize Txt.join (Str.ofString "") (us.map λx=>(⟨#[97+(x%26).toNat]⟩ : Str))=st at bl ba ⊢
   clear bc
   have s9:=iY c 9;have s10:=iY c 10;obtain⟨ap,eap,l4⟩ : ∃ap:Nat,strm c 9%8=ap/\ap<=7:=⟨(strm c 9%8).toNat,by lia,by lia⟩;obtain⟨sv,es,hs⟩ : ∃sv:Int,ixT [L2.T.int 1,L2.T.int 3,L2.T.int 5,L2.T.int 7,L2.T.int 9,L2.T.int 11] (strm c 10%6)=some (.int sv)/\(sv=1\/sv=3\/sv=5\/sv=7\/sv=9\/sv=11):=by
    obtain e|e|e|e|e|e:strm c 10%6=0\/strm c 10%6=1\/strm c 10%6=2\/strm c 10%6=3\/strm c 10%6=4\/strm c 10%6=5:=by lia
    .exact⟨1,by rw[e];rfl,by decide⟩
    .exact⟨3,by rw[e];rfl,by decide⟩
    .exact⟨5,by rw[e];rfl,by decide⟩
    .exact⟨7,by rw[e];rfl,by decide⟩
    .exact⟨9,by rw[e];rfl,by decide⟩
    .exact⟨11,by rw[e];rfl,by decide⟩
   have z7:(16:Nat)<=sizeLine:=by decide
   refine⟨_,dM (k:=9) (by decide),by decide,?_⟩;dsimp only[frz];rw[eap];refine⟨_,dM (k:=10) (by decide),by decide,_,es,⟨by lia,by lia⟩,rl,Kz (nm2 st.cps.toList ap (strm c 0) sv) n (λk hk N M hN=>?_) λns ln d6=>q ns ⟨ln,Wm d6 ln λi j x ij hj h1 h2=>abY hs ij (aR hj hn) h1 h2,λx hx=>?_⟩⟩
   .have t1:(Fl st none (some (ap:Int))).length<=7:=by rw[<- o7,YJ,aY,o7];lia
    have t2:(Fl st (some (ap:Int)) none).length<=7:=by rw[<- o7,Rm,TW,o7];exact aL (Nat.sub_le _ _) bl
    have t3:∀d:Nat,({ cps:=#[d] } : Str).length=1:=λ_=>rfl;refine⟨by exact aL bl (by decide),_,dM (k:=0) (by decide),⟨eV (by lia),eV (by lia)⟩,by decide,lL,_,aaq (Z3 _ (by decide)) (YY _ (by decide)),by rw[t3];lia,by exact aL bl (by decide),by rw[aco,t3];lia,hN _ ?_⟩;unfold nm2;rw[Vw,Vw,YJ,Rm,WZ];rfl
   .obtain⟨i,hi⟩:=aV hx;exact aes ba (by rw[o7];exact bl) (d6 i x hi)
theorem YT{α:Type}(l:List α)(h:α->T){i:Int}(h0:0<=i)(h1:i<l.length):∃a∈l,ixT (l.map h) i=some (h a):=by
 obtain⟨k,rfl⟩:=Zwv h0;have hk:k<l.length:=by lia
 refine⟨l[k],aU hk,?_⟩;show nth (l.map h) k=_;rw[rR,aq,aj hk];rfl
theorem div_pos{a b:Int}(hb:0<b):(Rat.divInt a b).den<=b.toNat/\(Rat.divInt a b).num.natAbs<=a.natAbs:=by
 have l:=wU (t:=a) (b:=b) (c:=(Int.gcd a b:Nat)) (WS hb) (by have:=mK (a:=a) (b:=b) (WS hb);exact WS this) (by lia) (XZ (mK (WS hb)) hb);have e:=iZ l (WS hb);injection e with e;injection e with e1 e2;injection e2 with e2 _;injection e1 with e1;injection e2 with e2;have h1:=l.lx;have h2:=l.ly;have h3:=l.pos;have e1:a.fdiv ((Int.gcd a b:Nat):Int)=(Rat.divInt a b).num:=e1;have e2:b.fdiv ((Int.gcd a b:Nat):Int)=((Rat.divInt a b).den:Nat):=e2;rw[e1]at h1;rw[e2]at h2 h3;omega
theorem Ti{a b:Int}(ha:0<=a)(h:a<b):0<=Rat.divInt a b/\Rat.divInt a b<1:=by
 have hb:0<b:=by exact Int.lt_of_le_of_lt ha h
 refine⟨Zyx ha (XY hb),?_⟩;have e:Rat.divInt a b=(a:Rat)/(b:Rat):=UK a b;rw[e];have fg:(0:Rat)<(b:Rat):=by exact_mod_cast hb
 rw[Rat.div_lt_iff fg,Rat.one_mul]
 exact_mod_cast h
structure Shr(s:Rat):Prop where
 lo:0<=s
 hi:s<1
 den:s.den<=100
def Qf:ST:=λts q=>∃c:Int,ts=[.int c]/\∀s:Rat,Shr s->q (.fz (frR s))
theorem aaU(F:Fun K Ag Ag Np f fd)(T:Txt K mg D)(cJ:OkT P w K mg base 1 fJ fH gR)(iz:OkT P w K mg base 2 pF pA xZ):cj P w K mg base CX0 3 f fd Ai (spT K Qf):=by
 refine F.okT GZ (λts R hP=>by obtain⟨_,e,_⟩:=hP;exact e ▸ rfl) λag A outer s H E hr=>?_;refine⟨_,(bC (bM 1 GZ.nd (Or.inl rfl) (bI cJ hr.md (by rfl) (bx (qv 0) (bx bA bF))))
  (bC (bM 2 GZ.nd (Or.inl rfl) (bK cN bA (bK cC (bJ (qv 1) bA) (bJ (d7 (bx bA (bx bA (bx bA (bx bA bF))))) (bK cC (bJ (qv 1) bA) bA)))))
  (bG (bQ (bI iz hr.md (by rfl) (bx (bK cC (bJ (qv 1) bA) (qv 2)) (bx (qv 2) bF))))))),?_⟩
 rintro _ R ⟨c,rfl,q⟩;have s0:=iY c 0;have s1:=iY c 1;have s2:=iY c 2;refine⟨c,3,rfl,by decide,_,dM (k:=0) (by decide),_,dM (k:=1) (by decide),by decide,?_⟩;obtain⟨d,hd,ed⟩:=YT [4,6,10,100] L2.T.int (i:=strm c 1%4) (Z3 _ (by decide)) (by show strm c 1%4<4;exact YY _ (by decide));have d0:0<d/\d<=100:=by simp at hd;lia
 refine⟨_,ed,d0.1,?_⟩;have b0:0<1+strm c 0%d/\1+strm c 0%d<=100:=by
  have:=Z3 (strm c 0) (show d≠0 by lia);have:=YY (strm c 0) d0.1;lia
 refine⟨_,dM (k:=2) (by decide),b0.1,_,_,rfl,b0.1,eV (by omega),q _ ?_⟩;generalize 1+strm c 0%d=b at b0 ⊢;have a0:=Z3 (strm c 2) (show b≠0 by lia);have a1:=YY (strm c 2) b0.1;obtain⟨x,y⟩:=Ti a0 a1;exact⟨x,y,by have:=(div_pos (a:=strm c 2%b) b0.1).1;lia⟩
structure Pay(p:Rat):Prop where
 num:p.num.natAbs<=10^30
 den:p.den<=1000
def ZX:ST:=λts q=>∃c x y:Int,ts=[.int c,.int x,.int y]/\(0<=x/\x<2000000000)/\(0<=y/\y<2000000000)/\∀p:Rat,Pay p->q (.fz (frR p))
theorem afS(F:Fun K N7 N7 Yd f fd)(T:Txt K mg D)(iz:OkT P w K mg base 2 pF pA xZ):cj P w K mg base CX0 3 f fd MN (spT K ZX):=by
 refine F.okT ad9 (λts R hP=>by obtain⟨_,_,_,e,_⟩:=hP;exact e ▸ rfl) λag A outer s H E hr=>?_;refine⟨_,(bC (cG (bY uY (bK cC (qv 1) bA) bA)
  (bG (bQ (cW (bx (bK mj (bK cC (qv 2) bA) bA) (bx bA bF)))))
  bT)
  (bC (cG (bY uY (bK cC (qv 1) bA) bA)
  (bG (bQ (bI iz hr.md (by rfl) (bx (bK mj (bK cC (qv 2) bA) bA) (bx (bK cN bA (bK cC (bK mF (qv 1) bA) bA)) bF)))))
  bT)
  (bC (cG (bY (go_eq hr.units) (bK cC (qv 1) bA) bA)
  (bG (bQ (cW (bx (bK mj (bK cC (qv 0) bA) bA) (bx bA bF)))))
  bT)
  (bG (bQ (bI iz hr.md (by rfl) (bx (bK mj (bK cC (bK cN (bK V8 (qv 0) bA) (qv 2)) (bK cN (bK cB bA (bK TJ bA bA)) bA)) (bK TJ bA bA)) (bx (bK cN bA (bK cC (bK mF (qv 1) bA) bA)) bF)))))))),?_⟩
 rintro _ R ⟨c,x,y,rfl,hx,hy,q⟩;have b30:Bd (10^30):=Y3 (aG _) (by decide +kernel);have lo:∀a b:Int,0<b->a.natAbs<=10^30->b<=1000->R (.fz (frR (Rat.divInt a b))):=λa b h0 h1 h2=>by
  obtain⟨x,y⟩:=div_pos (a:=a) h0;exact q _ ⟨aL y h1,by lia⟩
 have one:∀a:Int,a.natAbs<=10^30->R (.fz (.tup [.int a,.int 1])):=λa h=>q (a:Rat) ⟨h,show(1:Nat)<=1000 by decide⟩;have d8:x.fdiv 8=x/8:=Zyu _ (by decide);refine⟨by decide,swD (λh=>⟨by decide,one _ (by lia)⟩) λh=>⟨by decide,swD (λh=>⟨by decide,⟨by decide,eV (by decide)⟩,by decide,?_⟩) λh=>⟨by decide,swD (λh=>⟨by decide,one _ (by lia)⟩) λh=>?_⟩⟩⟩
 .exact⟨_,_,rfl,by lia,eV (by lia),lo _ _ (by lia) (by lia) (by lia)⟩
 .refine⟨.inr (by constructor<;>decide),⟨by decide,by decide,by decide⟩,⟨eV (by decide),b30⟩,by decide,⟨by decide,by decide,by decide⟩,⟨by decide,eV (by decide)⟩,by decide,?_⟩;exact⟨_,_,rfl,by lia,eV (by lia),lo _ _ (by lia) (by
   have e:(10:Int)^Int.toNat 30=10^30:=rfl;rw[e];lia) (by lia)⟩
def st_size:ST:=λts q=>∃c:Int,ts=[.int c]/\∀n:Nat,n<=6->q (.fz (.int (n:Nat)))
theorem ac0(F:Fun K Gh Gh S8 f fd)(T:Txt K mg D)(cJ:OkT P w K mg base 1 fJ fH gR):cj P w K mg base CX0 2 f fd Gg (spT K st_size):=by
 refine F.okT Vx (λts R hP=>by obtain⟨_,e,_⟩:=hP;exact e ▸ rfl) λag A outer s H E hr=>?_;refine⟨_,(bC (bM 1 Vx.nd (Or.inl rfl) (bI cJ hr.md (by rfl) (bx (qv 0) (bx bA bF))))
  (bC (cG (bY (go_eq hr.units) (bK cC (bJ (qv 1) bA) bA) bA)
  (bG (bQ bA))
  bT)
  (bC (cG (bY (go_eq hr.units) (bK cC (bJ (qv 1) bA) bA) bA)
  (bG (bQ (bK cN bA (bK cC (bJ (qv 1) bA) bA))))
  bT)
  (bG (bQ (bK cN bA (bK cC (bJ (qv 1) bA) bA))))))),?_⟩
 rintro _ R ⟨c,rfl,q⟩;have s1:=iY c 1;have s1':0<=strm c 1:=s1.1;refine⟨c,2,rfl,by decide,_,dM (k:=0) (by decide),by decide,swD (λh=>q 0 (by decide)) λh=>⟨_,dM (k:=0) (by decide),by decide,swD (λh=>⟨_,dM (k:=1) (by decide),by decide,?_⟩) λh=>⟨_,dM (k:=1) (by decide),by decide,?_⟩⟩⟩
 .have:=q (5+strm c 1%2).toNat (by lia);rw[show(((5+strm c 1%2).toNat:Nat):Int)=5+strm c 1%2 by lia]at this;exact this
 .have:=q (1+strm c 1%4).toNat (by lia);rw[show(((1+strm c 1%4).toNat:Nat):Int)=1+strm c 1%4 by lia]at this;exact this
structure LD where
 sort:Nat
 pay:Rat
 prs:List (Nat×Rat)
abbrev ldT(d:LD):T:=.tup [.int (d.sort:Nat),frR d.pay,.lst (d.prs.map nwT)]
structure LDk(m:Nat)(d:LD):Prop where
 sort:d.sort<4
 pay:Pay d.pay
 few:d.prs.length<=4
 lt:∀p∈d.prs,p.1<m
 nn:∀p∈d.prs,0<=p.2
 one:Aa (d.prs.map (·.2))=1
 dn:∃q:Nat,0<q/\q<=4000/\∀p∈d.prs,p.2.den ∣ q
 s0:d.sort=0->∃a,d.prs=[(a,1)]
 s1:d.sort=1->∃a b x,d.prs=[(a,x),(b,1-x)]
 s2:d.sort=2->∃rs:List Nat,d.prs=rs.map λr=>(r,mkRat 1 rs.length)
theorem acZ{α:Type}(l:List α){n:Nat} : gJ l none (some (n:Int))=l.take n:=by
 unfold gJ;show(l.drop 0).take (HT.sIx l.length l.length (some (n:Int))-0)=_;rw[HT.xX,List.drop_zero,Nat.sub_zero];rw[List.take_eq_take_iff];lia
theorem Oi{a b:Int}(hb:0<b):(Rat.divInt a b).den ∣ b.toNat:=by
 have l:=wU (t:=a) (b:=b) (c:=(Int.gcd a b:Nat)) (WS hb) (by have:=mK (a:=a) (b:=b) (WS hb);exact WS this) (by lia) (XZ (mK (WS hb)) hb);have e:=iZ l (WS hb);injection e with e;injection e with _ e2;injection e2 with e2 _;injection e2 with e2;have e2:b.fdiv ((Int.gcd a b:Nat):Int)=((Rat.divInt a b).den:Nat):=e2;have d:((Int.gcd a b:Nat):Int) ∣ b:=Q3 a b;rw[Zwy d]at e2;obtain⟨x,hx⟩:=d;have g0:=mK (a:=a) (b:=b) (WS hb);rw[Int.ediv_eq_of_eq_mul_right (WS g0) hx]at e2;exact Int.natCast_dvd_natCast.mp ⟨(Int.gcd a b:Nat),by rw[<- e2,Zxv (XY hb),Int.mul_comm];exact hx⟩
theorem V3{S:Int}(hS:S≠0):∀ws:List Int,Aa (ws.map λw=>Rat.divInt w S)=Rat.divInt ws.sum S
 |[]=>by show(0:Rat)=Rat.divInt 0 S;rw[TK]
 |w::ws=>by
  show Rat.divInt w S+Aa (ws.map λw=>Rat.divInt w S)=Rat.divInt (w+ws.sum) S;rw[V3 hS ws,JJ _ _ hS hS];refine(Zyz (lX hS hS) hS).mpr ?_
  grind
theorem QM{n:Nat}(h:0<n):∀k:Nat,Aa (List.replicate k (mkRat 1 n))=mkRat k n
 |0=>by show(0:Rat)=mkRat 0 n;rw[Rat.zero_mkRat]
 |k+1=>by
  rw[List.replicate_succ];show mkRat 1 n+Aa (List.replicate k (mkRat 1 n))=_;rw[QM h k,Rat.mkRat_add_mkRat _ _ (UT h) (UT h),Rat.mkRat_eq_iff (Nat.mul_ne_zero (UT h) (UT h)) (UT h)]
  push_cast
  grind
theorem abA{n:Nat}(h:0<n):mkRat n n=1:=by
 rw[show(1:Rat)=mkRat 1 1 from rfl,Rat.mkRat_eq_iff (UT h) (Nat.succ_ne_zero _)];lia
theorem one_sub{a b:Int}(hb:b≠0):1-Rat.divInt a b=Rat.divInt (b-a) b:=by
 rw[show(1:Rat)=Rat.divInt 1 1 from rfl,Rat.divInt_sub_divInt _ _ (by decide) hb,JP,Q1]
theorem RX(x:Rat):1-x=⟨(x.den:Int)-x.num,x.den,x.den_nz,by
  have:=x.reduced;show Nat.Coprime ((x.den:Int)-x.num).natAbs x.den;have h:Int.gcd ((x.den:Int)-x.num) (x.den:Int)=1:=by
   rw[Int.gcd_self_sub_left];exact this
  exact h⟩:=by
 rw[Rat.mk_eq_divInt,<- one_sub (jk x),rd]
theorem X_(x:Rat):frR (1-x)=.tup [.int ((x.den:Int)-x.num),.int x.den]:=by rw[RX]
theorem W3(x:Rat):(1-x).den=x.den:=by rw[RX]
theorem LDk.sure{m a:Nat}{p:Rat}(ha:a<m)(hp:Pay p):LDk m ⟨0,p,[(a,1)]⟩ :=
 ⟨Nat.zero_lt_succ _,hp,Tx rfl,by simp[ha],by simp;decide,by simp[Aa];exact Rat.add_zero 1,⟨1,by decide,by decide,by simp⟩,λ_=>⟨_,rfl⟩,(λz=>by cases z),(λz=>by cases z)⟩
theorem LDk.toss{m a b q:Nat}{p x:Rat}(ha:a<m)(hb:b<m)(hp:Pay p)(x0:0<=x)(x1:0<=1-x)(q0:0<q)(q1:q<=4000)(hd:x.den ∣ q):LDk m ⟨1,p,[(a,x),(b,1-x)]⟩ :=
 ⟨Tx rfl,hp,Tx rfl,by simp[ha,hb],by simp[x0,x1],by simp[Aa];grind,⟨q,q0,q1,by simp[hd,W3]⟩,(λz=>by cases z),λ_=>⟨_,_,_,rfl⟩,(λz=>by cases z)⟩
theorem ae0{n:Nat}(h:0<n):(mkRat 1 n).den=n:=by
 have e:=Sy h;injection e with e;injection e with _ e;injection e with e _;injection e with e;lia
theorem LDk.even{m:Nat}{p:Rat}{rs:List Nat}(h0:0<rs.length)(h4:rs.length<=4)(hr:∀r∈rs,r<m)(hp:Pay p):LDk m ⟨2,p,rs.map λr=>(r,mkRat 1 rs.length)⟩:=by
 have nn:(0:Rat)<=mkRat 1 rs.length:=by rw[<- Rat.divInt_ofNat];exact Zyx (by decide) (Wp _)
 refine⟨Tx rfl,hp,by rw[ak];exact h4,λx hx=>?_,λx hx=>?_,?_,⟨rs.length,h0,by exact aL h4 (by decide),λx hx=>?_⟩,(λz=>by cases z),(λz=>by cases z),λ_=>⟨rs,rfl⟩⟩
 .obtain⟨r,h,rfl⟩:=YV.mp hx;exact hr r h
 .obtain⟨r,h,rfl⟩:=YV.mp hx;exact nn
 .rw[WP,show((λx:Nat×Rat=>x.2) ∘ λr=>(r,mkRat 1 rs.length))=λ_=>mkRat 1 rs.length from rfl,List.map_const',QM h0,abA h0]
 .obtain⟨r,h,rfl⟩:=YV.mp hx;rw[ae0 h0];exact Nat.dvd_refl _
theorem LDk.mix{m:Nat}{p:Rat}{rs:List Nat}{ws:List Int}(hl:ws.length<=4)(hr:∀r∈rs,r<m)(hw:∀w∈ws,0<=w)(le:ws.length<=rs.length)(s0:0<ws.sum)(s1:ws.sum<=4000)(hp:Pay p):LDk m ⟨3,p,(rs.zip ws).map λx=>(x.1,Rat.divInt x.2 ws.sum)⟩:=by
 have m2:(rs.zip ws).map (λx=>x.2)=ws:=List.map_snd_zip le;refine⟨Tx rfl,hp,by rw[ak,VX];lia,λx hx=>?_,λx hx=>?_,?_,⟨ws.sum.toNat,by lia,by lia,λx hx=>?_⟩,(λz=>by cases z),(λz=>by cases z),(λz=>by cases z)⟩
 .obtain⟨r,h,rfl⟩:=YV.mp hx;exact hr _ (VQ h).1
 .obtain⟨r,h,rfl⟩:=YV.mp hx;exact Zyx (hw _ (VQ h).2) (XY s0)
 .rw[WP,show((λx:Nat×Rat=>x.2) ∘ λx:Nat×Int=>(x.1,Rat.divInt x.2 ws.sum))=(λw=>Rat.divInt w ws.sum) ∘ λx:Nat×Int=>x.2 from rfl,<- WP,m2,V3 (WS s0)];have e:=one_sub (a:=ws.sum) (b:=ws.sum) (WS s0);rw[Int.sub_self,TK]at e
  grind
 .obtain⟨r,h,rfl⟩:=YV.mp hx;exact Oi s0
theorem Yq:∀{ws:List Int},(∀w∈ws,0<=w)->0<=ws.sum
 |[],_=>by decide
 |w::ws,h=>by
  have:=h w (aO ..);have:=Yq (ws:=ws) λx hx=>h x (aJ _ hx);rw[QR];lia
theorem Zy{b:Int} : ∀{ws:List Int},(∀w∈ws,w<=b)->ws.sum<=b*ws.length
 |[],_=>by simp
 |w::ws,h=>by
  have:=h w (aO ..);have:=Zy (ws:=ws) λx hx=>h x (aJ _ hx);rw[QR,List.length_cons];have:b*((ws.length+1:Nat):Int)=b*ws.length+b:=by grind
  lia
def Vk:ST:=λts q=>∃(c:Int)(m:Nat),ts=[.int c,.int (m:Nat)]/\0<m/\m<=1000/\∀(r:Nat)(d:LD),r<m->LDk m d->q (.fz (.tup [.int (r:Nat),ldT d]))
theorem adu(F:Fun K Gx Gx zf f fd)(T:Txt K mg D)(cJ:OkT P w K mg base 1 fJ fH gR)(iz:OkT P w K mg base 2 pF pA xZ)(mM:OkT P w K mg base 3 N7 MN ZX):cj P w K mg base CX0 4 f fd GF (spT K Vk):=by
 refine F.okT jE (λts R hP=>by obtain⟨_,_,e,_⟩:=hP;exact e ▸ rfl) λag A outer s H E hr=>?_;refine⟨_,(bC (bM 2 jE.nd (Or.inr rfl) (bI cJ hr.md (by rfl) (bx (qv 0) (bx bA bF))))
  (bC (bM 3 jE.nd (Or.inr rfl) (dI (bH zf) uf uf ["_law_x"] (cH (j4 (qv 2) (gZ bA) (gZ bA))) (fj (i:=0)) cI (bK cC (qv 0) (qv 2))))
  (bC (bM 4 jE.nd (Or.inl rfl) (bK cC (bJ (qv 2) bA) bA))
  (bC (bM 5 jE.nd (Or.inl rfl) (QEB.out (nU (bO (dN (bO (Dz (bJ (qv 3) bA)) (bO (dN (bO dg (bO dg cQ))) cQ))) cQ))))
  (bC (cG (bY (go_eq hr.units) (qv 4) bA)
  (bC (bM 6 jE.nd (Or.inl rfl) (bK cN bA (bK cC (bJ (qv 2) bA) bA)))
  (bC (bM 7 jE.nd (Or.inl rfl) (bI iz hr.md (by rfl) (bx (bK cC (bJ (qv 2) bA) (bK cN (qv 6) bA)) (bx (qv 6) bF))))
  (bG (bM 5 jE.nd (Or.inl rfl) (QEB.out (nU (bO (dN (bO (Dz (bJ (qv 3) bA)) (bO (KQ 7) cQ))) (bO (dN (bO (Dz (bJ (qv 3) bA)) (bO (dN (bO (Ml mj (Dz (bJ (qv 7) bA)) (Dz (bJ (qv 7) bA))) (bO (Dz (bJ (qv 7) bA)) cQ))) cQ))) cQ))))))))
  bT)
  (bC (cG (bY (go_eq hr.units) (qv 4) bA)
  (bC (bM 3 jE.nd (Or.inr rfl) (j4 (qv 3) Gj (gZ (bK cN bA (bK cC (bJ (qv 2) bA) bA)))))
  (bG (qM (bH zf) uf uf ["_law_room"] (cH (qv 3)) (fj (i:=0)) cI (cW (bx (qv 0) (bx (cW (bx bA (bx (bV dh (by rfl) T.dY W1 (bx (qv 4) bF)) bF))) bF))) (lM (i:=5) jE.nd rfl (Or.inl rfl)))))
  bT)
  (bC (cG (bY (go_eq hr.units) (qv 4) bA)
  (bC (iu 8 jE.nd (Or.inr rfl) (dI (bH zf) uf uf ["_law_x"] (cH (j4 (qv 2) (gZ bA) (gZ (bK cN bA (bK cC (bJ (qv 2) bA) bA))))) (fj (i:=0)) cI (bK cC (qv 0) (bJ (d7 (bx bA (bx bA (bx bA (bx bA bF))))) (bK cC (bJ (qv 3) bA) bA)))))
  (bC (Dm 8 (bK cN (uJ 8 (zV bA)) bA) (zV bA))
  (bG (Hs 8 (qM (bH zf) uf uf ["_law_k"] (cY (by rfl) T.dO (bx (bV dh (by rfl) T.dY W1 (bx (qv 8) bF)) bF)) (fj (i:=0)) cI (cW (bx (bJ (qv 4) (qv 0)) (bx (bI iz hr.md (by rfl) (bx (bJ (qv 9) (qv 0)) (bx (bV (Ox rfl) (by rfl) T.Vj boot_sum (bx (qv 9) bF)) bF))) bF))) (lM (i:=5) jE.nd rfl (Or.inl rfl)))))))
  bT)
  (bG (bQ (cW (bx (bK cC (bJ (qv 2) bA) (qv 1)) (bx (cW (bx (qv 4) (bx (bI mM hr.md (by rfl) (bx (qv 0) (bx (bJ (qv 2) bA) (bx (bJ (qv 2) bA) bF)))) (bx (qv 5) bF)))) bF)))))))))))),?_⟩
 rintro _ R ⟨c,m,rfl,m0,m1,q⟩;have mz:(0:Int)<(m:Nat):=by lia
 have sl:∀k,0<=strm c k/\strm c k<2000000000:=iY c;obtain⟨rm,g6,rme⟩ : ∃rm:Nat->Nat,(∀k,rm k<m)/\∀k,strm c k%(m:Nat)=(rm k:Nat):=⟨λk=>(strm c k%(m:Nat)).toNat,λk=>by
  have:=YY (strm c k) mz;have:=Z3 (strm c k) (show((m:Nat):Int)≠0 by exact WS mz);show(strm c k%(m:Nat)).toNat<m;lia,λk=>by
  have:=Z3 (strm c k) (show((m:Nat):Int)≠0 by exact WS mz);show _=((strm c k%(m:Nat)).toNat:Int);lia⟩
 obtain⟨so,eso,hso⟩ : ∃so:Nat,strm c 6%4=(so:Nat)/\so<4:=⟨(strm c 6%4).toNat,by have:=sl 6;lia,by have:=sl 6;lia⟩;refine sq7 (λo=>∃(x3 x6 x7 x8:OT)(prs:List (Nat×Rat)),o=[.fz (.int c),.fz (.int (m:Nat)),.fz (.lst ((jN c 14).map L2.T.int)),x3,.fz (.int (so:Nat)),.fz (.lst (prs.map nwT)),x6,x7,x8]/\∀p,Pay p->LDk m ⟨so,p,prs⟩) ?_ λY go=>?_
 .rintro _ ⟨x3,x6,x7,x8,prs,rfl,hk⟩;refine⟨_,dM (k:=13) (by decide),mz,_,dM (k:=0) (by decide),_,dM (k:=1) (by decide),c,_,_,rfl,sl 0,sl 1,λp hp=>?_⟩;have:=q (rm 13) ⟨so,p,prs⟩ (g6 13) (hk p hp);rw[<- rme]at this;exact this
 .refine⟨c,14,rfl,by decide,?_⟩;have ec:gJ ((jN c 14).map L2.T.int) (some 2) (some 6)=[2,3,4,5].map (λk=>L2.T.int (strm c k)):=rfl;show(gJ ((jN c 14).map L2.T.int) (some 2) (some 6)).length<=sizeLine/\jd _ _ _ _ (gJ ((jN c 14).map L2.T.int) (some 2) (some 6)) _;rw[ec];refine⟨show 4<=sizeLine by decide,comp_map (λk=>L2.T.int (strm c k)) (λk=>.int (rm k:Nat)) [2,3,4,5] (λk _ N M hN=>⟨mz,by rw[rme];exact hN⟩) ⟨_,dM (k:=6) (by decide),by decide,?_⟩⟩;dsimp only[frz];rw[eso];refine⟨_,rfl,?_⟩;obtain rfl|rfl|rfl|rfl:so=0\/so=1\/so=2\/so=3:=by lia
  .exact go _ ⟨_,_,_,_,[(rm 2,1)],rfl,λp hp=>.sure (g6 2) hp⟩
  .have x8:=sl 8;have x9:=sl 9;refine⟨_,dM (k:=8) (by decide),by decide,_,dM (k:=9) (by decide),by lia,_,_,rfl,by lia,eV (by lia),_,rfl,_,rfl,?_⟩;obtain⟨b,eb,b0,b1⟩ : ∃b:Int,1+strm c 8%6=b/\0<b/\b<=6:=⟨_,rfl,by lia,by lia⟩;rw[eb];have a0:=Z3 (strm c 9) (show b+1≠0 by lia);have a1:=YY (strm c 9) (show 0<b+1 by exact Int.lt_trans b0 (Int.lt_succ _));generalize strm c 9%(b+1)=a at a0 a1 ⊢;have nn:0<=Rat.divInt a b:=Zyx a0 (XY b0);have l1:0<=1-Rat.divInt a b:=by rw[one_sub (WS b0)];exact Zyx (by omega) (XY b0)
   have dd:=Oi (a:=a) b0;generalize Rat.divInt a b=x at nn l1 dd ⊢;refine go _ ⟨.fz (.lst ([2,3,4,5].map λk=>L2.T.int (rm k:Nat))),.fz (.int b),.fz (frR x),.und,[(rm 2,x),(rm 3,1-x)],?_,λp hp=>.toss (g6 2) (g6 3) hp nn l1 (show 0<b.toNat by lia) (by lia) dd⟩;rw[show[(rm 2,x),(rm 3,1-x)].map nwT=[.tup [.int (rm 2:Nat),frR x],.tup [.int (rm 3:Nat),frR (1-x)]]from rfl,X_]
   rfl
  .have x7:=sl 7;obtain⟨n,en,n0,n4⟩ : ∃n:Nat,1+strm c 7%4=(n:Nat)/\0<n/\n<=4:=⟨(1+strm c 7%4).toNat,by lia,by lia,by lia⟩;refine⟨_,dM (k:=7) (by decide),by decide,?_⟩;show(gJ ([2,3,4,5].map λk=>L2.T.int (rm k:Nat)) none (some (1+strm c 7%4))).length<=sizeLine/\jd _ _ _ _ (gJ ([2,3,4,5].map λk=>L2.T.int (rm k:Nat)) none (some (1+strm c 7%4))) _;have ec2:gJ ([2,3,4,5].map λk=>L2.T.int (rm k:Nat)) none (some (1+strm c 7%4))=(([2,3,4,5].map rm).take n).map λr:Nat=>L2.T.int (r:Nat):=by
    rw[en,acZ,List.map_take,WP]
    rfl
   have rl:(([2,3,4,5].map rm).take n).length=n:=by rw[aY];show min n 4=n;lia
   have rlt:∀r∈([2,3,4,5].map rm).take n,r<m:=λr hr=>by
    obtain⟨k,_,rfl⟩:=YV.mp (List.mem_of_mem_take hr);exact g6 k
   rw[ec2];generalize([2,3,4,5].map rm).take n=rs at rl rlt ⊢;have r0:0<rs.length:=by lia
   have e2:(rs.map λr=>(r,mkRat 1 rs.length)).map nwT=rs.map λr=>nwT (r,mkRat 1 rs.length):=by rw[WP];rfl
   refine⟨by rw[ak];exact aL (show _<=4 by exact aL (WG rl) n4) (by decide),comp_map (λr:Nat=>L2.T.int (r:Nat)) (λr=>nwT (r,mkRat 1 rs.length)) rs (λr hr N M hN=>?_) (go _ ⟨.fz (.lst (rs.map λr:Nat=>L2.T.int (r:Nat))),.und,.und,.und,rs.map λr=>(r,mkRat 1 rs.length),by rw[e2];rfl,λp hp=>.even r0 (aL (WG rl) n4) rlt hp⟩)⟩;rw[show nwT (r,mkRat 1 rs.length)=.tup [.int (r:Nat),frR (mkRat 1 rs.length)]from rfl,Sy r0,<- ak (f:=λr:Nat=>L2.T.int (r:Nat))]at hN;exact hN
  .have x7:=sl 7;have x12:=sl 12;obtain⟨n,en,n0,n4⟩ : ∃n:Nat,9+strm c 7%4=((8+n:Nat):Int)/\0<n/\n<=4:=⟨(1+strm c 7%4).toNat,by lia,by lia,by lia⟩;refine⟨_,dM (k:=7) (by decide),by decide,?_⟩;show(gJ ((jN c 14).map L2.T.int) (some 8) (some (9+strm c 7%4))).length<=sizeLine/\jd _ _ _ _ (gJ ((jN c 14).map L2.T.int) (some 8) (some (9+strm c 7%4))) _;have ec3:gJ ((jN c 14).map L2.T.int) (some 8) (some (9+strm c 7%4))=(((jN c 14).drop 8).take n).map L2.T.int:=by
    rw[en,BK];have:=Vd (ys:=jN c 14) (a:=8) (b:=8+n) (X2 _ _) (by rw[ak,WJ];lia);rw[show 8+n-8=n by exact JU _ _]at this;exact ZH (List.map L2.T.int) this
   have ul:(((jN c 14).drop 8).take n).length=n:=by rw[aY,TW,ak,WJ];lia
   rw[ec3];generalize((jN c 14).drop 8).take n=us at ul ⊢;obtain⟨d,hd,ed⟩:=YT [3,3,3,1000] L2.T.int (i:=strm c 12%4) (Z3 _ (by decide)) (by show strm c 12%4<4;exact YY _ (by decide));have d0:0<d/\d<=1000:=by simp at hd;lia
   refine⟨by rw[ak];exact aL (show _<=4 by exact aL (WG ul) n4) (by decide),comp_map L2.T.int (λx=>L2.T.int (x%d)) us (λx hx N M hN=>⟨_,dM (k:=12) (by decide),by decide,_,ed,d0.1,hN⟩) ?_⟩;have em:us.map (λx=>L2.T.int (x%d))=(us.map (· % d)).map L2.T.int:=by rw[WP];rfl
   rw[em];have wl:(us.map (· % d)).length=n:=by rw[ak];exact ul
   have ww:∀w∈us.map (· % d),0<=w/\w<1000:=λw hw=>by
    obtain⟨x,_,rfl⟩:=YV.mp hw;have:=Z3 x (show d≠0 by lia);have:=YY x d0.1;lia
   generalize us.map (· % d)=ws at wl ww ⊢;obtain⟨vs,v,rfl⟩ : ∃vs v,ws=vs++[v]:=by
    rcases List.eq_nil_or_concat ws with rfl|⟨vs,v,e⟩
    .cases wl;cases n0
    .exact⟨vs,v,by rw[e,List.concat_eq_append]⟩
   rw[aA,List.length_singleton]at wl;have ixl:ixT ((vs++[v]).map L2.T.int) (-1)=some (.int v):=by
    show nth ((vs++[v]).map L2.T.int).reverse 0=_;rw[bf,List.reverse_append]
    rfl
   have ixn:ixN ((vs++[v]).map L2.T.int).length (-1)=some vs.length:=by
    unfold ixN;rw[ak,aA,List.length_singleton];rw[ZZ (by decide),ZY (by lia)]
    congr 1
    lia
   refine⟨_,ixl,_,ixn,?_⟩;have es:((vs++[v]).map L2.T.int).set vs.length (.int (v+1))=(vs++[v+1]).map L2.T.int:=by
    rw[bf,bf,List.set_append_right _ _ (by rw[ak];exact aG _),ak,Zzy]
    rfl
   dsimp only[frz];rw[es];have kl:(vs++[v+1]).length=n:=by rw[aA,List.length_singleton];exact wl
   have ki:∀w∈vs++[v+1],0<=w/\w<=1000:=λw hw=>by
    rcases Y1.mp hw with z|z
    .have:=ww w (UH _ z);lia
    .have:=ww v (aP _ (YR.mpr rfl));rw[YR.mp z];lia
   have s0:0<(vs++[v+1]).sum:=by
    have:0<=vs.sum:=Yq λw hw=>(ww w (UH _ hw)).1;have:=(ww v (aP _ (YR.mpr rfl))).1;rw[List.sum_append];show 0<vs.sum+(v+1+0);lia
   have s1:(vs++[v+1]).sum<=1000*(vs++[v+1]).length:=Zy λw hw=>(ki w hw).2;generalize vs++[v+1]=us at kl ki s0 s1 ⊢;have ul':(us.map L2.T.int).length=us.length:=ak ..;have r4:∀k,k<4->([2,3,4,5].map rm)[k]?=some (rm (k+2)):=λk hk=>by
    obtain rfl|rfl|rfl|rfl:k=0\/k=1\/k=2\/k=3:=by lia
    all_goals rfl
   have z:∀k(hk:k<us.length),((([2,3,4,5].map rm).zip us).map λx=>(x.1,Rat.divInt x.2 us.sum))[k]?=some (rm (k+2),Rat.divInt (us.getD k 0) us.sum):=λk hk=>by
    rw[aq,List.getElem?_zip_eq_some (z:=(rm (k+2),us.getD k 0)) |>.mpr ⟨r4 k (by lia),by rw[au,aj hk];rfl⟩]
    rfl
   have ep:(List.range (us.map L2.T.int).length).map (λk=>nwT (rm (k+2),Rat.divInt (us.getD k 0) us.sum))=((([2,3,4,5].map rm).zip us).map λx=>(x.1,Rat.divInt x.2 us.sum)).map nwT:=by
    refine Zzs λk=>?_;rw[ul'];by_cases hk:k<us.length
    .rw[aq,Up hk,aq,z k hk]
     rfl
    .rw[aM (by rw[ak,WJ];exact VU hk),aM (by rw[ak,ak,VX];omega)]
   refine⟨⟨by lia,by lia⟩,by rw[rng,ak,WJ];exact aL (show _<=4 by lia) (by decide),Mh (λk=>nwT (rm (k+2),Rat.divInt (us.getD k 0) us.sum)) (us.map L2.T.int).length (λk hk N M hN=>?_) (go _ ⟨.fz (.lst ([2,3,4,5].map λk=>L2.T.int (rm k:Nat))),.und,.und,.fz (.lst (us.map L2.T.int)),(([2,3,4,5].map rm).zip us).map λx=>(x.1,Rat.divInt x.2 us.sum),by rw[ep];rfl,λp hp=>LDk.mix (rs:=[2,3,4,5].map rm) (aL (WG kl) n4) (λr hr=>?_) (λw hw=>(ki w hw).1) (show us.length<=4 by exact aL (WG kl) n4) s0 (by lia) hp⟩)⟩
   .rw[ul']at hk;have ek:us[k]?=some (us.getD k 0):=by rw[au,aj hk];rfl
    have e4:=r4 k (by lia);rw[aq]at e4;refine⟨.int (rm (k+2):Nat),?_,_,cZ ek,us,rfl,_,_,rfl,s0,eV (by lia),hN⟩;show nth _ k=_;rw[rR,aq];cases z2:([2,3,4,5] : List Nat)[k]? with
    |none=>rw[z2]at e4;cases e4
    |some j=>rw[z2]at e4;injection e4 with e4;show some (L2.T.int (rm j:Nat))=_;rw[show rm j=rm (k+2)from e4]
   .obtain⟨k,_,rfl⟩:=YV.mp hr;exact g6 k
structure DSk(m mo:Nat)(ae:List (List LD)):Prop where
 len:ae.length=m
 few:∀ds∈ae,ds.length<=mo
 ok:∀ds∈ae,∀d∈ds,LDk m d
abbrev dsT(ae:List (List LD)):List (List T):=ae.map λds=>ds.map ldT
abbrev yF(ae:List (List LD)):T:=.lst (ae.map λds=>.lst (ds.map ldT))
theorem adb(ae:List (List LD)):frz (.l2 (dsT ae))=yF ae:=by
 show L2.T.lst ((ae.map λds=>ds.map ldT).map L2.T.lst)=_;rw[WP]
 rfl
theorem DSk.add{m mo:Nat}{ae:List (List LD)}(h:DSk m mo ae){k:Nat}{ds:List LD}{d:LD}(e:ae[k]?=some ds)(lt:ds.length<mo)(hd:LDk m d):DSk m mo (ae.set k (ds++[d])):=by
 refine⟨by rw[VS,h.len],λx hx=>?_,λx hx y hy=>?_⟩
 .rcases List.mem_or_eq_of_mem_set hx with z|rfl
  .exact h.few x z
  .rw[aA,List.length_singleton];exact lt
 .rcases List.mem_or_eq_of_mem_set hx with z|rfl
  .exact h.ok x z y hy
  .rcases Y1.mp hy with z|z
   .exact h.ok ds (aC e) y z
   .rw[YR.mp z];exact hd
theorem afo{ae:List (List LD)}{r:Nat}{ds:List LD}(e:ae[r]?=some ds):ixT ((dsT ae).map L2.T.lst) (r:Nat)=some (.lst (ds.map ldT)):=by
 show nth ((dsT ae).map L2.T.lst) r=_;rw[rR,aq,aq,e];rfl
def Ra:ST:=λts q=>∃(ns:List Int)(a m mo:Nat),ts=[scT ns,.int (a:Nat),.int (m:Nat),.int (mo:Nat)]/\ns.length<=100/\m<=300/\mo<=1000/\∀ae:List (List LD),DSk m mo ae->q (.l2 (dsT ae))
theorem Z0(F:Fun K Cd Cd Gm f fd)(T:Txt K mg D)(iD:OkT P w K mg base 1 uD uK z_)(cJ:OkT P w K mg base 1 fJ fH gR)(SM:OkT P w K mg base 4 Gx GF Vk):cj P w K mg base CX0 5 f fd BR (spT K Ra):=by
 refine F.okT ji (λts R hP=>by obtain⟨_,_,_,_,e,_⟩:=hP;exact e ▸ rfl) λag A outer s H E hr=>?_;refine⟨_,(bC (adx (bH Gm) Vl ["_law_script","_law_at","_law_many","_law_most","_law_rooms_here","_law_first","_law_cells","?_law_k","_law_cell_here","_law_room","_law_door_here"] ["_law_k"] (cY (by rfl) T.dO (bx (qv 2) bF)) (fj (i:=0)) cI (d7 bF) (lM (i:=4) ji.nd rfl (Or.inl rfl)))
  (bC (cG (bY El (qv 2) bA)
  (bC (bM 5 ji.nd (Or.inl rfl) (bI iD hr.md (by rfl) (bx (qv 0) (bx (qv 1) bF))))
  (bC (bM 6 ji.nd (Or.inl rfl) (bI cJ hr.md (by rfl) (bx (qv 5) (bx (bK cC (bK cC (bK V8 (qv 5) bA) bA) (bK cN (bK cB bA (qv 2)) bA)) bF))))
  (bC (bM 6 ji.nd (Or.inl rfl) (bK cN (qv 6) (j4 (qv 0) (gZ (bK cN (qv 1) bA)) (gZ (bK cN (qv 1) bA)))))
  (bG (dB VZ rfl (cY (by rfl) T.dO (bx (bV dh (by rfl) T.dY W1 (bx (qv 6) bF)) bF)) (b_ (n:=99) 7 ji.nd (Or.inl rfl))
  (bC (bM 8 ji.nd (Or.inl rfl) (bJ (qv 6) (qv 7)))
  (bC (cG (QW.qt (Il (bY (go_eq hr.units) (bK cC (qv 5) bA) bA) (C_ (bY (go_eq hr.units) (bK cC (qv 7) bA) bA))))
  (bG (bM 8 ji.nd (Or.inl rfl) (bK cC (qv 8) bA)))
  bT)
  (bC (Ui (bI SM hr.md (by rfl) (bx (qv 8) (bx (qv 2) bF))) (fG (n:=2) rfl (bR (b_ (n:=99) 9 ji.nd (Or.inl rfl)) (bR (b_ (n:=99) 10 ji.nd (Or.inl rfl)) dF))))
  (bG (cG (T8 4 (bY uY (bV dh (by rfl) T.dY W1 (bx (bJ (qv 4) (qv 9)) bF)) (qv 3)))
  (bG (acB 4 (qv 9) (qv 10)))
  bT))))))))))
  bT)
  (bG (jJ 4)))),?_⟩
 rintro _ R ⟨ns,a,m,mo,rfl,nl,m1,mo1,q⟩;have e0:(List.range m).map (λ_=>([] : List L2.T))=dsT (List.replicate m []):=by
  unfold dsT;rw[List.map_replicate,List.map_const',WJ]
  rfl
 have h0:DSk m mo (List.replicate m []):=⟨aN,λx hx=>by rw[(List.mem_replicate.mp hx).2];exact aZ _,λx hx y hy=>by rw[(List.mem_replicate.mp hx).2]at hy;cases hy⟩;refine⟨⟨by lia,by lia⟩,by rw[rng,ak,WJ];exact aL m1 (by decide),Qi (λ_=>[]) m (λk hk N M hN=>hN) ?_⟩;rw[e0];refine swD (λhm=>?_) λhm=>q _ h0;refine⟨ns,a,rfl,nl,?_⟩;dsimp only[frz];generalize ns.getD a 0=fi;have mz:(0:Int)<3*(m:Nat)+1:=by lia
 obtain⟨n,en,n1⟩ : ∃n:Nat,fi*48271%104729%(3*(m:Nat)+1)=(n:Nat)/\n<=3*m:=⟨(fi*48271%104729%(3*(m:Nat)+1)).toNat,by
  have:=Z3 (fi*48271%104729) (show(3*(m:Nat)+1:Int)≠0 by exact WS mz);lia,by
  have:=YY (fi*48271%104729) mz;have:=Z3 (fi*48271%104729) (show(3*(m:Nat)+1:Int)≠0 by exact WS mz);lia⟩
 refine⟨.inr (by constructor<;>decide),by decide,⟨eV (by decide),eV (by lia)⟩,mz,fi,n,by rw[en];rfl,by lia,?_⟩;have ec:(jN fi n).map L2.T.int++gJ (ns.map L2.T.int) (some ((a:Nat)+1)) (some ((a:Nat)+25))=(jN fi n++gJ ns (some ((a:Nat)+1)) (some ((a:Nat)+25))).map L2.T.int:=by rw[BK,bf]
 have cl:(gJ ns (some ((a:Nat)+1)) (some ((a:Nat)+25))).length<=100:=by
  unfold gJ;rw[aY,TW];lia
 show((jN fi n).map L2.T.int).length+(gJ (ns.map L2.T.int) (some ((a:Nat)+1)) (some ((a:Nat)+25))).length<=sizeLine/\_;refine⟨?_,?_⟩
 .rw[BK,ak,ak,ak,WJ];exact aL (show _<=1100 by lia) (by decide)
 dsimp only[frz];rw[ec];have sl:(jN fi n++gJ ns (some ((a:Nat)+1)) (some ((a:Nat)+25))).length<=1100:=by rw[aA,ak,WJ];lia
 generalize jN fi n++gJ ns (some ((a:Nat)+1)) (some ((a:Nat)+25))=cs at sl ⊢;refine⟨⟨by rw[ak];lia,by rw[ak];lia⟩,jr (λk o=>∃(ae:List (List LD))(x7 x8 x9 eP:OT),o=[.fz (scT ns),.fz (.int (a:Nat)),.fz (.int (m:Nat)),.fz (.int (mo:Nat)),.l2 (dsT ae),.fz (.int fi),.fz (.lst (cs.map L2.T.int)),x7,x8,x9,eP]/\DSk m mo ae) ⟨_,_,_,_,_,rfl,h0⟩ ?_ ?_⟩
 .rintro k _ hk ⟨ae,x7,x8,x9,eP,rfl,h⟩;rw[ak]at hk;dsimp only[hName];refine sq2 (λo=>∃c:Int,o=[.fz (scT ns),.fz (.int (a:Nat)),.fz (.int (m:Nat)),.fz (.int (mo:Nat)),.l2 (dsT ae),.fz (.int fi),.fz (.lst (cs.map L2.T.int)),.fz (.int (k:Nat)),.fz (.int c),x9,eP]) ?_ λY go=>?_
  .rintro _ ⟨c,rfl⟩;refine⟨c,m,rfl,by lia,by exact aL m1 (by decide),λr d hr hd=>⟨rfl,?_⟩⟩;have lr:r<ae.length:=by rw[h.len];exact hr
   have er:=aj lr;refine⟨_,afo er,swD (λlt=>?_) λ_=>⟨ae,.fz (.int (k:Nat)),.fz (.int c),.fz (.int (r:Nat)),.fz (ldT d),rfl,h⟩⟩;have lt:((ae[r].map ldT).length:Int)<(mo:Nat):=lt;rw[ak]at lt;refine⟨r,ae[r].map ldT,?_,by rw[aq,er];rfl,by rw[ak];exact aR (show _<1001 by lia) (by decide),ae.set r (ae[r]++[d]),.fz (.int (k:Nat)),.fz (.int c),.fz (.int (r:Nat)),.fz (ldT d),?_,h.add er (by lia) hd⟩
   .unfold ixN;rw[ak,ZY (Wp _),ZY (by lia)]
    rfl
   .rw[show dsT (ae.set r (ae[r]++[d]))=(dsT ae).set r (ae[r].map ldT++[ldT d])by
     unfold dsT;rw[List.map_set,bf]
     rfl]
    rfl
  .refine⟨_,cZ (aj hk),by decide,swD (λh1=>⟨by decide,swD (λh2=>⟨by decide,go _ ⟨_,rfl⟩⟩) λh2=>go _ ⟨_,rfl⟩⟩) λh1=>go _ ⟨_,rfl⟩⟩
 .rintro _ ⟨ae,x7,x8,x9,eP,rfl,h⟩;exact q ae h
def zc(ws:List (Nat×Rat))(p:Nat×Rat):List (Nat×Rat):=if(ws.any λx=>decide (x.1=p.1))=true then ws.map (λx=>if x.1=p.1 then(x.1,x.2+p.2)else x)else ws++[p]
def Az(ps:List (Nat×Rat)):List (Nat×Rat):=ps.foldl zc []
def vH(ps:List (Nat×Rat)):List (Nat×Rat):=(Az ps).filter λp=>!decide (p.2=0)
noncomputable abbrev nmP(ns:Φ)(p:Nat×Rat):Str×Rat:=(ns.getD p.1 ⟨#[]⟩,p.2)
theorem O6{ns:Φ}(nd:ns.Nodup){i j:Nat}(hi:i<ns.length)(hj:j<ns.length):(ns.getD i ⟨#[]⟩=ns.getD j ⟨#[]⟩)↔i=j:=by
 constructor
 .intro h;rw[au,au,aj hi,aj hj]at h;rcases Nat.lt_trichotomy i j with l|l|l
  .exact absurd h ((List.pairwise_iff_getElem.mp nd) i j hi hj l)
  .exact l
  .exact absurd h.symm ((List.pairwise_iff_getElem.mp nd) j i hj hi l)
 .intro h;rw[h]
theorem afq{ns:Φ}(nd:ns.Nodup){ws:List (Nat×Rat)}{p:Nat×Rat}(hw:∀w∈ws,w.1<ns.length)(hp:p.1<ns.length):addW (ws.map (nmP ns)) (nmP ns p)=(zc ws p).map (nmP ns):=by
 have an:((ws.map (nmP ns)).any λx=>decide (x.1=(nmP ns p).1))=ws.any λx=>decide (x.1=p.1):=by
  rw[List.any_map];refine Bool.eq_iff_iff.mpr ⟨λh=>?_,λh=>?_⟩
  .obtain⟨x,hx,e⟩:=List.any_eq_true.mp h;exact List.any_eq_true.mpr ⟨x,hx,Zs ((O6 nd (hw x hx) hp).mp (of_decide_eq_true e))⟩
  .obtain⟨x,hx,e⟩:=List.any_eq_true.mp h;exact List.any_eq_true.mpr ⟨x,hx,Zs ((O6 nd (hw x hx) hp).mpr (of_decide_eq_true e))⟩
 unfold addW zc;rw[an];split
 .rw[WP,WP];refine U1 λx hx=>?_;show(if(nmP ns x).1=(nmP ns p).1 then _ else _)=nmP ns (if x.1=p.1 then _ else _);by_cases e:x.1=p.1
  .rw[ZY e,ZY ((O6 nd (hw x hx) hp).mpr e)]
  .rw[ZZ e,ZZ λz=>e ((O6 nd (hw x hx) hp).mp z)]
 .rw[bf];rfl
theorem GD{ws:List (Nat×Rat)}{p w:Nat×Rat}(h:w∈zc ws p):(w∈ws/\w.1≠p.1)\/w=p\/∃x∈ws,x.1=p.1/\w=(x.1,x.2+p.2):=by
 unfold zc at h;split at h
 .obtain⟨x,hx,rfl⟩:=YV.mp h;by_cases e:x.1=p.1
  .rw[ZY e];exact .inr (.inr ⟨x,hx,e,rfl⟩)
  .rw[ZZ e];exact .inl ⟨hx,e⟩
 .rename_i n
  rcases Y1.mp h with z|z
  .exact .inl ⟨z,λe=>n (List.any_eq_true.mpr ⟨w,z,Zs e⟩)⟩
  .exact .inr (.inl (YR.mp z))
theorem Wf{ns:Φ}(nd:ns.Nodup){ps:List (Nat×Rat)}(h:∀p∈ps,p.1<ns.length):jo (ps.map (nmP ns))=(Az ps).map (nmP ns):=by
 suffices H:∀(ps ws:List (Nat×Rat)),(∀p∈ps,p.1<ns.length)->(∀w∈ws,w.1<ns.length)->(ps.map (nmP ns)).foldl addW (ws.map (nmP ns))=(ps.foldl zc ws).map (nmP ns)from H ps [] h λ_ z=>(nomatch z)
 intro ps
 induction ps with
 |nil=>exact λ_ _ _=>rfl
 |cons p ps ih =>
  intro ws hp hw;rw[List.map_cons,List.foldl_cons,List.foldl_cons,afq nd hw (hp p (aO ..))];refine ih _ (λq hq=>hp q (aJ _ hq)) λw hm=>?_;rcases GD hm with⟨z,_⟩|rfl|⟨x,hx,_,rfl⟩
  .exact hw w z
  .exact hp w (aO ..)
  .exact hw x hx
theorem acI{ns:Φ}(nd:ns.Nodup){ps:List (Nat×Rat)}(h:∀p∈ps,p.1<ns.length):Cm (ps.map (nmP ns))=(vH ps).map (nmP ns):=by
 unfold Cm vH;rw[Wf nd h,List.filter_map]
 rfl
theorem uc{r:Rat}{q:Nat}(hq:0<q):r.den ∣ q↔∃x:Int,r=Rat.divInt x q:=by
 constructor
 .rintro⟨k,rfl⟩;refine⟨r.num*k,?_⟩;have hk:((k:Nat):Int)≠0:=λz=>by rw[show k=0 by lia]at hq;lia
  conv=>lhs;rw[<- rd r]
  refine(Zyz (jk r) (by push_cast;exact lX (jk r) hk)).mpr ?_
  push_cast
  grind
 .rintro⟨x,rfl⟩;have:=Oi (a:=x) (b:=(q:Nat)) (by lia);exact this
theorem Ie{a b:Rat}{q:Nat}(hq:0<q)(ha:a.den ∣ q)(hb:b.den ∣ q):(a+b).den ∣ q:=by
 obtain⟨x,rfl⟩:=(uc hq).mp ha;obtain⟨y,rfl⟩:=(uc hq).mp hb;have h0:((q:Nat):Int)≠0:=by lia
 refine(uc hq).mpr ⟨x+y,?_⟩;rw[JJ _ _ h0 h0];refine(Zyz (lX h0 h0) h0).mpr ?_
 grind
theorem den_mul{a b:Rat}{q r:Nat}(hq:0<q)(hr:0<r)(ha:a.den ∣ q)(hb:b.den ∣ r):(a*b).den ∣ q*r:=by
 obtain⟨x,rfl⟩:=(uc hq).mp ha;obtain⟨y,rfl⟩:=(uc hr).mp hb;refine(uc (QQ hq hr)).mpr ⟨x*y,?_⟩;rw[T2]
 push_cast
 rfl
theorem ac2{a:Rat} : (-a).den=a.den:=rfl
structure JnI(m q:Nat)(as ws:List (Nat×Rat)):Prop where
 nd:(ws.map (·.1)).Nodup
 lt:∀w∈ws,w.1<m
 nn:∀w∈ws,0<=w.2
 dn:∀w∈ws,w.2.den ∣ q
 sum:∀y:Nat->Rat,dw ws y=dw as y
 few:ws.length<=as.length
theorem Jl(as bs:List (Nat×Rat))(y:Nat->Rat):dw (as++bs) y=dw as y+dw bs y:=by
 induction as with
 |nil=>show dw bs y=0+_;rw[Rat.zero_add]
 |cons a as ih=>rw[List.cons_append,cT,cT,ih,Rat.add_assoc]
theorem Ug(p:Nat×Rat)(y:Nat->Rat):dw [p] y=p.2*y p.1:=by rw[cT];show _+0=_;rw[Rat.add_zero]
theorem afu{ws:List (Nat×Rat)}{p:Nat×Rat}(nd:(ws.map (·.1)).Nodup)(y:Nat->Rat):dw (zc ws p) y=dw ws y+p.2*y p.1:=by
 unfold zc;split
 .rename_i h
  induction ws with
  |nil=>cases h
  |cons x ws ih =>
   obtain⟨n1,n2⟩:=List.nodup_cons.mp nd;rw[List.map_cons,cT,cT];by_cases e:x.1=p.1
   .rw[ZY e];have rest:ws.map (λx=>if x.1=p.1 then(x.1,x.2+p.2)else x)=ws:=by
     conv=>rhs;rw[<- List.map_id ws]
     refine U1 λz hz=>?_;rw[ZZ λw=>n1 (YV.mpr ⟨z,hz,w.trans e.symm⟩)]
     rfl
    rw[rest,<- e];show(x.2+p.2)*y x.1+dw ws y=_
    grind
   .rw[ZZ e,ih n2 (by
     rw[List.any_cons,Zp e,Bool.false_or]at h;exact h)]
    grind
 .rw[Jl,Ug]
theorem afs{ws:List (Nat×Rat)}{p:Nat×Rat}(nd:(ws.map (·.1)).Nodup):((zc ws p).map (·.1)).Nodup:=by
 unfold zc;by_cases h:(ws.any λx=>decide (x.1=p.1))=true
 .rw[ZY h,WP];rw[show ws.map ((λx=>x.1) ∘ λx=>if x.1=p.1 then(x.1,x.2+p.2)else x)=ws.map (·.1)from U1 λx _=>by show(if x.1=p.1 then(x.1,x.2+p.2)else x).1=x.1;split<;>rfl];exact nd
 .rw[ZZ h,bf];refine List.nodup_append.mpr ⟨nd,by simp,λa ha b hb z=>h ?_⟩;obtain⟨x,hx,rfl⟩:=YV.mp ha;rw[List.map_singleton,YR]at hb;exact List.any_eq_true.mpr ⟨x,hx,Zs (z.trans hb)⟩
theorem abD{m q:Nat}(hq:0<q){as ws:List (Nat×Rat)}{p:Nat×Rat}(hp:p.1<m/\0<=p.2/\p.2.den ∣ q)(h:JnI m q as ws):JnI m q (as++[p]) (zc ws p):=by
 refine⟨afs h.nd,λw hw=>?_,λw hw=>?_,λw hw=>?_,λy=>by rw[afu h.nd,h.sum,Jl,Ug],?_⟩
 .rcases GD hw with⟨z,_⟩|rfl|⟨x,hx,_,rfl⟩
  .exact h.lt w z
  .exact hp.1
  .exact h.lt x hx
 .rcases GD hw with⟨z,_⟩|rfl|⟨x,hx,_,rfl⟩
  .exact h.nn w z
  .exact hp.2.1
  .have:=h.nn x hx;have:=hp.2.1;show 0<=x.2+p.2
   grind
 .rcases GD hw with⟨z,_⟩|rfl|⟨x,hx,_,rfl⟩
  .exact h.dn w z
  .exact hp.2.2
  .exact Ie hq (h.dn x hx) hp.2.2
 .have:=h.few;unfold zc;split
  .rw[ak,aA];exact aL this (X2 _ _)
  .rw[aA,aA];simp;omega
theorem Ks{m q:Nat}(hq:0<q):∀{ps:List (Nat×Rat)},(∀p∈ps,p.1<m/\0<=p.2/\p.2.den ∣ q)->JnI m q ps (Az ps):=by
 intro ps h
 suffices H:∀(ps as ws:List (Nat×Rat)),(∀p∈ps,p.1<m/\0<=p.2/\p.2.den ∣ q)->JnI m q as ws->JnI m q (as++ps) (ps.foldl zc ws)from H ps [] [] h ⟨.nil,λ_ z=>(nomatch z),λ_ z=>(nomatch z),λ_ z=>(nomatch z),λ_=>rfl,aG _⟩
 intro ps
 induction ps with
 |nil=>intro as ws _ h;rw[List.append_nil];exact h
 |cons p ps ih =>
  intro as ws hp h;have:=ih (as++[p]) (zc ws p) (λx hx=>hp x (aJ _ hx)) (abD hq (hp p (aO ..)) h);rw[WZ]at this;exact this
theorem Dh(y:Nat->Rat):∀ws:List (Nat×Rat),dw (ws.filter λp=>!decide (p.2=0)) y=dw ws y
 |[]=>rfl
 |w::ws=>by
  by_cases e:w.2=0
  .rw[Zyr (by rw[Zs e];decide),Dh y ws,cT,e,Rat.zero_mul,Rat.zero_add]
  .rw[Zxq (by rw[Zp e];rfl),cT,cT,Dh y ws]
theorem Gp{m q:Nat}(hq:0<q){ps:List (Nat×Rat)}(h:∀p∈ps,p.1<m/\0<=p.2/\p.2.den ∣ q):JnI m q ps (vH ps):=by
 have j:=Ks hq h;have sub:∀w∈vH ps,w∈Az ps:=λw hw=>(List.mem_filter.mp hw).1;refine⟨(List.filter_sublist.map _).nodup j.nd,λw hw=>j.lt w (sub w hw),λw hw=>j.nn w (sub w hw),λw hw=>j.dn w (sub w hw),λy=>?_,aL (List.length_filter_le ..) j.few⟩;unfold vH;rw[Dh,j.sum]
theorem sJ{w:Nat×Rat} : ∀{ws:List (Nat×Rat)},(∀w∈ws,0<=w.2)->w∈ws->w.2<=dw ws λ_=>1
 |[],_,h=>by cases h
 |x::ws,nn,h=>by
  rw[cT];have n0:∀ws:List (Nat×Rat),(∀w∈ws,0<=w.2)->0<=dw ws λ_=>1:=λws=>by
   induction ws with
   |nil=>intro _;exact VW
   |cons y ws ih =>
    intro h;rw[cT];have:=h y (aO ..);have:=ih λw hw=>h w (aJ _ hw)
    grind
  rcases YU.mp h with rfl|z
  .have:=n0 ws λw hw=>nn w (aJ _ hw)
   grind
  .have:=sJ (ws:=ws) (λw hw=>nn w (aJ _ hw)) z;have:=nn x (aO ..)
   grind
theorem Bx:∀ps:List (Nat×Rat),(dw ps λ_=>1)=Aa (ps.map (·.2))
 |[]=>rfl
 |p::ps=>by
  rw[cT,Bx ps,Rat.mul_one]
  rfl
theorem LDk.all{m:Nat}{d:LD}(h:LDk m d):∃q:Nat,0<q/\q<=4000/\∀p∈d.prs,p.1<m/\0<=p.2/\p.2.den ∣ q:=by
 obtain⟨q,q0,q1,hq⟩:=h.dn;exact⟨q,q0,q1,λp hp=>⟨h.lt p hp,h.nn p hp,hq p hp⟩⟩
theorem aa6{q:Nat}{r:Rat}(q0:0<q)(q1:q<=4000)(h0:0<=r)(h1:r<=1)(hd:r.den ∣ q):Ch r:=⟨h0,h1,eV (by have:=UX q0 hd;lia)⟩
theorem LDk.prsOk{m:Nat}{d:LD}{ns:Φ}(h:LDk m d)(hn:Nms ns m):Prs (d.prs.map (nmP ns)):=by
 obtain⟨q,q0,q1,hq⟩:=h.all;have le1:∀p∈d.prs,p.2<=1:=λp hp=>by
  rw[<- h.one,<- Bx];exact sJ h.nn hp
 have few:=h.few;have m2:(d.prs.map (nmP ns)).map (·.2)=d.prs.map (·.2):=by rw[WP];rfl
 refine⟨by rw[ak];exact aL few (by decide),λp hp=>?_,?_,by rw[m2];exact h.one,λas a bs e=>?_⟩
 .obtain⟨x,hx,rfl⟩:=YV.mp hp;obtain⟨x1,x2,x3⟩:=hq x hx;have lx:x.1<ns.length:=by rw[hn.len];exact x1
  refine⟨hn.wd _ ?_,aa6 q0 q1 x2 (le1 x hx) x3⟩;show ns.getD x.1 ⟨#[]⟩∈ns;rw[au,aj lx];exact aU lx
 .rw[m2];have:=pK (d.prs.map (·.2)) (n:=1) (m:=q) (QY _) λr hr=>by
   obtain⟨x,hx,rfl⟩:=YV.mp hr;exact(hq x hx).2.2
  have:=UX q0 this;exact eV (by lia)
 .obtain⟨h8,bs',e0,rfl,e2⟩:=List.map_eq_append_iff.mp e;obtain⟨a',cs',rfl,rfl,rfl⟩:=List.map_eq_cons_iff.mp e2;have sub:∀p∈h8,p∈d.prs:=λp hp=>e0 ▸ UH _ hp;have ha:=hq a' (e0 ▸ aP _ (aO ..));have ca:Ch a'.2:=aa6 q0 q1 ha.2.1 (le1 a' (e0 ▸ aP _ (aO ..))) ha.2.2;have j:=Ks q0 (ps:=h8) (m:=m) λp hp=>hq p (sub p hp);rw[Wf hn.nd λp hp=>by rw[hn.len];exact(hq p (sub p hp)).1];have cn:Ch (zM ((Az h8).map (nmP ns)) (nmP ns a').1):=by
   unfold zM;cases ef:((Az h8).map (nmP ns)).find? λx=>decide (x.1=(nmP ns a').1)with
   |none=>exact⟨VW,by show(0:Rat)<=1;decide,eV (by decide)⟩
   |some x =>
    obtain⟨y,hy,rfl⟩:=YV.mp (List.mem_of_find?_eq_some ef);refine aa6 q0 q1 (j.nn y hy) ?_ (j.dn y hy);have l1:=sJ j.nn hy;rw[j.sum]at l1;have l2:=h.one;rw[<- Bx,e0,Jl]at l2;have l3:0<=dw (a'::cs') λ_=>1:=by
     have:∀ws:List (Nat×Rat),(∀w∈ws,0<=w.2)->0<=dw ws λ_=>1:=λws=>by
      induction ws with
      |nil=>intro _;exact VW
      |cons y ws ih =>
       intro h;rw[cT];have:=h y (aO ..);have:=ih λw hw=>h w (aJ _ hw)
       grind
     exact this _ λw hw=>h.nn w (e0 ▸ aP _ hw)
    show y.2<=1
    grind
  refine⟨cn.bq,ca.bq,?_⟩;have:=cn.2.2;have:=UX q0 ha.2.2;have mB:(zM ((Az h8).map (nmP ns)) (nmP ns a').1).den<=4000:=by
   unfold zM;cases ef:((Az h8).map (nmP ns)).find? λx=>decide (x.1=(nmP ns a').1)with
   |none=>exact Tx rfl
   |some x =>
    obtain⟨y,hy,rfl⟩:=YV.mp (List.mem_of_find?_eq_some ef);have:=UX q0 (j.dn y hy);exact aL this q1
  refine eV ?_;rw[VY,XG,XG];exact Y3 (WH mB (show a'.2.den<=4000 by exact aL this q1)) (by decide)
noncomputable def clsOf(D:Adr):Nat->Addr
 |0=>D.Sure
 |1=>D.Toss
 |2=>D.Even
 |_=>D.Mixed
abbrev Sd(t:Str)(d:LD):bN:=⟨t,d.pay,vH d.prs⟩
abbrev wO(D:Adr)(t:Str)(d:LD):Made:=⟨clsOf D d.sort,Sd t d⟩
theorem X5(D:Adr):∀k,c7 D (clsOf D k)
 |0=>by unfold c7 clsOf;simp
 |1=>by unfold c7 clsOf;simp
 |2=>by unfold c7 clsOf;simp
 |_+3=>by unfold c7 clsOf;simp
def Qw(D:Adr):ST:=λts q=>∃(t:Str)(d:LD)(ns:Φ)(m:Nat),ts=[.str t,ldT d,.lst (ns.map T.str)]/\Wd t/\Nms ns m/\LDk m d/\q (.fz (mdT ns (wO D t d)))
theorem aad(F:Fun K Cr Cr z8 f fd)(T:Txt K mg D)(xJ:OkI P w K mg base CX0 5 D.Sure_init oY (spI K (Wo D)))(d_:OkI P w K mg base CX0 5 D.Mixed_init gP (spI K (zZ D)))(vG:OkI P w K mg base CX0 6 D.Toss_init oV (spI K (VJ D)))(vo:OkI P w K mg base CX0 6 D.Even_init nW (spI K (Ve D))):cj P w K mg base CX0 8 f fd Cw (spT K (Qw D)):=by
 refine F.okT wQ (λts R hP=>by obtain⟨_,_,_,_,e,_⟩:=hP;exact e ▸ rfl) λag A outer s H E hr=>?_;refine⟨_,(bC (Ui (qv 1) (fG (n:=3) rfl (bR (b_ (n:=99) 4 wQ.nd (Or.inl rfl)) (bR (b_ (n:=99) 5 wQ.nd (Or.inl rfl)) (bR (b_ (n:=99) 6 wQ.nd (Or.inl rfl)) dF)))))
  (bC (qM (bH z8) Cy Cy ["_law_room","_law_chance"] (cH (qv 6)) (fG (n:=2) rfl (bR (fj (i:=0)) (bR (fj (i:=1)) dF))) cI (cW (bx (bJ (qv 4) (qv 0)) (bx (qv 1) bF))) (lM (i:=3) wQ.nd rfl (Or.inl rfl)))
  (bC (cG (bY (go_eq hr.units) (qv 4) bA)
  (bG (bQ (Bs T.acJ xJ hr.md (by rfl) T.afA (bx (qv 0) (bx (qv 5) (bx (bJ (bJ (qv 3) bA) bA) bF))))))
  bT)
  (bC (cG (bY (go_eq hr.units) (qv 4) bA)
  (bG (bQ (Bs T.ab4 vG hr.md (by rfl) T.agf (bx (qv 0) (bx (qv 5) (bx (bJ (bJ (qv 3) bA) bA) (bx (bJ (bJ (qv 3) bA) bA) (bx (bJ (bJ (qv 3) bA) bA) bF))))))))
  bT)
  (bC (cG (bY (go_eq hr.units) (qv 4) bA)
  (bG (bQ (Bs T.abq vo hr.md (by rfl) T.ags (bx (qv 0) (bx (qv 5) (bx (dI (bH z8) Cy Cy ["_law_room","_law_chance"] (cH (qv 3)) (fG (n:=2) rfl (bR (fj (i:=0)) (bR (fj (i:=1)) dF))) cI (qv 0)) bF))))))
  bT)
  (bG (bQ (Bs T.aaI d_ hr.md (by rfl) T.Mg (bx (qv 0) (bx (qv 5) (bx (qv 3) bF))))))))))),?_⟩
 rintro _ R ⟨t,d,ns,m,rfl,wt,hn,hd,q⟩;have few:=hd.few;have en:∀p∈d.prs,ixT (ns.map L2.T.str) (p.1:Nat)=some (.str (nmP ns p).1):=λp hp=>by
  have lp:p.1<ns.length:=by rw[hn.len];exact hd.lt p hp
  exact cZ (by rw[aj lp];show _=some (ns.getD p.1 ⟨#[]⟩);rw[au,aj lp];rfl)
 have em:(d.prs.map (nmP ns)).map wyT=d.prs.map λp=>wyT (nmP ns p):=by rw[WP];rfl
 have pk:=hd.prsOk hn;have wk:=acI hn.nd (ps:=d.prs) λp hp=>by rw[hn.len];exact hd.lt p hp
 refine⟨rfl,by rw[ak];exact aL few (by decide),comp_map nwT (λp=>wyT (nmP ns p)) d.prs (λp hp N M hN=>⟨rfl,_,en p hp,hN⟩) ?_⟩;rw[<- em];obtain⟨so,pay,prs⟩:=d;have s4:so<4:=hd.sort;have s0:=hd.s0;have s1:=hd.s1;have s2:=hd.s2;dsimp only at *;obtain rfl|rfl|rfl|rfl:so=0\/so=1\/so=2\/so=3:=by lia
 .obtain⟨a,rfl⟩:=s0 rfl;have e1:vH [(a,1)]=[(a,1)]:=by simp[vH,Az,zc]
  have q':R (.fz (drT D.Sure t pay ([(a,1)].map (nmP ns)))):=by rw[<- e1];exact q
  exact⟨_,rfl,t,_,pay,rfl,rfl,Yt D,rfl,wt,(pk.ok (nmP ns (a,1)) (YR.mpr rfl)).1,q'⟩
 .obtain⟨a,b,x,rfl⟩:=s1 rfl;have q':R (.fz (drT D.Toss t pay (Cm ([(a,x),(b,1-x)].map (nmP ns))))):=by rw[wk];exact q
  exact⟨_,rfl,_,rfl,_,rfl,t,_,_,pay,x,rfl,rfl,Yn D,rfl,wt,(pk.ok (nmP ns (a,x)) (aO ..)).2,pk,q'⟩
 .obtain⟨rs,rfl⟩:=s2 rfl;have q':R (.fz (drT D.Even t pay (Cm ((rs.map λr=>(r,mkRat 1 rs.length)).map (nmP ns))))):=by rw[wk];exact q
  have ev:even (((rs.map λr=>(r,mkRat 1 rs.length)).map (nmP ns)).map (·.1))=(rs.map λr=>(r,mkRat 1 rs.length)).map (nmP ns):=by
   have el:(((rs.map λr=>(r,mkRat 1 rs.length)).map (nmP ns)).map (·.1)).length=rs.length:=by simp
   unfold even;rw[el];simp[Function.comp_def]
  refine⟨by rw[ak,ak];exact aL few (by decide),comp_map wyT (λp=>.str p.1) ((rs.map λr=>(r,mkRat 1 rs.length)).map (nmP ns)) (λp hp N M hN=>⟨rfl,hN⟩) ⟨t,pay,((rs.map λr=>(r,mkRat 1 rs.length)).map (nmP ns)).map (·.1),rfl,rfl,aan D,?_,wt,by rw[ev];exact pk,?_⟩⟩
  .rw[show(((rs.map λr=>(r,mkRat 1 rs.length)).map (nmP ns)).map (·.1)).map L2.T.str=((rs.map λr=>(r,mkRat 1 rs.length)).map (nmP ns)).map λp=>L2.T.str p.1 from WP]
   rfl
  .rw[ev];exact q'
 .have q':R (.fz (drT D.Mixed t pay (Cm (prs.map (nmP ns))))):=by rw[wk];exact q
  exact⟨t,pay,prs.map (nmP ns),rfl,rfl,Xz D,rfl,wt,pk,q'⟩
structure yN(ae:List (List LD))(off:List (List bN)):Prop where
 len:off.length=ae.length
 at_:∀(k:Nat)ds os,ae[k]?=some ds->off[k]?=some os->∃tl:Φ,tl.length=ds.length/\os=(tl.zip ds).map λp=>Sd p.1 p.2
theorem Q5{α β:Type} : ∀{xs:List α}{ys:List β}{x:α}(y:β),xs[ys.length]?=some x->xs.zip (ys++[y])=xs.zip ys++[(x,y)]
 |[],ys,_,_,e=>by cases e
 |a::xs,[],x,y,e=>by cases e;simp
 |a::xs,b::ys,x,y,e=>by
  rw[List.cons_append,List.zip_cons_cons,List.zip_cons_cons,Q5 (xs:=xs) (ys:=ys) y (by simpa using e)]
  rfl
theorem Hg{α β:Type}(f:α->T)(g:β->T):∀(xs:List α)(ys:List β),Dk (xs.map f) (ys.map g)=(xs.zip ys).map λp=>.tup [f p.1,g p.2]
 |[],ys=>by cases ys<;>rfl
 |_::_,[]=>rfl
 |x::xs,y::ys=>by
  rw[List.zip_cons_cons,List.map_cons,List.map_cons,List.map_cons,<- Hg f g xs ys]
  rfl
def V1(D:Adr):ST:=λts q=>∃(c:Int)(s:Rat)(m mo:Nat)(ae:List (List LD)),ts=[.int c,frR s,yF ae]/\Shr s/\DSk m mo ae/\m<=26/\mo<=26/\∀ns off,Nms ns m->R5 ns off->yN ae off->q (.fz (hlT D s ns off))
theorem ab6(F:Fun K Gd Gd LR f fd)(T:Txt K mg D)(GK:OkT P w K mg base 2 Ad Aj RD)(Nu:OkT P w K mg base 8 Cr Cw (Qw D))(v9:OkI P w K mg base CX0 4 D.Hall_init n_ (spI K (Wn D))):cj P w K mg base CX0 9 f fd Gr (spT K (V1 D)):=by
 refine F.okT Cz (λts R hP=>by obtain⟨_,_,_,_,_,e,_⟩:=hP;exact e ▸ rfl) λag A outer s H E hr=>?_;refine⟨_,(bC (bM 3 Cz.nd (Or.inr rfl) (bI GK hr.md (by rfl) (bx (qv 0) (bx (bV dh (by rfl) T.dY W1 (bx (qv 2) bF)) bF))))
  (bC (iu 4 Cz.nd (Or.inl rfl) (d7 bF))
  (bC (dB VZ rfl (cY (by rfl) T.dO (bx (bV dh (by rfl) T.dY W1 (bx (qv 2) bF)) bF)) (b_ (n:=99) 5 Cz.nd (Or.inl rfl))
  (bC (bM 6 Cz.nd (Or.inl rfl) (bI GK hr.md (by rfl) (bx (bK cN (qv 0) (qv 5)) (bx (bV dh (by rfl) T.dY W1 (bx (bJ (qv 2) (qv 5)) bF)) bF))))
  (bG (nG 4 (cW (bx (bJ (qv 3) (qv 5)) (bx (dI (bH LR) Sh Sh ["_law_title","_law_door_here"] (Hv (by rfl) T.Ph (bx (qv 6) (bx (bJ (qv 2) (qv 5)) bF))) (fG (n:=2) rfl (bR (fj (i:=0)) (bR (fj (i:=1)) dF))) cI (bI Nu hr.md (by rfl) (bx (qv 0) (bx (qv 1) (bx (qv 5) bF))))) bF)))))))
  (bG (Hs 4 (bQ (Bs T.ac5 v9 hr.md (by rfl) T.aed (bx (qv 1) (bx (qv 4) bF))))))))),?_⟩
 rintro _ R ⟨c,s,m,mo,ae,rfl,hs,hd,m1,mo1,q⟩;have dl:(ae.map λds=>L2.T.lst (ds.map ldT)).length=m:=by rw[ak,hd.len]
 refine⟨c,m,by rw[<- dl];rfl,m1,λns hn=>?_⟩;have nl:=hn.len;have e0:zy ns []=[]:=by simp[zy]
 refine⟨⟨by rw[dl];lia,by rw[dl];lia⟩,jr (λk o=>∃(ms:List (List Made))(x5 x6:OT),o=[.fz (.int c),.fz (frR s),.fz (yF ae),.fz (.lst (ns.map L2.T.str)),.l1 (zy ns ms),x5,x6]/\ms.length=k/\∀(i:Nat)ds x,ae[i]?=some ds->ms[i]?=some x->∃tl,Nms tl ds.length/\x=(tl.zip ds).map λp=>wO D p.1 p.2) ⟨[],.und,.und,by rw[e0];rfl,rfl,λi ds x _ z=>by cases z⟩ ?_ ?_⟩
 .rintro k _ hk ⟨ms,x5,x6,rfl,lm,hm⟩;have hk:k<m:=by rw[dl]at hk;lia
  have lk:k<ae.length:=by rw[hd.len];exact hk
  have ek:=aj lk;have mem:=aU lk;have fk:=hd.few _ mem;have i8:ixT (ae.map λds=>L2.T.lst (ds.map ldT)) (k:Nat)=some (.lst (ae[k].map ldT)):=cZ ek;have nk:ns[k]?=some (ns.getD k ⟨#[]⟩):=by rw[au,aj (by lia)];rfl
  refine⟨_,i8,c+k,ae[k].length,by rw[<- ak (as:=ae[k]) (f:=ldT)];rfl,by exact aL fk mo1,λtl ht=>?_⟩;refine⟨_,cZ nk,_,i8,?_⟩;have zl:(tl.zip ae[k]).length<=26:=by rw[VX];lia
  show(Dk (tl.map L2.T.str) (ae[k].map ldT)).length<=sizeLine/\jd _ _ _ _ (Dk (tl.map L2.T.str) (ae[k].map ldT)) _;rw[Hg];refine⟨by rw[ak];exact aL zl (by decide),comp_map (λp=>.tup [.str p.1,ldT p.2]) (λp=>mdT ns (wO D p.1 p.2)) (tl.zip ae[k]) (λp hp N M hN=>⟨rfl,p.1,p.2,ns,m,rfl,ht.wd _ (VQ hp).1,hn,hd.ok _ mem _ (VQ hp).2,hN⟩) ⟨?_,ms++[(tl.zip ae[k]).map λp=>wO D p.1 p.2],.fz (.int (k:Nat)),.fz (.lst (tl.map L2.T.str)),?_,by rw[aA,lm];rfl,λi ds x e1 e2=>?_⟩⟩
  .rw[ak,VX];exact aR (show _<1000 by lia) (by decide)
  .rw[show zy ns (ms++[(tl.zip ae[k]).map λp=>wO D p.1 p.2])=zy ns ms++[.tup [.str (ns.getD k ⟨#[]⟩),.lst ((tl.zip ae[k]).map λp=>mdT ns (wO D p.1 p.2))]]by
    unfold zy;rw[Q5 (x:=ns.getD k ⟨#[]⟩) _ (by rw[lm];exact nk),bf,List.map_singleton]
    congr 2
    show rmT (_,((tl.zip ae[k]).map λp=>wO D p.1 p.2).map (mdT ns))=_;rw[WP]
    rfl]
   rfl
  .by_cases hi:i<ms.length
   .rw[aF hi]at e2;exact hm i ds x e1 e2
   .have li:=(ao.mp e2).1;rw[aA,List.length_singleton]at li;have:i=k:=by lia
    subst this;rw[aD (WG lm),show i-ms.length=0 by lia]at e2;cases e2;rw[ek]at e1;cases e1;exact⟨tl,ht,rfl⟩
 .rintro _ ⟨ms,x5,x6,rfl,lm,hm⟩;have lm:ms.length=m:=by rw[lm];exact dl
  have all:∀x∈ms,∃ds∈ae,∃tl,Nms tl ds.length/\x=(tl.zip ds).map λp=>wO D p.1 p.2:=λx hx=>by
   obtain⟨i,hi⟩:=aV hx;have li:=(ao.mp hi).1;have ld:i<ae.length:=by rw[hd.len];exact aR li (WG lm)
   exact⟨_,aU ld,hm i _ x (aj ld) hi⟩
  have rk:adN D ns ms:=by
   refine⟨by rw[lm,nl],by lia,hn.wd,hn.nd,λx hx=>?_⟩;obtain⟨ds,di,tl,ht,rfl⟩:=all x hx;have fd:=hd.few ds di;have g4:=ht.len;refine⟨by rw[ak,VX];lia,λy hy=>?_,λy hy=>?_,?_⟩
   .obtain⟨p,_,rfl⟩:=YV.mp hy;exact X5 D _
   .obtain⟨p,hp,rfl⟩:=YV.mp hy;have lk:=hd.ok ds di p.2 (VQ hp).2;obtain⟨qq,q0,q1,hq⟩:=lk.all;have j:=Gp q0 hq;have:=j.few;have:=lk.few;exact⟨by show(vH p.2.prs).length<=1000;lia,λw hw=>by rw[nl];exact j.lt w hw⟩
   .rw[WP];show((tl.zip ds).map λp=>p.1).Nodup;rw[List.map_fst_zip (WG g4)];exact ht.nd
  have bs:Bq s:=⟨eV (by
   have h0:=Rat.num_nonneg.mpr hs.lo;have h1:=(Rat.lt_iff s 1).mp hs.hi;have h1:s.num*((1:Rat).den:Int)<(1:Rat).num*(s.den:Int):=h1;have:=hs.den;simp at h1;lia),eV (by have:=hs.den;lia)⟩
  refine⟨s,ns,ms,rfl,rfl,rfl,rfl,hs.lo,hs.hi,bs,rk,q ns (offs ms) hn ⟨?_,by lia,λos f8=>?_⟩ ⟨?_,λk ds os e1 e2=>?_⟩⟩
  .rw[ak,lm,nl]
  .obtain⟨x,hx,rfl⟩:=YV.mp f8;rw[ak];exact(rk.mds x hx).few
  .rw[ak,lm,hd.len]
  .rw[aq]at e2;cases e3:ms[k]? with
   |none=>rw[e3]at e2;cases e2
   |some x =>
    rw[e3]at e2;cases e2;obtain⟨tl,ht,rfl⟩:=hm k ds x e1 e3;exact⟨tl,ht.len,WP⟩
abbrev Em(k:Nat)(p:Rat):LD:=⟨0,p,[(k,1)]⟩
def ani(ae:List (List LD)):Prop:=∀ds∈ae,∀d∈ds,d.pay.den=1/\d.pay.num.natAbs<=9/\∀p∈d.prs,p.2=1
theorem Lw{p:Rat}(h1:p.den=1)(h2:p.num.natAbs<=9):Pay p:=⟨aL h2 (by decide),by exact aL (WG h1) (by decide)⟩
def Ei:ST:=λts q=>∃(c:Int)(m:Nat),ts=[.int c,.int ((m+1:Nat):Int)]/\m<26/\∀ae:List (List LD),DSk (m+1) 4 ae->(∀ds∈ae,ds.length=2)->ani ae->q (.l1 (ae.map λds=>.lst (ds.map ldT)))
theorem Qn(F:Fun K qT qT yX f fd)(T:Txt K mg D)(cJ:OkT P w K mg base 1 fJ fH gR):cj P w K mg base CX0 2 f fd qH (spT K Ei):=by
 refine F.okT qK (λts R hP=>by obtain⟨_,_,e,_⟩:=hP;exact e ▸ rfl) λag A outer s H E hr=>?_;refine⟨_,(bC (bM 2 qK.nd (Or.inl rfl) (bK cN bA (bK cC (bJ (bI cJ hr.md (by rfl) (bx (qv 0) (bx bA bF))) bA) bA)))
  (bC (iu 3 qK.nd (Or.inl rfl) (d7 bF))
  (bC (dB VZ rfl (cY (by rfl) T.dO (bx (bK mj (qv 1) bA) bF)) (b_ (n:=99) 4 qK.nd (Or.inl rfl))
  (bG (nG 3 (QEB.out (nU (bO (dN (bO dg (bO (dN (bO dg (bO dg cQ))) (bO (nU (bO (dN (bO (KQ 4) (bO (dN (bO dg (bO dg cQ))) cQ))) cQ)) cQ)))) (bO (dN (bO dg (bO (dN (bO dg (bO dg cQ))) (bO (nU (bO (dN (bO (Ml cN (KQ 4) dg) (bO (dN (bO dg (bO dg cQ))) cQ))) cQ)) cQ)))) cQ)))))))
  (bG (Hs 3 (bQ (bK cN (qv 3) (QEB.out (nU (bO (nU (bO (dN (bO dg (bO (dN (bO dg (bO dg cQ))) (bO (nU (bO (dN (bO (Ml mj (KQ 1) dg) (bO (dN (bO dg (bO dg cQ))) cQ))) cQ)) cQ)))) (bO (dN (bO dg (bO (dN (bO (KQ 2) (bO dg cQ))) (bO (nU (bO (dN (bO (Ml mj (KQ 1) dg) (bO (dN (bO dg (bO dg cQ))) cQ))) cQ)) cQ)))) cQ))) cQ)))))))))),?_⟩
 rintro _ R ⟨c,m,rfl,m1,q⟩;have s0:=iY c 0;have e1:((m+1:Nat):Int)-1=(m:Nat):=by lia
 obtain⟨p,ep,p9⟩ : ∃p:Nat,1+strm c 0%9=(p:Nat)/\p<=9:=⟨(1+strm c 0%9).toNat,by lia,by lia⟩;refine⟨c,1,rfl,by decide,_,dM (k:=0) (by decide),by decide,?_⟩;refine⟨⟨by lia,by lia⟩,?_⟩;show uO _ _ _ (rng 0 ((((m+1:Nat):Int)-1).toNat)) _;rw[show((((m+1:Nat):Int)-1).toNat)=m by lia];refine jr (λk o=>∃x,o=[.fz (.int c),.fz (.int ((m+1:Nat):Int)),.fz (.int (p:Nat)),.l1 (((List.range k).map λk=>[Em k 0,Em (k+1) 0]).map λds=>.lst (ds.map ldT)),x]) ⟨.und,?_⟩ ?_ ?_
 .rw[<- ep];rfl
 .rintro k _ hk ⟨x,rfl⟩;refine⟨?_,.fz (.int (k:Nat)),?_⟩
  .rw[ak,ak,WJ];exact aR (show k<100 by lia) (by decide)
  .rw[List.range_succ,bf,bf]
   rfl
 .rintro _ ⟨x,rfl⟩;have cor:=q ((List.range m).map (λk=>[Em k 0,Em (k+1) 0])++[[Em m 0,Em m ((p:Int):Rat)]]) ⟨by simp,λds di=>?_,λds di d hd=>?_⟩ (λds di=>?_) (λds di d hd=>?_)
  .rw[bf]at cor;refine⟨?_,?_⟩
   .show(((List.range m).map λk=>[Em k 0,Em (k+1) 0]).map λds=>L2.T.lst (ds.map ldT)).length+1<=sizeLine;rw[ak,ak,WJ];exact aL (show m+1<=100 by lia) (by decide)
   .show R (OT.l1 (_++[L2.T.lst [L2.T.tup [.int 0,.tup [.int 0,.int 1],.lst [.tup [.int (((m+1:Nat):Int)-1),.tup [.int 1,.int 1]]]],L2.T.tup [.int 0,.tup [.int (p:Nat),.int 1],.lst [.tup [.int (((m+1:Nat):Int)-1),.tup [.int 1,.int 1]]]]]]));rw[e1];exact cor
  .rcases Y1.mp di with z|z
   .obtain⟨k,_,rfl⟩:=YV.mp z;exact Tx rfl
   .rw[YR.mp z];exact Tx rfl
  .rcases Y1.mp di with z|z
   .obtain⟨k,hk,rfl⟩:=YV.mp z;have:=List.mem_range.mp hk;rcases YU.mp hd with rfl|z
    .exact .sure (WU _ this) (Lw rfl (by decide))
    .rw[YR.mp z];exact .sure (Nat.succ_lt_succ this) (Lw rfl (by decide))
   .rw[YR.mp z]at hd;rcases YU.mp hd with rfl|z
    .exact .sure (X1 _) (Lw rfl (by decide))
    .rw[YR.mp z];exact .sure (X1 _) (Lw rfl (by show(p:Int).natAbs<=9;omega))
  .rcases Y1.mp di with z|z
   .obtain⟨k,_,rfl⟩:=YV.mp z
    rfl
   .rw[YR.mp z]
    rfl
  .rcases Y1.mp di with z|z
   .obtain⟨k,hk,rfl⟩:=YV.mp z;rcases YU.mp hd with rfl|z
    .exact⟨rfl,aZ 9,by simp⟩
    .rw[YR.mp z];exact⟨rfl,aZ 9,by simp⟩
   .rw[YR.mp z]at hd;rcases YU.mp hd with rfl|z
    .exact⟨rfl,aZ 9,by simp⟩
    .rw[YR.mp z];exact⟨rfl,by show(p:Int).natAbs<=9;omega,by simp⟩
structure PlD(ae:List (List LD))(pl:List (Option Nat)):Prop where
 len:pl.length=ae.length
 ok:∀(k:Nat)(d:Option Nat)(ds:List LD),pl[k]?=some d->ae[k]?=some ds->Ah d ds.length=true
theorem PlD.snoc{ae:List (List LD)}{k:Nat}{pl:List (Option Nat)}(h:∀(i:Nat)(d:Option Nat)(ds:List LD),i<k->pl[i]?=some d->ae[i]?=some ds->Ah d ds.length=true)(l:pl.length=k){ds:List LD}(ek:ae[k]?=some ds){d:Option Nat}(hd:Ah d ds.length=true):∀(i:Nat)(c:Option Nat)(es:List LD),i<k+1->(pl++[d])[i]?=some c->ae[i]?=some es->Ah c es.length=true:=λi c es hi e1 e2=>by
 by_cases z:i<k
 .rw[aF (by lia)]at e1;exact h i c es z e1 e2
 .have:i=k:=by lia
  subst this;rw[aD (WG l),show i-pl.length=0 by lia]at e1;cases e1;rw[ek]at e2;cases e2;exact hd
def Ku:ST:=λts q=>∃(c:Int)(ae:List (List LD)),ts=[.int c,yF ae]/\ae.length<=100/\∀pl:List (Option Nat),PlD ae pl->q (.l1 (pl.map dT))
theorem X3(F:Fun K xR xR Jj f fd)(T:Txt K mg D)(cJ:OkT P w K mg base 1 fJ fH gR):cj P w K mg base CX0 2 f fd yc (spT K Ku):=by
 refine F.okT xU (λts R hP=>by obtain⟨_,_,e,_⟩:=hP;exact e ▸ rfl) λag A outer s H E hr=>?_;refine⟨_,(bC (bM 2 xU.nd (Or.inl rfl) (bI cJ hr.md (by rfl) (bx (qv 0) (bx (bV dh (by rfl) T.dY W1 (bx (qv 1) bF)) bF))))
  (bC (iu 3 xU.nd (Or.inl rfl) (d7 bF))
  (bC (dB VZ rfl (cY (by rfl) T.dO (bx (bV dh (by rfl) T.dY W1 (bx (qv 1) bF)) bF)) (b_ (n:=99) 4 xU.nd (Or.inl rfl))
  (bG (cG (bY (go_eq hr.units) (bV dh (by rfl) T.dY W1 (bx (bJ (qv 1) (qv 4)) bF)) bA)
  (bG (nG 3 jg))
  (bG (nG 3 (bK cC (bJ (qv 2) (qv 4)) (bV dh (by rfl) T.dY W1 (bx (bJ (qv 1) (qv 4)) bF))))))))
  (bG (jJ 3))))),?_⟩
 rintro _ R ⟨c,ae,rfl,few,q⟩;have dl:(ae.map λds=>L2.T.lst (ds.map ldT)).length=ae.length:=ak ..;refine⟨c,ae.length,by rw[<- dl];rfl,by exact aL few (by decide),⟨by rw[dl];lia,by rw[dl];lia⟩,?_⟩;refine jr (λk o=>∃(pl:List (Option Nat))(x:OT),o=[.fz (.int c),.fz (yF ae),.fz (.lst ((jN c ae.length).map L2.T.int)),.l1 (pl.map dT),x]/\pl.length=k/\∀(i:Nat)(d:Option Nat)(ds:List LD),i<k->pl[i]?=some d->ae[i]?=some ds->Ah d ds.length=true) ⟨[],.und,rfl,rfl,λi d ds z=>absurd z (WV _)⟩ ?_ ?_
 .rintro k _ hk ⟨pl,x,rfl,l,h⟩;have hk:k<ae.length:=by rw[dl]at hk;lia
  have ek:=aj hk;have i8:ixT (ae.map λds=>L2.T.lst (ds.map ldT)) (k:Nat)=some (.lst (ae[k].map ldT)):=cZ ek;have lm:(pl.map dT).length<sizeLine:=by rw[ak];exact aR (show _<1000 by lia) (by decide)
  have s0:=iY c k;refine⟨_,i8,?_⟩;by_cases e:ae[k].length=0
  .refine swT (Zs (by rw[ak];lia)) ⟨lm,pl++[none],.fz (.int (k:Nat)),by rw[bf];rfl,by simp[l],PlD.snoc h l ek (Zs e)⟩
  .have p0:(0:Int)<(ae[k].map ldT).length:=by rw[ak];lia
   refine swF (Zp (by rw[ak];lia)) ⟨_,dM (k:=k) hk,_,i8,p0,lm,?_⟩;have a0:=Z3 (strm c k) (show((ae[k].map ldT).length:Int)≠0 by exact WS p0);have a1:=YY (strm c k) p0;obtain⟨n,en⟩:=Zwv a0;refine⟨pl++[some n],.fz (.int (k:Nat)),?_,by simp[l],PlD.snoc h l ek (Zs ?_)⟩
   .rw[bf];show _=[_,_,_,OT.l1 (pl.map dT++[L2.T.int (n:Nat)]),_];rw[<- en]
    rfl
   .rw[ak]at a1 en;lia
 .rintro _ ⟨pl,x,rfl,l,h⟩;have l:pl.length=ae.length:=by rw[l];exact dl
  exact q pl ⟨l,λk d ds e1 e2=>h k d ds (by rw[dl];have:=(ao.mp e1).1;lia) e1 e2⟩
open Rw (sg fY fu bW gn gU Big)
def Rz(n d:Nat)(r:Rat):Prop:=r.num.natAbs<=10^n/\r.den<=10^d
theorem Uj{n d:Nat}{a b:Int}(hb:0<b)(h1:a.natAbs<=10^n)(h2:b.toNat<=10^d):Rz n d (Rat.divInt a b):=by
 obtain⟨x,y⟩:=div_pos (a:=a) hb;exact⟨aL y h1,aL x h2⟩
theorem Rz.mul{n d n' d':Nat}{a b:Rat}(ha:Rz n d a)(hb:Rz n' d' b):Rz (n+n') (d+d') (a*b):=by
 have e:a*b=Rat.divInt (a.num*b.num) (a.den*b.den):=by rw[<- T2,rd,rd]
 have p:(0:Int)<(a.den:Int)*b.den:=XZ (by have:=a.den_pos;lia) (by have:=b.den_pos;lia);rw[e];refine Uj p ?_ ?_
 .rw[VY,VT];exact WH ha.1 hb.1
 .rw[<- Th,Zyv,VT];exact WH ha.2 hb.2
theorem Rz.add{n d n' d' k:Nat}{a b:Rat}(ha:Rz n d a)(hb:Rz n' d' b)(h1:n+d'<=k)(h2:n'+d<=k):Rz (k+1) (d+d') (a+b):=by
 have e:a+b=Rat.divInt (a.num*b.den+b.num*a.den) (a.den*b.den):=by rw[<- JJ _ _ (jk a) (jk b),rd,rd]
 have p:(0:Int)<(a.den:Int)*b.den:=XZ (by have:=a.den_pos;lia) (by have:=b.den_pos;lia);rw[e];refine Uj p ?_ ?_
 .have x:(a.num*b.den).natAbs<=10^k:=by
   rw[VY,XG];exact aL (WH ha.1 hb.2) (by rw[<- VT];exact XT (by decide) h1)
  have y:(b.num*a.den).natAbs<=10^k:=by
   rw[VY,XG];exact aL (WH hb.1 ha.2) (by rw[<- VT];exact XT (by decide) h2)
  have z:=Int.natAbs_add_le (a.num*b.den) (b.num*a.den);rw[Nat.pow_succ];lia
 .rw[<- Th,Zyv,VT];exact WH ha.2 hb.2
theorem g_{n:Nat}{i:Int}(h:i.natAbs<=10^n)(hn:n<=2400):Bd i:=Y3 (aL h (XT (by decide) hn)) (by decide +kernel)
theorem Rz.bq{n d:Nat}{r:Rat}(h:Rz n d r)(hn:n<=2400)(hd:d<=2400):Bq r:=⟨g_ h.1 hn,g_ (by rw[XG];exact h.2) hd⟩
theorem Rz.dd{n d n' d':Nat}{a b:Rat}(ha:Rz n d a)(hb:Rz n' d' b)(h:d+d'<=2400):Bd ((a.den:Int)*b.den):=g_ (n:=d+d') (by
 rw[VY,XG,XG,VT];exact WH ha.2 hb.2) h
theorem Dw{r:Rat}{A:Nat}(h1:r<=(A:Rat))(h2 : -(A:Rat)<=r):r.num.natAbs<=A*r.den:=by
 have a:=(Rat.le_iff r (A:Rat)).mp h1;have b:=(Rat.le_iff (-(A:Rat)) r).mp h2;have a:r.num*((1:Nat):Int)<=(A:Int)*(r.den:Int):=a;have b : -(A:Int)*(r.den:Int)<=r.num*((1:Nat):Int):=b;have c:((A*r.den:Nat):Int)=(A:Int)*r.den:=Th ..;rw[Int.neg_mul]at b;omega
structure OfB(m PN PD CQ:Nat)(o:bN):Prop where
 pn:o.pay.num.natAbs<=PN
 pd:o.pay.den<=PD
 cq:∃q:Nat,0<q/\q<=CQ/\∀w∈o.ways,w.2.den ∣ q
 nd:(o.ways.map (·.1)).Nodup
 few:o.ways.length<=1000
 lt:∀w∈o.ways,w.1<m
 nn:∀w∈o.ways,0<=w.2
 one:yE o.ways<=1
theorem Gv:∀ws:List (Nat×Rat),yE ws=dw ws λ_=>1
 |[]=>rfl
 |w::ws=>by rw[tu,cT,Gv ws,Rat.mul_one]
theorem OfB.le1{m PN PD CQ:Nat}{o:bN}(h:OfB m PN PD CQ o){w:Nat×Rat}(hw:w∈o.ways):w.2<=1:=by
 have:=sJ h.nn hw;rw[<- Gv]at this;exact US this h.one
theorem aa5{m mo:Nat}{ae:List (List LD)}{off:List (List bN)}(hd:DSk m mo ae)(ho:yN ae off):∀ds∈off,∀o∈ds,OfB m (10^30) 1000 4000 o:=λos f8 o j1=>by
 obtain⟨k,ek⟩:=aV f8;have lk:k<ae.length:=by rw[<- ho.len];exact(ao.mp ek).1
 obtain⟨tl,_,rfl⟩:=ho.at_ k _ os (aj lk) ek;obtain⟨p,hp,rfl⟩:=YV.mp j1;have lk:=hd.ok _ (aU lk) p.2 (VQ hp).2;obtain⟨q,q0,q1,hq⟩:=lk.all;have j:=Gp q0 hq;have f1:=j.few;have f2:=lk.few;exact⟨lk.pay.num,lk.pay.den,⟨q,q0,q1,j.dn⟩,j.nd,by show(vH p.2.prs).length<=1000;lia,j.lt,j.nn,by
  show yE (vH p.2.prs)<=1;rw[Gv,j.sum,Bx,lk.one];exact VW⟩
theorem R8{m mo:Nat}{ae:List (List LD)}{off:List (List bN)}(hd:DSk m mo ae)(ht:∀ds∈ae,∀d∈ds,d.pay.den=1/\d.pay.num.natAbs<=9/\∀p∈d.prs,p.2=1)(ho:yN ae off):∀ds∈off,∀o∈ds,OfB m 9 1 1 o:=λos f8 o j1=>by
 have B:=aa5 hd ho os f8 o j1;obtain⟨k,ek⟩:=aV f8;have lk:k<ae.length:=by rw[<- ho.len];exact(ao.mp ek).1
 obtain⟨tl,_,rfl⟩:=ho.at_ k _ os (aj lk) ek;obtain⟨p,hp,rfl⟩:=YV.mp j1;obtain⟨t1,t2,t3⟩:=ht _ (aU lk) p.2 (VQ hp).2;have lk:=hd.ok _ (aU lk) p.2 (VQ hp).2;have j:=Gp (q:=1) UY (m:=m) (ps:=p.2.prs) λx hx=>⟨lk.lt x hx,lk.nn x hx,by rw[t3 x hx];exact Nat.dvd_refl 1⟩;exact⟨t2,by show p.2.pay.den<=1;exact WG t1,⟨1,UY,aG _,j.dn⟩,B.nd,B.few,B.lt,B.nn,B.one⟩
open Rw (sg fY fu bW gn gU Big)
theorem af2{ws:List (Nat×Rat)}(nn:∀w∈ws,0<=w.2)(j:Nat):0<=rY ws j/\rY ws j<=yE ws:=by
 induction ws with
 |nil=>exact⟨VW,VW⟩
 |cons w ws ih =>
  have:=nn w (aO ..);obtain⟨a,b⟩:=ih λx hx=>nn x (aJ _ hx);rw[tu];show 0<=(if w.1=j then w.2 else 0)+rY ws j/\(if w.1=j then w.2 else 0)+rY ws j<=_;split<;>grind
theorem YX{q:Nat}(hq:0<q){ws:List (Nat×Rat)}(h:∀w∈ws,w.2.den ∣ q)(j:Nat):(rY ws j).den ∣ q:=by
 induction ws with
 |nil=>exact QY _
 |cons w ws ih =>
  refine Ie hq ?_ (ih λx hx=>h x (aJ _ hx));split
  .exact h w (aO ..)
  .exact QY _
abbrev qO(c:Option bN):Nat:=cD 1 ((gq c).map (·.2))
def CoB(m PN PD CQ:Nat)(c:Option bN):Prop:=∀o,c=some o->OfB m PN PD CQ o
theorem CoB.sh{s:Rat}{m PN PD CQ:Nat}{c:Option bN}(h:CoB m PN PD CQ c):ShB s m (gq c):=by
 cases c with
 |none=>exact⟨λ_ z=>(nomatch z),λ_ z=>(nomatch z),by show(0:Rat)<=1;decide⟩
 |some o=>have b:=h o rfl;exact⟨b.lt,b.nn,b.one⟩
theorem Y5(c:Option bN):0<qO c:=eY _ UY
theorem ae5{c:Option bN}{w:Nat×Rat}(hw:w∈gq c):w.2.den ∣ qO c:=(jy _).2 _ (YV.mpr ⟨w,hw,rfl⟩)
theorem CoB.q{m PN PD CQ:Nat}{c:Option bN}(h:CoB m PN PD CQ c)(h1:1<=CQ):qO c<=CQ:=by
 cases c with
 |none=>exact h1
 |some o =>
  obtain⟨q,q0,q1,hq⟩:=(h o rfl).cq;refine aL (UX q0 (pK _ (QY _) λr hr=>?_)) q1;obtain⟨w,hw,rfl⟩:=YV.mp hr;exact hq w hw
theorem CoB.pd{m PN PD CQ:Nat}{c:Option bN}(h:CoB m PN PD CQ c)(h1:1<=PD):(jX c).den<=PD:=by
 cases c with
 |none=>exact h1
 |some o=>exact(h o rfl).pd
theorem CoB.pn{m PN PD CQ:Nat}{c:Option bN}(h:CoB m PN PD CQ c):(jX c).num.natAbs<=PN:=by
 cases c with
 |none=>exact aZ _
 |some o=>exact(h o rfl).pn
theorem uV:((1:Nat):Rat)=1:=rfl
theorem aei{s:Rat}{m PN PD CQ:Nat}{cs:List (Option bN)}{i j:Nat}(s0:0<=s)(s1:s<1)(h:CoB m PN PD CQ (cs.getD i none)):(eF s cs i j).den ∣ s.den*qO (cs.getD i none)/\(eF s cs i j).num.natAbs<=1*(eF s cs i j).den:=by
 have sh:=CoB.sh (s:=s) h;obtain⟨a,b⟩:=af2 sh.nn j;have b1:=US b sh.one;have c1:s*rY (gq (cs.getD i none)) j<=1:=by
  have:=UR b1 s0
  grind
 have c0:0<=s*rY (gq (cs.getD i none)) j:=Zyw s0 a;have sd:=s.den_pos;have qp:=Y5 (cs.getD i none);refine⟨?_,Dw ?_ ?_⟩
 .unfold eF;rw[Rat.sub_eq_add_neg];refine Ie (QQ sd qp) ?_ ?_
  .split<;>exact QY _
  .rw[ac2];exact den_mul sd qp (Nat.dvd_refl _) (YX qp (λw hw=>ae5 hw) j)
 .unfold eF;rw[uV];split<;>grind
 .unfold eF;rw[uV];split<;>grind
theorem Wa{s:Rat}{cs:List (Option bN)}{PN PD CQ:Nat}(hs:Shr s)(few:cs.length<=100)(h:∀c∈cs,CoB cs.length PN PD CQ c)(h1:1<=PD)(h2:1<=CQ){N:Nat}(hN:N=(PN+1)*(100*CQ*PD))(mb:(2*cs.length*N)^cs.length<=NN)(nn:N<=NN):Sys (Ab (zu s cs) (cs.map jX)) N:=by
 have gc:∀i,i<cs.length->CoB cs.length PN PD CQ (cs.getD i none):=λi hi=>h _ (by rw[au,aj hi];exact aU hi);have sd:=s.den_pos;have all:∀i,i<cs.length->∀c∈((List.range cs.length).map λj=>eF s cs i j)++[jX (cs.getD i none)],c.den ∣ s.den*qO (cs.getD i none)*(jX (cs.getD i none)).den/\c.num.natAbs<=(PN+1)*c.den:=λi hi c hc=>by
  rcases Y1.mp hc with z|z
  .obtain⟨j,_,rfl⟩:=YV.mp z;obtain⟨a,b⟩:=aei (j:=j) hs.lo hs.hi (gc i hi);exact⟨Nat.dvd_trans a (Nat.dvd_mul_right _ _),aL b (QU _ (Nat.le_add_left _ _))⟩
  .rw[YR.mp z];refine⟨Nat.dvd_mul_left _ _,?_⟩;have:=(gc i hi).pn;have:=(jX (cs.getD i none)).den_pos;exact aL (show _<=(PN+1)*1 by lia) (U2 _ this)
 have qp:∀i,i<cs.length->0<s.den*qO (cs.getD i none)*(jX (cs.getD i none)).den/\s.den*qO (cs.getD i none)*(jX (cs.getD i none)).den<=100*CQ*PD:=λi hi =>
  ⟨QQ (QQ sd (Y5 _)) (Rat.den_pos _),WH (WH hs.den ((gc i hi).q h2)) ((gc i hi).pd h1)⟩
 refine⟨λr hr=>?_,by rw[uq];exact few,λr hr=>?_,λr hr c hm=>?_,?_,by rw[uq];exact mb,nn,?_⟩
 .obtain⟨i,hi,rfl⟩:=FZ hr;rw[uq,aA,ak,WJ];rfl
 .obtain⟨i,hi,rfl⟩:=FZ hr;obtain⟨a,b⟩:=qp i hi;exact(acR (Nat.le_add_left _ _) a (all i hi)).le (by rw[hN];exact U2 _ b)
 .obtain⟨i,hi,rfl⟩:=FZ hr;obtain⟨a,b⟩:=all i hi c hm;obtain⟨p,q⟩:=qp i hi;exact bdN (aL b (aL (U2 _ (aL (UX p a) q)) (by rw[<- hN];exact nn)))
 .rw[hN];exact QQ (T1 _) (QQ (QQ (by decide) (aR (X1 _) h2)) (aR (X1 _) h1))
 .rw[uq];exact λx h0 hx=>acW hs.lo hs.hi (λi hi=>(gc i hi).sh) x h0 hx
theorem Bg{s:Rat}(hs:Shr s):Rz 2 2 s:=by
 have a:=Dw (r:=s) (A:=1) (TZ hs.hi) (by have:=hs.lo;rw[uV];grind);have:=hs.den;exact⟨aL a (by lia),this⟩
theorem Zw{m PN PD CQ:Nat}{o:bN}(h:OfB m PN PD CQ o)(hc:CQ<=10^4){w:Nat×Rat}(hw:w∈o.ways):Rz 4 4 w.2:=by
 obtain⟨q,q0,q1,hq⟩:=h.cq;have d:=UX q0 (hq w hw);have a:=Dw (r:=w.2) (A:=1) (h.le1 hw) (by have:=h.nn w hw;rw[uV];grind);exact⟨aL a (by lia),by lia⟩
theorem ad0{m PN PD CQ:Nat}{off:List (List bN)}{pl:List (Option Nat)}(ob:∀ds∈off,∀o∈ds,OfB m PN PD CQ o):∀c∈chO off pl,CoB m PN PD CQ c:=λc hc o eo=>by
 obtain⟨p,hp,rfl⟩:=YV.mp hc;cases e:p.1 with
 |none=>rw[e]at eo;cases eo
 |some d =>
  rw[e]at eo;have eo:(off.getD p.2 [])[d]?=some o:=eo;by_cases l:p.2<off.length
  .rw[au,aj l]at eo;exact ob _ (aU l) o (aC eo)
  .have:off[p.2]?=none:=aM (VU l);rw[au,this]at eo;cases eo
theorem aen{s:Rat}{off:List (List bN)}{PN PD CQ N:Nat}(hs:Shr s)(few:off.length<=100)(ob:∀ds∈off,∀o∈ds,OfB off.length PN PD CQ o)(h1:1<=PD)(h2:1<=CQ)(hc:CQ<=10^4)(hN:N=(PN+1)*(100*CQ*PD))(mb:(2*off.length*N)^off.length<=NN)(nn:N<=NN){pl:List (Option Nat)}(hp:PlT off pl):WoB s (chO off pl) N:=by
 have cl:=G_ hp;have co:=ad0 (pl:=pl) ob;have sz:=Bg hs;refine⟨sz.bq (by decide) (by decide),λc hm=>?_,Wa hs (aL (WG cl) few) (by rw[cl];exact co) h1 h2 hN (by rw[cl];exact mb) nn⟩;rw[cl];cases c with
 |none=>exact⟨.nil,aZ _,λ_ z=>(nomatch z),λ_ z=>(nomatch z)⟩
 |some o =>
  have b:=co _ hm o rfl;refine⟨b.nd,b.few,b.lt,λw hw=>?_⟩;have wz:=Zw b hc hw;exact⟨wz.bq (by decide) (by decide),sz.dd wz (by decide),(sz.mul wz).bq (by decide) (by decide)⟩
theorem UJ(rs:List Rat)(n M:Nat)(hM:0<M):(∀r∈rs,r.den<=M)->cD n rs<=n*M^rs.length:=by
 induction rs generalizing n with
 |nil=>intro _;show n<=n*1;lia
 |cons r rs ih =>
  intro h;have l1:Nat.lcm n r.den<=n*M:=aL (by unfold Nat.lcm;exact Zyy _ _) (U2 _ (h r (aO ..)));refine aL (ih (Nat.lcm n r.den) λx hx=>h x (aJ _ hx)) ?_;rw[List.length_cons,Nat.pow_succ,TU (M^rs.length),<- Nat.mul_assoc];exact QU _ l1
theorem Ws{α:Type}(g:α->Int)(b:Nat):∀ws:List α,(∀w∈ws,(g w).natAbs<=b)->(ws.map g).sum.natAbs<=ws.length*b
 |[],_=>by simp
 |w::ws,h=>by
  have a:=h w (aO ..);have c:=Ws g b ws λx hx=>h x (aJ _ hx);rw[List.map_cons,QR,List.length_cons,Nat.add_mul,Q4];have:=Int.natAbs_add_le (g w) (ws.map g).sum;lia
theorem agw{s:Rat}{m PN PD CQ t b:Nat}{o:bN}{tp:List Int}{B:Nat}(hs:Shr s)(h:OfB m PN PD CQ o)(hc:CQ<=10^4)(hn:PN<=10^30)(hp:PD<=10^3)(tl:tp.length=m)(ht:∀x∈tp,x.natAbs<=10^t)(hB:B<=10^b)(lt:t<=2000)(lb:b<=2000):LkB s o tp B/\Bq (je s tp B o):=by
 obtain⟨q,q0,q1,hq⟩:=h.cq;have lq:cD 1 (o.ways.map (·.2))<=10^4:=aL (UX q0 (pK _ (QY _) λr hr=>by
  obtain⟨w,hw,rfl⟩:=YV.mp hr;exact hq w hw)) (aL q1 hc)
 have lp:=eY (o.ways.map (·.2)) UY;have sz:=Bg hs;have pz:Rz 30 3 o.pay:=⟨aL h.pn hn,aL h.pd hp⟩;have bz:Rz b 0 (B:Rat):=⟨hB,aG 1⟩;have part:∀w∈o.ways,(w.2.num*((cD 1 (o.ways.map (·.2))/w.2.den:Nat):Int)).natAbs<=10^8:=λw hw=>by
  rw[VY,XG];exact aL (WH (Zw h hc hw).1 (aL (Zyy _ _) lq)) (by decide)
 have top:∀k,(tp.getD k 0).natAbs<=10^t:=λk=>by
  rw[au];cases e:tp[k]? with
  |none=>exact aZ _
  |some x=>exact ht x (aC e)
 have dz:Rz (t+11) 4 (E_ o.ways tp):=by
  rw[<- MK lp tp o.ways λw hw=>(jy _).2 _ (YV.mpr ⟨w,hw,rfl⟩)];refine Uj (by lia) ?_ (by rw[Zyv];exact lq);refine aL (Ws _ (10^8*10^t) o.ways λw hw=>?_) ?_
  .rw[VY];exact WH (part w hw) (top w.1)
  .refine aL (QU _ h.few) ?_;rw[show(1000:Nat)=10^3 from rfl,<- Nat.mul_assoc,<- VT,<- VT];exact XT (by decide) (by lia)
 have p1:=pz.mul bz;have p2:=sz.mul dz;refine⟨⟨⟨h.few,λw hw=>by rw[tl];exact h.lt w hw,λw hw=>((Zw h hc hw).bq (by decide) (by decide)).1,g_ (n:=4) (by rw[XG];exact lq) (by decide),λx hx=>?_,λx hx=>g_ (ht x hx) (aL lt (by decide))⟩,pz.bq (by decide) (by decide),sz.bq (by decide) (by decide),g_ (n:=b) (by rw[XG];exact hB) (aL lb (by decide)),dz.bq (by lia) (by decide),sz.dd dz (by decide),p1.bq (by lia) (by decide),p2.bq (by lia) (by decide),p1.dd p2 (by decide)⟩,(p1.add p2 (k:=2100) (by lia) (by lia)).bq (by decide) (by decide)⟩;unfold tops at hx;rw[WP]at hx;obtain⟨w,hw,rfl⟩:=YV.mp hx;exact g_ (n:=8) (part w hw) (by decide)
theorem Zg{c:Nat}(hc:1<=c):∀{off:List (List bN)},(∀ds∈off,ds.length<=c)->(sZ off).length<=c^off.length
 |[],_=>aG 1
 |ds::off,h=>by
  have ih:=Zg hc (off:=off) λx hx=>h x (aJ _ hx);have l:∀(as:List (Option Nat)),((as.map λd=>(sZ off).map λpl=>d::pl).flatten).length=as.length*(sZ off).length:=λas=>by
   induction as with
   |nil=>simp
   |cons a as ih=>rw[List.map_cons,List.flatten_cons,aA,ak,ih,List.length_cons,Nat.add_mul,Q4,Nat.add_comm]
  unfold sZ;rw[l,List.length_cons,Nat.pow_succ,TU];refine WH ih ?_;split
  .exact hc
  .rw[ak,WJ];exact h ds (aO ..)
theorem YQ{s:Rat}{off:List (List bN)}{PN PD CQ N e:Nat}(hs:Shr s)(few:off.length<=100)(ob:∀ds∈off,∀o∈ds,OfB off.length PN PD CQ o)(h1:1<=PD)(h2:1<=CQ)(hc:CQ<=10^4)(hn:PN<=10^30)(hp:PD<=10^3)(hN:N=(PN+1)*(100*CQ*PD))(mb:(2*off.length*N)^off.length<=10^e)(he:e<=600)(nn:N<=NN)(le:e+e*off.length<=2000)(pls:(sZ off).length<sizeLine):MnB s off N:=by
 have mn:(2*off.length*N)^off.length<=NN:=aL mb (XT (by decide) he);refine⟨hs.lo,hs.hi,few,λds di o ho=>let b:=ob ds di o ho;⟨b.lt,b.nn,b.one⟩,λpl bg=>aen hs few ob h1 h2 hc hN mn nn bg,λys yl yb=>?_,pls⟩;have yn:∀r∈ys,r.num.natAbs<=10^e:=λr hr=>aL (yb r hr).n mb;have yd:∀r∈ys,r.den<=10^e:=λr hr=>aL (yb r hr).d mb;have lc:cD 1 ys<=10^(e*off.length):=by
  have:=UJ ys 1 (10^e) (Zzz (by decide)) yd;rw[Q4,yl,<- Nat.pow_mul]at this;exact this
 refine⟨by lia,λr hr=>g_ (yn r hr) (aL he (by decide)),g_ (n:=e*off.length) (by rw[XG];exact lc) (by lia),λds di o ho=>agw (t:=e+e*off.length) (b:=e*off.length) hs (ob ds di o ho) hc hn hp (by unfold tops;rw[ak];exact yl) (λx hx=>?_) lc (by omega) (by lia)⟩;obtain⟨r,hr,rfl⟩:=YV.mp hx;rw[VY,XG,VT];exact WH (yn r hr) (aL (Zyy _ _) lc)
theorem agn{m:Nat}(h:m<=6):(2*m*((10^30+1)*(100*4000*1000)))^m<=10^246:=by
 obtain rfl|rfl|rfl|rfl|rfl|rfl|rfl:m=0\/m=1\/m=2\/m=3\/m=4\/m=5\/m=6:=by lia
 all_goals decide +kernel
theorem ac6{m:Nat}(h:m<=8):(2*m*((9+1)*(100*1*1)))^m<=10^40:=by
 obtain rfl|rfl|rfl|rfl|rfl|rfl|rfl|rfl|rfl:m=0\/m=1\/m=2\/m=3\/m=4\/m=5\/m=6\/m=7\/m=8:=by lia
 all_goals decide +kernel
def Small(m:Nat)(ae:List (List LD)):Prop:=m<=6\/(m<=8/\∀ds∈ae,∀d∈ds,d.pay.den=1/\d.pay.num.natAbs<=9/\∀p∈d.prs,p.2=1)
theorem abI{s:Rat}{m:Nat}{ae:List (List LD)}{off:List (List bN)}(hs:Shr s)(hd:DSk m 4 ae)(sm:Small m ae)(ho:yN ae off):∃N,MnB s off N:=by
 have ol:off.length=m:=by rw[ho.len,hd.len]
 have fo:∀ds∈off,ds.length<=4:=λos f8=>by
  obtain⟨k,ek⟩:=aV f8;have lk:k<ae.length:=by rw[<- ho.len];exact(ao.mp ek).1
  obtain⟨tl,_,rfl⟩:=ho.at_ k _ os (aj lk) ek;have:=hd.few _ (aU lk);rw[ak,VX];lia
 have pl:=Zg (by decide:1<=4) fo;rcases sm with h|⟨h,ht⟩
 .have l:4^off.length<=4^8:=XT (by decide) (by lia);exact⟨_,YQ (e:=246) hs (by lia) (by rw[ol];exact aa5 hd ho) (by decide) (by decide) (by decide) (by decide) (by decide) rfl (agn (aL (WG ol) h)) (by decide) (by decide +kernel) (by have:246*off.length<=246*6:=U2 _ (aL (WG ol) h);lia) (Y3 (aL pl l) (by decide))⟩
 .have l:4^off.length<=4^8:=XT (by decide) (aL (WG ol) h);exact⟨_,YQ (e:=40) hs (by lia) (by rw[ol];exact R8 hd ht ho) (by decide) (by decide) (by decide) (by decide) (by decide) rfl (ac6 (aL (WG ol) h)) (by decide) (by decide +kernel) (by have:40*off.length<=40*8:=U2 _ (aL (WG ol) h);lia) (Y3 (aL pl l) (by decide))⟩
theorem ab7{ae:List (List LD)}{off:List (List bN)}(ho:yN ae off){pl:List (Option Nat)}(h:PlD ae pl):PlT off pl:=by
 refine⟨by rw[h.len,ho.len],λk d os e1 e2=>?_⟩;have lk:k<ae.length:=by rw[<- ho.len];exact(ao.mp e2).1
 have ek:=aj lk;obtain⟨tl,g4,rfl⟩:=ho.at_ k _ os ek e2;have:=h.ok k d _ e1 ek;rw[ak,VX,g4,UV];exact this
noncomputable abbrev pT(a b:Int):T:=.tup [.int a,.int b]
theorem div_mul{a b:Int}(hb:0<b):Rat.divInt a b*(b:Rat)=(a:Rat):=by
 have:(b:Rat)≠0:=λz=>by have:=Rat.intCast_eq_zero_iff.mp z;lia
 rw[UK]
 grind
theorem cast_pos{b:Int}(hb:0<b):(0:Rat)<(b:Rat):=Rat.intCast_lt_intCast.mpr hb
theorem TY{a b c d:Int}(hb:0<b)(hd:0<d):Rat.divInt a b<Rat.divInt c d↔a*d<c*b:=by
 have e1:=div_mul (a:=a) hb;have e2:=div_mul (a:=c) hd;have pb:=cast_pos hb;have pd:=cast_pos hd;rw[<- Rat.intCast_lt_intCast,XV,XV,<- e1,<- e2];generalize Rat.divInt a b=x;generalize Rat.divInt c d=y;have pp:(0:Rat)<(b:Rat)*(d:Rat):=Rat.mul_pos pb pd;rw[show x*(b:Rat)*(d:Rat)=x*((b:Rat)*(d:Rat))from Rat.mul_assoc ..,show y*(d:Rat)*(b:Rat)=y*((b:Rat)*(d:Rat))by grind];exact(Zxs pp).symm
noncomputable abbrev VV:Nat:=10^32
structure YsB(ys:List Rat):Prop where
 dn:∀y∈ys,y.den<=10^580
 hi:∀y∈ys,y<=(VV:Rat)
 lo:∀y∈ys,-(VV:Rat)<=y
theorem YsB.num{ys:List Rat}(h:YsB ys){y:Rat}(hy:y∈ys):y.num.natAbs<=10^612:=by
 refine aL (Dw (h.hi y hy) (h.lo y hy)) ?_;rw[show 10^612=VV*10^580 by unfold VV;rw[<- VT]];exact U2 _ (h.dn y hy)
theorem YsB.z{ys:List Rat}(h:YsB ys){y:Rat}(hy:y∈ys):Rz 612 580 y:=⟨h.num hy,h.dn y hy⟩
theorem YsB.get{ys:List Rat}(h:YsB ys)(k:Nat):Rz 612 580 (ys.getD k 0)/\ys.getD k 0<=(VV:Rat)/\-(VV:Rat)<=ys.getD k 0:=by
 rw[au];cases e:ys[k]? with
 |none=>exact⟨⟨aZ _,Zzz (by decide)⟩,by show(0:Rat)<=_;decide +kernel,by show _<=(0:Rat);decide +kernel⟩
 |some y=>have m:=aC e;exact⟨h.z m,h.hi y m,h.lo y m⟩
theorem abe{a b:Int}{A:Nat}(hb:0<b)(h1:Rat.divInt a b<=(A:Rat))(h2 : -(A:Rat)<=Rat.divInt a b):a.natAbs<=A*b.toNat:=by
 have e:=div_mul (a:=a) hb;have pb:=cast_pos hb;have x:(a:Rat)<=(((A:Int)*b:Int):Rat):=by
  rw[<- e,XV];exact Qr h1 (TZ pb)
 have y:((-((A:Int)*b):Int):Rat)<=(a:Rat):=by
  rw[<- e,Rat.intCast_neg,XV];have:=Qr h2 (TZ pb);rw[Rat.neg_mul]at this;exact this
 have x:=Rat.intCast_le_intCast.mp x;have y:=Rat.intCast_le_intCast.mp y;have c:((A*b.toNat:Nat):Int)=(A:Int)*b:=by rw[Th,Zxv (XY hb)]
 omega
def MF(s:Rat)(y:Nat->Rat)(d:LD):Rat:=d.pay+s*dw d.prs y
theorem Zq{y:Nat->Rat}{C:Rat}(hC:0<=C){ws:List (Nat×Rat)}(nn:∀w∈ws,0<=w.2)(one:(dw ws λ_=>1)<=1)(hi:∀k,y k<=C)(lo:∀k,-C<=y k):dw ws y<=C/\-C<=dw ws y:=by
 have a:=Qd (M:=C) (x:=y) (ws:=ws) λw hw=>⟨nn w hw,hi w.1⟩;have b:=Qd (M:=C) (x:=λk=>-(y k)) (ws:=ws) λw hw=>⟨nn w hw,by have:=lo w.1;grind⟩;rw[Nx]at b;rw[<- Gv]at one;have c:yE ws*C<=1*C:=Qr one hC;constructor<;>grind
theorem aec{as bs:List (Nat×Rat)}(nn:∀w∈as++bs,0<=w.2)(one:(dw (as++bs) λ_=>1)<=1):(dw as λ_=>1)<=1:=by
 rw[Jl]at one;have:0<=dw bs λ_=>1:=by
  clear one
  induction bs with
  |nil=>exact VW
  |cons w ws ih =>
   rw[cT];have:=ih λx hx=>nn x (by rcases Y1.mp hx with z|z;exact UH _ z;exact aP _ (aJ _ z));have:=nn w (aP _ (aO ..))
   grind
 grind
open Rw (sg fY fu bW gn gU Big sz)
def Sq(s:Rat)(y:Nat->Rat)(ae:List (List LD))(pl:List (Option Nat))(k:Nat):Rat:=match(pl.getD k none).bind λd=>(ae.getD k [])[d]? with
 |none=>0
 |some d=>MF s y d
theorem Vm{s:Rat}{y:Nat->Rat}{m:Nat}{d:LD}{t:Str}(h:LDk m d):Wt s y (Sd t d)=MF s y d:=by
 obtain⟨q,q0,_,hq⟩:=h.all;unfold Wt MF;rw[(Gp q0 hq).sum]
theorem acs{ae:List (List LD)}{off:List (List bN)}(ho:yN ae off)(k d:Nat):∃t:Str,(off.getD k [])[d]?=((ae.getD k [])[d]?).map (Sd t):=by
 by_cases hk:k<ae.length
 .have e1:=aj hk;have e2:=aj (show k<off.length by rw[ho.len];exact hk);obtain⟨tl,l,eo⟩:=ho.at_ k _ _ e1 e2;rw[au,au,e1,e2];show ∃t,(off[k]'(by rw[ho.len];exact hk))[d]?=(ae[k][d]?).map (Sd t);rw[eo,aq];by_cases hd:d<ae[k].length
  .refine⟨tl[d]'(by lia),?_⟩;rw[aj (show d<(tl.zip ae[k]).length by rw[VX];lia),aj hd,Zys]
   rfl
  .exact⟨⟨#[]⟩,by rw[aM (show(tl.zip ae[k]).length<=d by rw[VX];lia),aM (show ae[k].length<=d by exact VU hd)];rfl⟩
 .have e1:ae[k]?=none:=aM (VU hk);have e2:off[k]?=none:=aM (by rw[ho.len];exact VU hk);exact⟨⟨#[]⟩,by rw[au,au,e1,e2];rfl⟩
theorem Zv{s:Rat}{y:Nat->Rat}{m mo:Nat}{ae:List (List LD)}{off:List (List bN)}(hd:DSk m mo ae)(ho:yN ae off){pl:List (Option Nat)}{k:Nat}(hk:k<pl.length):lV s y ((chO off pl).getD k none)=Sq s y ae pl k:=by
 have ek:=aj hk;rw[m6 ek];unfold Sq;rw[show pl.getD k none=pl[k]by rw[au,ek];rfl];cases pl[k]with
 |none =>
  show(0:Rat)+s*0=0
  grind
 |some d =>
  obtain⟨t,et⟩:=acs ho k d;show lV s y ((off.getD k [])[d]?)=match(ae.getD k [])[d]? with|none=>0|some d=>MF s y d
  rw[et];cases ed:(ae.getD k [])[d]? with
  |none =>
   show(0:Rat)+s*0=0
   grind
  |some x =>
   have lx:LDk m x:=by
    by_cases c:k<ae.length
    .rw[au,aj c]at ed;exact hd.ok _ (aU c) x (aC ed)
    .have:ae[k]?=none:=aM (VU c);rw[au,this]at ed;cases ed
   exact Vm lx
structure Opt(s:Rat)(m:Nat)(ae:List (List LD))(ys:List Rat):Prop where
 len:ys.length=m
 le:∀(k:Nat)ds,ae[k]?=some ds->∀d∈ds,MF s (λj=>ys.getD j 0) d<=ys.getD k 0
 no:∀k,k<m->ae.getD k []=[]->ys.getD k 0=0
theorem aeP{s:Rat}{m mo M:Nat}{ae:List (List LD)}{off:List (List bN)}(hd:DSk m mo ae)(ho:yN ae off){pl:List (Option Nat)}{ps:List PWs}(h:Ep s off M pl ps){p:PWs}(e:ps.getLast?=some p):Opt s m ae p.2:=by
 have mem:p∈ps:=QP e;obtain⟨k1,k2,_⟩:=h.told.ok p mem;have ol:off.length=m:=by rw[ho.len,hd.len]
 have lst:=h.last p e;refine⟨by rw[k2.1,ol],λk ds ek x hx=>?_,λk hk e0=>?_⟩
 .have lk:k<ae.length:=(ao.mp ek).1;have lo:k<off.length:=by rw[ho.len];exact lk
  have eo:=aj lo;obtain⟨tl,g4,eos⟩:=ho.at_ k ds _ ek eo;have lp:k<p.1.length:=by rw[k1.len];exact lo
  have ep:=aj lp;have ft:=k1.ok k _ _ ep eo;have ol':off[k].length=ds.length:=by rw[eos,ak,VX];lia
  obtain⟨j,ej⟩:=aV hx;have lj:j<ds.length:=(ao.mp ej).1;have lj':j<off[k].length:=by rw[ol'];exact lj
  have eoj:off[k][j]=Sd (tl[j]'(by lia)) x:=by
   have:(off[k])[j]?=some (Sd (tl[j]'(by lia)) x):=by
    rw[eos,aq,aj (show j<(tl.zip ds).length by rw[VX];lia),Zys];rw[aj lj]at ej;cases ej
    rfl
   rw[aj lj']at this;exact Option.some.inj this
  have lx:=hd.ok ds (aC ek) x hx;have yk:=k2.2 k lo;rw[m6 ep]at yk;cases ed:p.1[k]with
  |none =>
   rw[ed]at ft;have:off[k].length=0:=of_decide_eq_true ft;lia
  |some c =>
   rw[ed]at ep yk;have lc:c<off[k].length:=by rw[ed]at ft;exact of_decide_eq_true ft
   obtain⟨b,eb,ke⟩:=lst.some k c _ ep eo;rw[ep]at eb;cases eb;have dt:je s (tops (cD 1 p.2) p.2) (cD 1 p.2) off[k][j]<=je s (tops (cD 1 p.2) p.2) (cD 1 p.2) off[k][c]:=by
    rcases ke with⟨le,_⟩|⟨lt,_⟩
    .have:=le _ (YV.mpr ⟨_,aU lj',rfl⟩);rw[au,aq,aj lc]at this;exact this
    .exact absurd lt (by grind)
   rw[xY,xY]at dt;have hB:=eY p.2 UY;have pp:(0:Rat)<((cD 1 p.2:Nat):Rat):=by
    have:((0:Int):Rat)<(((cD 1 p.2:Nat):Int):Rat):=Rat.intCast_lt_intCast.mpr (by lia);exact this
   have dt:=Rat.not_lt.mp λlt=>absurd dt (Rat.not_le.mpr ((Zxs pp).mpr lt));rw[eoj,Vm lx]at dt;have yk:p.2.getD k 0=lV s (λk=>p.2.getD k 0) ((off.getD k [])[c]?):=yk;rw[au (l:=off),eo]at yk;have yk:p.2.getD k 0=lV s (λk=>p.2.getD k 0) (off[k][c]?):=yk;rw[aj lc]at yk;rw[yk];exact dt
 .have lo:k<off.length:=by rw[ol];exact hk
  have lp:k<p.1.length:=by rw[k1.len];exact lo
  rw[k2.2 k lo,Zv hd ho lp];unfold Sq;rw[e0];cases p.1.getD k none<;>rfl
open Rw (sg fY fu bW gn gU Big vr)
theorem T4{ac:List (List Rat)}{N:Nat}(h:Sys ac N){y:Nat->Rat}(hy:∀r∈ac,sg (λj=>r.getD j 0*y j) ac.length=r.getD ac.length 0):∃D:Nat,0<D/\D<=(2*(ac.length+1)*N)^ac.length/\∀i,i<ac.length->(y i).den ∣ D:=by
 have row:∀l,l<ac.length->ac.getD l []∈ac:=λl hl=>by
  rw[au,aj hl];exact aU hl
 obtain⟨aw,⟨k0,hU,fR⟩,bl,zr⟩:=Rw.UG (p:=ac.length) (N:=N) (C:=λk l=>(iU (ac.getD l [])).1.getD k 0) h.one λk l hk hl=>by
  have B:=h.lev _ (row l hl);rw[au];cases e:(iU (ac.getD l [])).1[k]? with
  |none=>exact aZ _
  |some t=>exact B.top t (aC e)
 have zq:∀r∈ac,sg (λj=>r.getD j 0*(aw j:Rat)) (ac.length+1)=0:=λr hr=>by
  obtain⟨l,el⟩:=aV hr;have hl:=(ao.mp el).1;have er:ac.getD l []=r:=by rw[au,el];rfl
  have z:=zr l hl;rw[er]at z;have z':sg (λk=>((aw k*(iU r).1.getD k 0:Int):Rat)) (ac.length+1)=0:=by rw[<- Rw.Gf,z];rfl
  have hB:=eY r UY;have nB:(((iU r).2:Int):Rat)≠0:=λw=>by
   have:(iU r).2=0:=Rat.intCast_eq_zero_iff.mp w;have:((cD 1 r:Nat):Int)=0:=this;lia
  rw[bW (g:=λk=>(1/(((iU r).2:Int):Rat))*((aw k*(iU r).1.getD k 0:Int):Rat)) λj _=>?_,fu,z',Rat.mul_zero];rw[<- Jd r j,XV];unfold vr
  grind
 have last:∀(f:Nat->Rat),sg f (ac.length+1)=sg f ac.length+f ac.length:=λf=>rfl;have nm:aw ac.length≠0:=λz=>by
  have:=h.inj (λj=>if j<ac.length then(aw j:Rat)else 0) (λj hj=>ZZ (Ts hj)) λr hr=>by
   refine(bW λj hj=>?_).trans (zq r hr);by_cases c:j<ac.length
   .rw[ZY c]
   .rw[ZZ c,show j=ac.length by lia,z];rfl
  by_cases c:k0<ac.length
  .have w:=this k0 c;rw[ZY c]at w;exact fR (Rat.intCast_eq_zero_iff.mp w)
  .exact fR (by rw[show k0=ac.length by lia];exact z)
 have ey:∀i,i<ac.length->(aw ac.length:Rat)*y i+(aw i:Rat)=0:=λi hi=>by
  have:=h.inj (λj=>if j<ac.length then(aw ac.length:Rat)*y j+(aw j:Rat)else 0) (λj hj=>ZZ (Ts hj)) (λr hr=>by
   rw[last,ZZ (X9 _),Rat.mul_zero,Rat.add_zero];rw[bW (g:=λj=>(aw ac.length:Rat)*(r.getD j 0*y j)+r.getD j 0*(aw j:Rat)) λj hj=>by rw[ZY hj];grind,fY,fu,hy r hr];have:=zq r hr;rw[last]at this
   grind) i hi
  rw[ZY hi]at this;exact this
 have np:0<(aw ac.length).natAbs:=by lia
 refine⟨(aw ac.length).natAbs,np,bl _,λi hi=>(uc np).mpr ?_⟩;have e:=ey i hi;have nr:(aw ac.length:Rat)≠0:=λz=>nm (Rat.intCast_eq_zero_iff.mp z);rcases Int.natAbs_eq (aw ac.length)with c|c
 .refine⟨-(aw i),?_⟩;rw[<- c,UK,Rat.intCast_neg]
  grind
 .refine⟨aw i,?_⟩;rw[show(((aw ac.length).natAbs:Nat):Int)=-(aw ac.length)by lia,UK,Rat.intCast_neg]
  grind
theorem Shr.left{s:Rat}(h:Shr s):(1:Rat)<=(1-s)*100:=by
 have e:=(one_sub (a:=s.num) (b:=(s.den:Nat)) (jk s));rw[rd]at e;have h1:=(Rat.lt_iff s 1).mp h.hi;have h1:s.num*((1:Nat):Int)<1*(s.den:Int):=h1;have hd:=h.den;have dp:=s.den_pos;have m:=div_mul (a:=(s.den:Int)-s.num) (b:=(s.den:Nat)) (by lia);rw[<- e]at m;have a:((1:Int):Rat)<=(((s.den:Int)-s.num:Int):Rat):=Rat.intCast_le_intCast.mpr (by lia);have b:(((s.den:Nat):Int):Rat)<=((100:Int):Rat):=Rat.intCast_le_intCast.mpr (by lia);have p:(0:Rat)<=1-s:=by have:=h.hi;grind
 have c:=UR b p;have i1:((1:Int):Rat)=1:=rfl;have i2:((100:Int):Rat)=100:=rfl;rw[m]at c;rw[i1]at a;rw[i2]at c;exact US a c
theorem aaT{r:Rat}{A:Nat}(h:r.num.natAbs<=A):r<=(A:Rat)/\-(A:Rat)<=r:=by
 have dp:=r.den_pos;constructor
 .refine(Rat.le_iff r (A:Rat)).mpr ?_;show r.num*((1:Nat):Int)<=(A:Int)*(r.den:Int);have:(A:Int)*1<=(A:Int)*(r.den:Int):=Int.mul_le_mul_of_nonneg_left (by lia) (Wp _);omega
 .refine(Rat.le_iff (-(A:Rat)) r).mpr ?_;show -(A:Int)*(r.den:Int)<=r.num*((1:Nat):Int);have:(A:Int)*1<=(A:Int)*(r.den:Int):=Int.mul_le_mul_of_nonneg_left (by lia) (Wp _);rw[Int.neg_mul];omega
theorem Xl{m PN PD CQ:Nat}{s:Rat}{c:Nat->Option bN}{y:Nat->Rat}(hs:Shr s)(hc:∀i,i<m->CoB m PN PD CQ (c i))(hn:PN<=10^30)(hy:∀i,i<m->y i=lV s y (c i)):∀i,i<m->y i<=(VV:Rat)/\-(VV:Rat)<=y i:=λi hi=>by
 have vp:(0:Rat)<=(VV:Rat):=by decide +kernel
 have kc:∀(C:Rat)(ws:List (Nat×Rat)),dw ws (λ_=>C)=C*yE ws:=λC ws=>by
  induction ws with
  |nil=>show(0:Rat)=C*0;grind
  |cons w ws ih=>rw[cT,tu,ih];grind
 have l:=hs.left;have v:(VV:Rat)=100*((10^30:Nat):Rat):=by decide +kernel
 have pp:(0:Rat)<=((10^30:Nat):Rat):=by decide +kernel
 have d:=Qr l pp;have de:∀k,k<m->(jX (c k)<=((10^30:Nat):Rat)/\-((10^30:Nat):Rat)<=jX (c k))/\s*((VV:Rat)*yE (gq (c k)))<=s*(VV:Rat):=λk hk=>by
  refine⟨aaT (aL (hc k hk).pn hn),?_⟩;have one:=(CoB.sh (s:=s) (hc k hk)).one;have:=UR one vp;have:=UR this hs.lo
  grind
 constructor
 .have:=sub_le (m:=m) (ws:=λi=>gq (c i)) hs.lo hs.hi (λi hi=>(hc i hi).sh) (x:=λj=>y j-(VV:Rat)) (λk hk=>by
   rw[Dr,kc];have e:=hy k hk;unfold lV at e;obtain⟨⟨a,b⟩,g⟩:=de k hk;show y k-(VV:Rat)<=_
   grind) i hi
  grind
 .have:=sub_le (m:=m) (ws:=λi=>gq (c i)) hs.lo hs.hi (λi hi=>(hc i hi).sh) (x:=λj=>-(y j)-(VV:Rat)) (λk hk=>by
   rw[Dr (λj=>-(y j)),kc,Nx];have e:=hy k hk;unfold lV at e;obtain⟨⟨a,b⟩,g⟩:=de k hk;show -(y k)-(VV:Rat)<=_
   grind) i hi
  grind
def vP(s:Rat)(off:List (List bN))(pl:List (Option Nat))(y:Nat->Rat)(i:Nat):Rat:=lV s y ((chO off pl).getD i none)
noncomputable abbrev gt(ys:List Rat):Nat->Rat:=λk=>ys.getD k 0
section
variable{s:Rat}{off:List (List bN)}(s0:0<=s)(s1:s<1)(sh:∀ds∈off,∀o∈ds,ShB s off.length o.ways)
theorem Zn{pl:List (Option Nat)}(x y:Nat->Rat)(i:Nat):vP s off pl y i-vP s off pl x i=s*dw (gq ((chO off pl).getD i none)) λj=>y j-x j:=by
 unfold vP lV;rw[Dr]
 grind
include s0 sh in
theorem Vu{pl:List (Option Nat)}(hp:PlT off pl){x y:Nat->Rat}(h:∀j,j<off.length->x j<=y j){i:Nat}(hi:i<off.length):vP s off pl x i<=vP s off pl y i:=by
 have b:=qw sh hp i hi;have:=Mv (ws:=gq ((chO off pl).getD i none)) (x:=x) (z:=y) λw hw=>⟨b.nn w hw,h _ (b.lt w hw)⟩;have:=UR this s0;unfold vP lV
 grind
theorem Yv{pl aS ql:List (Option Nat)}{ys:List Rat}(hp:PlT off pl)(hq:PlT off ql)(h:Mnd s off ys pl aS){i:Nat}(hi:i<off.length):vP s off ql (gt ys) i<=vP s off aS (gt ys) i:=by
 have eo:=aj hi;have ep:=aj (show i<pl.length by rw[hp.len];exact hi);have eq:=aj (show i<ql.length by rw[hq.len];exact hi);have fp:=hp.ok i _ _ ep eo;have fq:=hq.ok i _ _ eq eo;have go:off.getD i []=off[i]:=by rw[au,eo];rfl
 unfold vP;rw[m6 eq];cases ed:pl[i]'(by rw[hp.len];exact hi)with
 |none =>
  rw[ed]at ep fp;have l0:off[i].length=0:=of_decide_eq_true fp;rw[m6 (h.none i ep)];cases ec:ql[i]'(by rw[hq.len];exact hi)with
  |none=>exact VW
  |some c=>rw[ec]at fq;have:c<off[i].length:=of_decide_eq_true fq;lia
 |some d =>
  rw[ed]at ep fp;have ld:d<off[i].length:=of_decide_eq_true fp;obtain⟨b,eb,ke⟩:=h.some i d _ ep eo;rw[m6 eb];have lb:b<off[i].length:=by
   rcases ke with⟨_,rfl⟩|⟨_,l,_⟩
   .exact ld
   .rwa[ak]at l
  cases ec:ql[i]'(by rw[hq.len];exact hi)with
  |none=>rw[ec]at fq;have:off[i].length=0:=of_decide_eq_true fq;lia
  |some c =>
   rw[ec]at fq;have lc:c<off[i].length:=of_decide_eq_true fq;show lV s _ ((off.getD i [])[c]?)<=lV s _ ((off.getD i [])[b]?);rw[go,aj lc,aj lb];have dt:je s (tops (cD 1 ys) ys) (cD 1 ys) off[i][c]<=je s (tops (cD 1 ys) ys) (cD 1 ys) off[i][b]:=by
    have gb:(off[i].map (je s (tops (cD 1 ys) ys) (cD 1 ys))).getD b 0=je s (tops (cD 1 ys) ys) (cD 1 ys) off[i][b]:=by
     rw[au,aq,aj lb];rfl
    have mem:je s (tops (cD 1 ys) ys) (cD 1 ys) off[i][c]∈off[i].map (je s (tops (cD 1 ys) ys) (cD 1 ys)):=YV.mpr ⟨_,aU lc,rfl⟩;rcases ke with⟨le,rfl⟩|⟨_,_,le,_⟩
    .rw[<- gb];exact le _ mem
    .rw[<- gb];exact le _ mem
   rw[xY,xY]at dt;have hB:=eY ys UY;have pp:(0:Rat)<((cD 1 ys:Nat):Rat):=by
    have:((0:Int):Rat)<(((cD 1 ys:Nat):Int):Rat):=Rat.intCast_lt_intCast.mpr (by lia);exact this
   exact Rat.not_lt.mp λlt=>absurd dt (Rat.not_le.mpr ((Zxs pp).mpr lt))
def Df(m:Nat)(v y:Nat->Rat)(c:Rat):Prop:=∀i,i<m->v i-y i<=c
include s0 sh in
theorem alH{pl:List (Option Nat)}(hp:PlT off pl){u:Nat->Rat}{c:Rat}(c0:0<=c)(h:∀j,j<off.length->u j<=c){i:Nat}(hi:i<off.length):s*dw (gq ((chO off pl).getD i none)) u<=s*c:=by
 have b:=qw sh hp i hi;have a:=Qd (M:=c) (x:=u) (ws:=gq ((chO off pl).getD i none)) λw hw=>⟨b.nn w hw,h _ (b.lt w hw)⟩;have d:yE (gq ((chO off pl).getD i none))*c<=1*c:=Qr b.one c0;exact UR (by grind) s0
theorem nearer{pl aS ql:List (Option Nat)}{ys zs vs:List Rat}(s0:0<=s)(s1:s<1)(sh:∀ds∈off,∀o∈ds,ShB s off.length o.ways)(hp:PlT off pl)(hq:PlT off ql)(h:Mnd s off ys pl aS)(hy:jZ s off pl ys)(hz:jZ s off aS zs)(hv:jZ s off ql vs){c:Rat}(c0:0<=c)(d:Df off.length (gt vs) (gt ys) c):Df off.length (gt vs) (gt zs) (s*c):=λi hi=>by
 have c8:=D_ hp h;obtain⟨r1,_⟩:=rise (z:=gt zs) s0 s1 sh hp h hy.2 hz.2;have a:zs.getD i 0=vP s off aS (gt zs) i:=hz.2 i hi;have b:=Vu s0 sh c8 (x:=gt ys) (y:=gt zs) r1 hi;have m:=Yv hp hq h hi;have e:vs.getD i 0=vP s off ql (gt vs) i:=hv.2 i hi;have f:=Zn (s:=s) (off:=off) (pl:=ql) (gt ys) (gt vs) i;have g:=alH s0 sh hq c0 d hi;show vs.getD i 0-zs.getD i 0<=_
 grind
def eE(s:Rat)(off:List (List bN))(vs:List Rat)(pl:List (Option Nat))(i:Nat):Rat:=vs.getD i 0-vP s off pl (gt vs) i
theorem abP{pl:List (Option Nat)}{ys vs:List Rat}(s0:0<=s)(sh:∀ds∈off,∀o∈ds,ShB s off.length o.ways)(hp:PlT off pl)(hy:jZ s off pl ys)(le:∀i,i<off.length->ys.getD i 0<=vs.getD i 0){i:Nat}(hi:i<off.length):eE s off vs pl i<=vs.getD i 0-ys.getD i 0:=by
 have a:ys.getD i 0=vP s off pl (gt ys) i:=hy.2 i hi;have b:=Vu s0 sh hp (x:=gt ys) (y:=gt vs) le hi;unfold eE
 grind
theorem Ry{pl:List (Option Nat)}{ys vs:List Rat}(s0:0<=s)(s1:s<1)(sh:∀ds∈off,∀o∈ds,ShB s off.length o.ways)(hp:PlT off pl)(hy:jZ s off pl ys){C:Rat}(C0:0<=C)(h:∀i,i<off.length->eE s off vs pl i<=(1-s)*C):Df off.length (gt vs) (gt ys) C:=λi hi=>by
 have kc:∀(C:Rat)(ws:List (Nat×Rat)),dw ws (λ_=>C)=C*yE ws:=λC ws=>by
  induction ws with
  |nil=>show(0:Rat)=C*0;grind
  |cons w ws ih=>rw[cT,tu,ih];grind
 have:=sub_le (m:=off.length) (ws:=λi=>gq ((chO off pl).getD i none)) s0 s1 (qw sh hp) (x:=λj=>(vs.getD j 0-ys.getD j 0)-C) (λk hk=>by
  have b:=qw sh hp k hk;rw[Dr (λj=>vs.getD j 0-ys.getD j 0) (λ_=>C),kc];have f:=Zn (s:=s) (off:=off) (pl:=pl) (gt ys) (gt vs) k;have a:ys.getD k 0=vP s off pl (gt ys) k:=hy.2 k hk;have l:=h k hk;unfold eE at l;have d:C*yE (gq ((chO off pl).getD k none))<=C*1:=UR b.one C0;have e:=UR d s0;show(vs.getD k 0-ys.getD k 0)-C<=_
  grind) i hi
 show vs.getD i 0-ys.getD i 0<=C
 grind
end
theorem Io{s:Rat}(s0:0<=s):∀n:Nat,0<=s^n
 |0=>by rw[JY];decide
 |n+1=>by rw[TH];exact Zyw (Io s0 n) s0
theorem R_{s:Rat}(s0:0<=s)(s1:s<1){n:Nat} : ∀k:Nat,s^(n+k)<=s^n
 |0=>VW
 |k+1=>by
  rw[<- Nat.add_assoc,TH];have a:=R_ s0 s1 (n:=n) k;have b:=Io s0 (n+k);have c:s^(n+k)*s<=s^(n+k)*1:=UR (TZ s1) b
  grind
section
variable{s:Rat}{off:List (List bN)}{M N:Nat}{pl:List (Option Nat)}{ps:List PWs}{p:PWs}
theorem Zj(h:Ep s off M pl ps)(B:MnB s off N)(el:ps.getLast?=some p){j:Nat}{a:PWs}(ea:ps[j]?=some a){c:Rat}(c0:0<=c)(d:Df off.length (gt p.2) (gt a.2) c):∀(k:Nat){b:PWs},ps[j+k]?=some b->Df off.length (gt p.2) (gt b.2) (s^k*c)
 |0,b,eb=>by
  rw[Nat.add_zero,ea]at eb;cases eb;rw[JY,Rat.one_mul];exact d
 |k+1,b,eb=>by
  have lb:=(ao.mp eb).1;have em:=aj (show j+k<ps.length by lia);have ih:=Zj h B el ea c0 d k em;obtain⟨u,_⟩:=h.told.up (j+k) _ b em eb;obtain⟨a1,a2,_⟩:=h.told.ok _ (aC em);obtain⟨b1,b2,_⟩:=h.told.ok _ (aC eb);obtain⟨p1,p2,_⟩:=h.told.ok _ (QP el);have:=nearer B.s0 B.s1 B.sh a1 p1 u a2 b2 p2 (Zyw (Io B.s0 k) c0) ih;rw[TH,show s^k*s*c=s*(s^k*c)by grind];exact this
theorem Vr(h:Ep s off M pl ps)(B:MnB s off N)(el:ps.getLast?=some p)(le:∀(q:PWs),q∈ps->∀i,i<off.length->q.2.getD i 0<=p.2.getD i 0){w:Nat}(hw:s^w<1-s){j:Nat}{a:PWs}(ea:ps[j]?=some a){i:Nat}(hi:i<off.length)(pos:0<eE s off p.2 a.1 i)(mx:∀k,k<off.length->eE s off p.2 a.1 k<=eE s off p.2 a.1 i){t:Nat}(ht:j+w<=t){b:PWs}(eb:ps[t]?=some b):b.1[i]?≠a.1[i]?:=λz=>by
 obtain⟨a1,a2,_⟩:=h.told.ok _ (aC ea);obtain⟨b1,b2,_⟩:=h.told.ok _ (aC eb);have s1:=B.s1;have d0:0<1-s:=by grind
 have C0:0<=eE s off p.2 a.1 i/(1-s):=by
  rw[Rat.div_def];exact Zyw (TZ pos) (TZ (Rat.inv_pos.mpr d0))
 have ec:(1-s)*(eE s off p.2 a.1 i/(1-s))=eE s off p.2 a.1 i:=by
  have:(1-s)≠0:=λz=>by rw[z]at d0;exact absurd d0 (by decide)
  grind
 have f:=Ry B.s0 B.s1 B.sh a1 a2 C0 (vs:=p.2) (λk hk=>by rw[ec];exact mx k hk);have nk:=Zj h B el ea C0 f (t-j) (b:=b) (by rw[show j+(t-j)=t by lia];exact eb) i hi;have same:eE s off p.2 b.1 i=eE s off p.2 a.1 i:=by
  have ea':=aj (show i<a.1.length by rw[a1.len];exact hi);unfold eE vP;rw[m6 (z.trans ea'),m6 ea']
 have l:=abP B.s0 B.sh b1 b2 (vs:=p.2) (le b (aC eb)) hi;rw[same]at l;have pa:=R_ B.s0 B.s1 (n:=w) (t-j-w);rw[show w+(t-j-w)=t-j by lia]at pa;have x:s^(t-j)<1-s:=by grind
 have nk:p.2.getD i 0-b.2.getD i 0<=s^(t-j)*(eE s off p.2 a.1 i/(1-s)):=nk;have Cp:0<eE s off p.2 a.1 i/(1-s):=by
  rw[Rat.div_def];exact Rat.mul_pos pos (Rat.inv_pos.mpr d0)
 have y:=Rat.mul_lt_mul_of_pos_right x Cp;rw[ec]at y
 grind
end
section
variable{s:Rat}{off:List (List bN)}{M N:Nat}{pl:List (Option Nat)}{ps:List PWs}{p:PWs}
theorem Ng(el:ps.getLast?=some p):ps[ps.length-1]?=some p:=by rw[<- List.getLast?_eq_getElem?];exact el
theorem le_last(h:Ep s off M pl ps)(B:MnB s off N)(el:ps.getLast?=some p)(q:PWs)(hq:q∈ps)(i:Nat)(hi:i<off.length):q.2.getD i 0<=p.2.getD i 0:=by
 obtain⟨k,ek⟩:=aV hq;have lk:=(ao.mp ek).1;by_cases c:k=ps.length-1
 .rw[c,Ng el]at ek;cases ek;exact VW
 .exact(h.told.more B ek (ps.length-1) (by lia) (Ng el)).1 i hi
theorem KR(h:Ep s off M pl ps)(el:ps.getLast?=some p){i:Nat}(hi:i<off.length):eE s off p.2 p.1 i=0:=by
 obtain⟨_,p2,_⟩:=h.told.ok _ (QP el);have:p.2.getD i 0=vP s off p.1 (gt p.2) i:=p2.2 i hi;unfold eE
 grind
theorem Y7(h:Ep s off M pl ps)(B:MnB s off N)(el:ps.getLast?=some p){k:Nat}{a:PWs}(ea:ps[k]?=some a)(hk:k<ps.length-1):∃i d,i<off.length/\a.1[i]?=some (some d)/\0<eE s off p.2 a.1 i/\∀j,j<off.length->eE s off p.2 a.1 j<=eE s off p.2 a.1 i:=by
 obtain⟨a1,a2,_⟩:=h.told.ok _ (aC ea);obtain⟨p1,p2,_⟩:=h.told.ok _ (QP el);obtain⟨_,i0,j3,lt⟩:=h.told.more B ea (ps.length-1) hk (Ng el);obtain⟨i,hi,mx⟩:=Ue (eE s off p.2 a.1) (m:=off.length) (by lia);have pos:0<eE s off p.2 a.1 i:=Rat.not_le.mp λz=>by
  have:=Ry B.s0 B.s1 B.sh a1 a2 (C:=0) VW (vs:=p.2) (λk hk=>by rw[Rat.mul_zero];exact US (mx k hk) z) i0 j3;have:p.2.getD i0 0-a.2.getD i0 0<=0:=this
  grind
 have eo:=aj hi;have ei:=aj (show i<a.1.length by rw[a1.len];exact hi);have ep:=aj (show i<p.1.length by rw[p1.len];exact hi);have fa:=a1.ok i _ _ ei eo;have fp:=p1.ok i _ _ ep eo;cases c:a.1[i]'(by rw[a1.len];exact hi)with
 |some d=>rw[c]at ei;exact⟨i,d,hi,ei,pos,mx⟩
 |none =>
  rw[c]at ei fa;have l0:off[i].length=0:=of_decide_eq_true fa;have:p.1[i]?=a.1[i]?:=by
   cases e:p.1[i]'(by rw[p1.len];exact hi)with
   |none=>rw[ep,ei,e]
   |some d=>rw[e]at fp;have:d<off[i].length:=of_decide_eq_true fp;lia
  have z:=KR h el hi;unfold eE vP at z pos;rw[m6 (this.trans ei)]at z;rw[m6 ei]at pos;rw[z]at pos;exact absurd pos (by decide)
noncomputable def aav(off:List (List bN))(pl:List (Option Nat)):List (Nat×Nat):=((List.range off.length).map λi=>((List.range (off.getD i []).length).filter λd=>!decide (pl[i]?=some (some d))).map λd=>(i,d)).flatten
theorem Y6(n:Nat)(f:Nat->Bool){c:Nat}(hc:c<n)(h:f c=false):((List.range n).filter f).length<=n-1:=by
 have nd:((List.range n).filter f).Nodup:=List.nodup_range.filter _;have sub:∀a∈c::(List.range n).filter f,a∈List.range n:=λa ha=>by
  rcases YU.mp ha with rfl|z
  .exact List.mem_range.mpr hc
  .exact(List.mem_filter.mp z).1
 have:=yx (l:=c::(List.range n).filter f) (List.nodup_cons.mpr ⟨(λz=>by have:=(List.mem_filter.mp z).2;rw[h]at this;cases this),nd⟩) sub;rw[List.length_cons,WJ]at this;lia
theorem zO{α:Type}(f g:α->Nat):∀l:List α,(∀a∈l,f a<=g a)->(l.map f).sum<=(l.map g).sum
 |[],_=>aG _
 |a::l,h=>by
  rw[List.map_cons,List.map_cons,QR,QR];have:=h a (aO ..);have:=zO f g l λx hx=>h x (aJ _ hx);lia
theorem Y4(hp:PlT off pl):(aav off pl).length<=(off.map λds=>ds.length-1).sum:=by
 unfold aav;rw[List.length_flatten,WP];have e:(off.map λds=>ds.length-1)=(List.range off.length).map λi=>(off.getD i []).length-1:=by
  refine Zzs λk=>?_;rw[aq,aq];by_cases hk:k<off.length
  .rw[Up hk,aj hk];show some _=some ((off.getD k []).length-1);rw[au,aj hk]
   rfl
  .rw[aM (show off.length<=k by exact VU hk),aM (show(List.range off.length).length<=k by rw[WJ];exact VU hk)]
   rfl
 rw[e];refine zO _ _ _ λi hi=>?_;have hi:=List.mem_range.mp hi;show(((List.range (off.getD i []).length).filter λd=>!decide (pl[i]?=some (some d))).map λd=>(i,d)).length<=_;rw[ak];have eo:=aj hi;have ep:=aj (show i<pl.length by rw[hp.len];exact hi);have ft:=hp.ok i _ _ ep eo;rw[show off.getD i []=off[i]by rw[au,eo];rfl];cases c:pl[i]'(by rw[hp.len];exact hi)with
 |none =>
  rw[c]at ft;have:off[i].length=0:=of_decide_eq_true ft;rw[this];exact aG _
 |some d =>
  rw[c]at ft ep;have ld:d<off[i].length:=of_decide_eq_true ft;exact Y6 _ _ ld (by rw[Zs ep];rfl)
theorem X7(h:Ep s off M pl ps)(B:MnB s off N)(el:ps.getLast?=some p){w:Nat}(w1:1<=w)(hw:s^w<1-s):ps.length<=1+w*(off.map λds=>ds.length-1).sum:=by
 generalize hS:(off.map λds=>ds.length-1).sum=S;refine Nat.not_lt.mp λc=>?_;obtain⟨p1,p2,_⟩:=h.told.ok _ (QP el);have idx:∀j,j<=S->j*w<ps.length-1:=λj hj=>by
  have:j*w<=S*w:=QU _ hj;rw[TU S w]at this;omega
 have kz:∀j,j<=S->∃x:Nat×Nat,∃a:PWs,ps[j*w]?=some a/\x.1<off.length/\a.1[x.1]?=some (some x.2)/\0<eE s off p.2 a.1 x.1/\∀k,k<off.length->eE s off p.2 a.1 k<=eE s off p.2 a.1 x.1:=λj hj=>by
  have li:=idx j hj;have ea:=aj (show j*w<ps.length by exact aR li (Nat.sub_le _ _));obtain⟨i,d,x1,x2,x3,x4⟩:=Y7 h B el ea li;exact⟨(i,d),_,ea,x1,x2,x3,x4⟩
 have all:∀n,n<=S+1->∃l:List (Nat×Nat),l.length=n/\l.Nodup/\∀x∈l,∃j a,j<n/\ps[j*w]?=some a/\x.1<off.length/\a.1[x.1]?=some (some x.2)/\0<eE s off p.2 a.1 x.1/\∀k,k<off.length->eE s off p.2 a.1 k<=eE s off p.2 a.1 x.1:=by
  intro n
  induction n with
  |zero=>exact λ_=>⟨[],rfl,.nil,λ_ z=>(nomatch z)⟩
  |succ n ih =>
   intro hn;obtain⟨l,ll,nd,hl⟩:=ih (aL (Xs _) hn);obtain⟨x,a,ea,x1,x2,x3,x4⟩:=kz n (Nat.le_of_succ_le_succ hn);refine⟨x::l,by rw[List.length_cons,ll],List.nodup_cons.mpr ⟨λz=>?_,nd⟩,λy hy=>?_⟩
   .obtain⟨j,b,hj,eb,y1,y2,y3,y4⟩:=hl x z;have:j*w+w<=n*w:=by
     have:(j+1)*w<=n*w:=QU _ hj;rw[Nat.add_mul,Q4]at this;exact this
    exact Vr h B el (le_last h B el) hw eb y1 y3 y4 this ea (by rw[x2,y2])
   .rcases YU.mp hy with rfl|z
    .exact⟨n,a,by exact X1 _,ea,x1,x2,x3,x4⟩
    .obtain⟨j,b,hj,r⟩:=hl y z;exact⟨j,b,by exact WU _ hj,r⟩
 obtain⟨l,ll,nd,hl⟩:=all (S+1) (aG _);have sub:=yx nd (l':=aav off p.1) λx hx=>by
  obtain⟨j,a,hj,ea,x1,x2,x3,x4⟩:=hl x hx;obtain⟨a1,a2,_⟩:=h.told.ok _ (aC ea);have eo:=aj x1;have fa:=a1.ok x.1 _ _ x2 eo;have ld:x.2<off[x.1].length:=of_decide_eq_true fa;refine List.mem_flatten.mpr ⟨_,YV.mpr ⟨x.1,List.mem_range.mpr x1,rfl⟩,YV.mpr ⟨x.2,List.mem_filter.mpr ⟨List.mem_range.mpr (by rw[au,eo];exact ld),?_⟩,rfl⟩⟩;rw[Zp λz=>?_]
  .rfl
  .have zl:=KR h el x1;unfold eE vP at zl x3;rw[m6 z]at zl;rw[m6 x2]at x3;rw[zl]at x3;exact absurd x3 (by decide)
 have:=Y4 p1;rw[hS]at this;lia
end
def xM:ST:=λts q=>∃a b c d:Int,ts=[pT a b,pT c d]/\0<b/\0<d/\(Bd a/\Bd b/\Bd c/\Bd d)/\q (.fz (.bl (decide (Rat.divInt a b<Rat.divInt c d))))
theorem Xo(F:Fun K sU sU Ms f fd):cj P w K mg base CX0 1 f fd sV (spT K xM):=by
 refine F.okT aal (λts R hP=>by obtain⟨_,_,_,_,e,_⟩:=hP;exact e ▸ rfl) λag A outer s H E hr=>?_;refine⟨_,(bG (bQ (Dt uY (bK cB (bJ (qv 0) bA) (bJ (qv 1) bA)) (bK cB (bJ (qv 1) bA) (bJ (qv 0) bA))))),?_⟩;rintro _ R ⟨a,b,c,d,rfl,hb,hd,⟨ba,bb,bc,bd⟩,q⟩;refine⟨⟨ba,bd⟩,⟨bc,bb⟩,?_⟩;rw[decide_eq_decide.mpr (TY hb hd)]at q;exact q
structure YsE(e:Nat)(ys:List Rat):Prop where
 dn:∀y∈ys,y.den<=10^e
 hi:∀y∈ys,y<=(VV:Rat)
 lo:∀y∈ys,-(VV:Rat)<=y
theorem YsE.z{e:Nat}{ys:List Rat}(h:YsE e ys){y:Rat}(hy:y∈ys):Rz (32+e) e y:=by
 refine⟨aL (Dw (h.hi y hy) (h.lo y hy)) ?_,h.dn y hy⟩;rw[VT];exact U2 _ (h.dn y hy)
theorem YsE.get{e:Nat}{ys:List Rat}(h:YsE e ys)(k:Nat):Rz (32+e) e (ys.getD k 0)/\ys.getD k 0<=(VV:Rat)/\-(VV:Rat)<=ys.getD k 0:=by
 rw[au];cases c:ys[k]? with
 |none=>exact⟨⟨aZ _,Zzz (by decide)⟩,by show(0:Rat)<=_;decide +kernel,by show _<=(0:Rat);decide +kernel⟩
 |some y=>have m:=aC c;exact⟨h.z m,h.hi y m,h.lo y m⟩
def U8:ST:=λts q=>∃(s:Rat)(m e:Nat)(d:LD)(ys:List Rat),ts=[frR s,ldT d,.lst (ys.map frR)]/\Shr s/\LDk m d/\ys.length=m/\YsE e ys/\e<=580/\∀a b:Int,0<b->a.natAbs<=10^(38+4*(4+e))->b.natAbs<=10^(5+4*(4+e))->Rat.divInt a b=MF s (λk=>ys.getD k 0) d->q (.fz (pT a b))
theorem abK(F:Fun K GP GP Tq f fd)(T:Txt K mg D):cj P w K mg base CX0 1 f fd Gz (spT K U8):=by
 refine F.okT mY (λts R hP=>by obtain⟨_,_,_,_,_,e,_⟩:=hP;exact e ▸ rfl) λag A outer s H E hr=>?_;refine⟨_,(bC (bM 3 mY.nd (Or.inl rfl) bA)
  (bC (bM 4 mY.nd (Or.inl rfl) bA)
  (bC (dB VZ rfl (cH (bJ (qv 1) bA)) (fG (n:=2) rfl (bR (b_ (n:=99) 5 mY.nd (Or.inl rfl)) (bR (b_ (n:=99) 6 mY.nd (Or.inl rfl)) dF)))
  (bC (bM 7 mY.nd (Or.inl rfl) (bK cB (bJ (qv 6) bA) (bJ (bJ (qv 2) (qv 5)) bA)))
  (bC (bM 3 mY.nd (Or.inl rfl) (bK cN (bK cB (qv 3) (qv 7)) (bK cB (bK cB (bJ (qv 6) bA) (bJ (bJ (qv 2) (qv 5)) bA)) (qv 4))))
  (bG (bM 4 mY.nd (Or.inl rfl) (bK cB (qv 4) (qv 7)))))))
  (bC (bM 3 mY.nd (Or.inl rfl) (bK cB (qv 3) (bJ (qv 0) bA)))
  (bC (bM 4 mY.nd (Or.inl rfl) (bK cB (qv 4) (bJ (qv 0) bA)))
  (bG (bQ (cW (bx (bK cN (bK cB (bJ (bJ (qv 1) bA) bA) (qv 4)) (bK cB (qv 3) (bJ (bJ (qv 1) bA) bA))) (bx (bK cB (qv 4) (bJ (bJ (qv 1) bA) bA)) bF)))))))))),?_⟩
 rintro _ R ⟨s,m,ee,d,ys,rfl,hs,hd,yl,hy,he,q⟩;obtain⟨qq,q0,q1,hq⟩:=hd.all;have one:(dw d.prs λ_=>1)<=1:=by rw[Bx,hd.one];exact VW
 have few:=hd.few;have cz:∀p∈d.prs,Rz 4 4 p.2:=λp hp=>by
  have a:=Dw (r:=p.2) (A:=1) (by
   have:=sJ hd.nn hp;exact US this one) (by have:=hd.nn p hp;rw[uV];grind)
  have:=UX q0 (hq p hp).2.2;exact⟨aL a (by lia),by lia⟩
 generalize hE:4+ee=E4 at q;have l5:E4<=584:=by lia
 have k4:∀k,k<=4->E4*k<=2336:=λk hk=>aL (WH l5 hk) (by decide);have pb:∀{a b:Int}{k:Nat},k<=4->0<b->b.toNat<=10^(E4*k)->Rat.divInt a b<=(VV:Rat)->-(VV:Rat)<=Rat.divInt a b->Bd a/\Bd b/\a.natAbs<=10^(32+E4*k):=λ{a b k}hk h0 h1 h2 h3=>by
  have x:=abe h0 h2 h3;have y:a.natAbs<=10^(32+E4*k):=aL x (by rw[VT];exact U2 _ h1);have z:=k4 k hk;exact⟨g_ y (by lia),g_ (n:=E4*k) (by lia) (aL z (by decide)),y⟩
 refine fV nwT d.prs (λas o=>∃(t b:Int)(x5 x6 x7:OT),o=[.fz (frR s),.fz (ldT d),.fz (.lst (ys.map frR)),.fz (.int t),.fz (.int b),x5,x6,x7]/\0<b/\b.toNat<=10^(E4*as.length)/\Rat.divInt t b=dw as λk=>ys.getD k 0) ⟨0,1,.und,.und,.und,rfl,by decide,by simp,rfl⟩ ?_ ?_
 .rintro as p bs _ e ⟨t,b,x5,x6,x7,rfl,b0,b1,ev⟩;have pm:p∈d.prs:=by rw[e];simp
  obtain⟨p1,p2,_⟩:=hq p pm;have al:as.length+1<=d.prs.length:=by rw[e];simp
  have ey:ys[p.1]?=some (ys.getD p.1 0):=by rw[au,aj (by lia)];rfl
  obtain⟨yz,yh,yo⟩:=hy.get p.1;have c:=cz p pm;have va:=Zq (y:=λk=>ys.getD k 0) (C:=(VV:Rat)) (by decide +kernel) (ws:=as) (λw hw=>hd.nn w (by rw[e];exact UH _ hw)) (aec (bs:=p::bs) (by rw[<- e];exact hd.nn) (by rw[<- e];exact one)) (λk=>(hy.get k).2.1) λk=>(hy.get k).2.2;rw[<- ev]at va;obtain⟨bt,bb,_⟩:=pb (k:=as.length) (by lia) b0 b1 va.1 va.2;have dp:=p.2.den_pos;have dy:=(ys.getD p.1 0).den_pos;have part:((p.2.den:Int)*((ys.getD p.1 0).den:Int)).natAbs<=10^E4:=by
   rw[VY,XG,XG,<- hE,VT];exact WH c.2 yz.2
  have pp:0<(p.2.den:Int)*((ys.getD p.1 0).den:Int):=XZ (by lia) (by lia);have ct:(p.2.num*(ys.getD p.1 0).num).natAbs<=10^(4+(32+ee)):=by
   rw[VY,VT];exact WH c.1 yz.1
  have cb:=c.bq (by decide) (by decide);have yb:=yz.bq (by lia) (aL he (by decide));refine⟨rfl,_,cZ ey,⟨cb.2,yb.2⟩,⟨bt,g_ part (aL l5 (by decide))⟩,_,cZ ey,⟨cb.1,yb.1⟩,⟨g_ ct (by lia),bb⟩,⟨bb,g_ part (aL l5 (by decide))⟩,t*((p.2.den:Int)*((ys.getD p.1 0).den:Int))+p.2.num*(ys.getD p.1 0).num*b,b*((p.2.den:Int)*((ys.getD p.1 0).den:Int)),.fz (.int (p.1:Nat)),.fz (frR p.2),.fz (.int ((p.2.den:Int)*((ys.getD p.1 0).den:Int))),rfl,XZ b0 pp,?_,?_⟩
  .rw[aA,List.length_singleton,Nat.mul_add,VT,Int.toNat_mul (XY b0) (XY pp)];exact WH b1 (by rw[Nat.mul_one];lia)
  .rw[Jl,Ug,<- ev,<- JJ _ _ (WS b0) (WS pp),<- T2,rd,rd]
 .rintro _ ⟨t,b,x5,x6,x7,rfl,b0,b1,ev⟩;have va:=Zq (y:=λk=>ys.getD k 0) (C:=(VV:Rat)) (by decide +kernel) (ws:=d.prs) hd.nn one (λk=>(hy.get k).2.1) λk=>(hy.get k).2.2;rw[<- ev]at va;obtain⟨bt,bb,tn⟩:=pb (k:=d.prs.length) few b0 b1 va.1 va.2;have k44:=k4 4 (aG _);have sz:=Bg hs;have sb:=sz.bq (by decide) (by decide);have pz:Rz 30 3 d.pay:=⟨hd.pay.num,hd.pay.den⟩;have pq:=pz.bq (by decide) (by decide);have sd:=s.den_pos;have pd:=d.pay.den_pos;have m4:E4*d.prs.length<=4*E4:=by rw[TU 4];exact U2 _ few
  rw[TU]at k44;have b4:b.natAbs<=10^(4*E4):=aL (show b.natAbs<=10^(E4*d.prs.length)by lia) (XT (by decide) m4);have t4:t.natAbs<=10^(32+4*E4):=aL tn (XT (by decide) (Nat.add_le_add (by decide) m4));have bs:(b*(s.den:Int)).natAbs<=10^(4*E4+2):=by
   rw[VY,XG,VT];exact WH b4 sz.2
  have ts:(t*s.num).natAbs<=10^(32+4*E4+2):=by
   rw[VY,VT];exact WH t4 sz.1
  refine⟨⟨bt,sb.1⟩,⟨bb,sb.2⟩,⟨pq.1,g_ bs (by lia)⟩,⟨g_ ts (by lia),pq.2⟩,⟨g_ bs (by lia),pq.2⟩,q _ _ (XZ (XZ b0 (by lia)) (by lia)) ?_ ?_ ?_⟩
  .have x:(d.pay.num*(b*(s.den:Int))).natAbs<=10^(37+4*E4):=by
    rw[VY];exact aL (WH pz.1 bs) (by rw[<- VT];exact XT (by decide) (by lia))
   have y:(t*s.num*(d.pay.den:Int)).natAbs<=10^(37+4*E4):=by
    rw[VY,XG];exact aL (WH ts pz.2) (by rw[<- VT];exact XT (by decide) (by lia))
   have z:=Int.natAbs_add_le (d.pay.num*(b*(s.den:Int))) (t*s.num*(d.pay.den:Int));refine aL z ?_;rw[show 38+4*E4=37+4*E4+1 by lia,Nat.pow_succ];lia
  .rw[VY,XG,show 5+4*E4=4*E4+2+3 by exact Nat.add_comm _ _,VT];exact WH bs pz.2
  .unfold MF;rw[Int.mul_comm (b*(s.den:Int)),<- JJ _ _ (jk d.pay) (lX (WS b0) (jk s)),rd,<- T2,rd,ev,XU]
def Lj:ST:=λts q=>∃a b c d:Int,ts=[pT a b,pT c d]/\(Bd a/\Bd b/\Bd c/\Bd d)/\q (.fz (pT (a*d-c*b) (b*d)))
theorem abW(F:Fun K Ck Ck U6 f fd):cj P w K mg base CX0 1 f fd Cu (spT K Lj):=by
 refine F.okT abM (λts R hP=>by obtain⟨_,_,_,_,e,_⟩:=hP;exact e ▸ rfl) λag A outer s H E hr=>?_;refine⟨_,(bG (bQ (cW (bx (bK mj (bK cB (bJ (qv 0) bA) (bJ (qv 1) bA)) (bK cB (bJ (qv 1) bA) (bJ (qv 0) bA))) (bx (bK cB (bJ (qv 0) bA) (bJ (qv 1) bA)) bF))))),?_⟩;rintro _ R ⟨a,b,c,d,rfl,⟨ba,bb,bc,bd⟩,q⟩;exact⟨⟨ba,bd⟩,⟨bc,bb⟩,⟨bb,bd⟩,q⟩
abbrev prT(x:Β):T:=pT x.1 x.2
noncomputable abbrev vl(x:Β):Rat:=Rat.divInt x.1 x.2
structure PrB(n:Nat)(x:Β):Prop where
 pos:0<x.2
 a:x.1.natAbs<=10^n
 b:x.2.natAbs<=10^n
def Uz:ST:=λts q=>∃(n:Nat)(xs:Γ),ts=[.lst (xs.map prT)]/\n<=2400/\(∀x∈xs,PrB n x)/\∀y:Int×Int,PrB n y->0<=vl y->(∀x∈xs,vl x<=vl y)->(vl y=0\/y∈xs)->q (.fz (prT y))
theorem afj(F:Fun K Ih Ih Zx f fd)(T:Txt K mg D)(n6:OkT P w K mg base 1 sU sV xM):cj P w K mg base CX0 2 f fd Hz (spT K Uz):=by
 refine F.okT Nz (λts R hP=>by obtain⟨_,_,e,_⟩:=hP;exact e ▸ rfl) λag A outer s H E hr=>?_;refine⟨_,(bC (bM 1 Nz.nd (Or.inl rfl) (cW (bx bA (bx bA bF))))
  (bC (dB VZ rfl (cH (qv 0)) (b_ (n:=99) 2 Nz.nd (Or.inl rfl))
  (bG (cG (dX (bI n6 hr.md (by rfl) (bx (qv 1) (bx (qv 2) bF))))
  (bG (bM 1 Nz.nd (Or.inl rfl) (qv 2)))
  bT)))
  (bG (bQ (qv 1))))),?_⟩
 rintro _ R ⟨n,xs,rfl,hn,hx,q⟩;have z0:vl (0,1)=0:=TK _;refine fV prT xs (λas o=>∃(y:Β)(t:OT),o=[.fz (.lst (xs.map prT)),.fz (prT y),t]/\PrB n y/\0<=vl y/\(∀x∈as,vl x<=vl y)/\(vl y=0\/y∈as)) ⟨(0,1),.und,rfl,⟨by decide,aZ _,Zzz (by decide)⟩,by rw[z0];exact VW,λ_ z=>(nomatch z),.inl z0⟩ ?_ ?_
 .rintro as x bs _ e ⟨y,t,rfl,yb,y0,le,yo⟩;have xb:=hx x (by rw[e];simp);refine⟨_,_,_,_,rfl,yb.pos,xb.pos,⟨g_ yb.a hn,g_ yb.b hn,g_ xb.a hn,g_ xb.b hn⟩,swD (λlt=>⟨x,.fz (prT x),rfl,xb,by have:vl y<vl x:=lt;grind,λz hz=>?_,.inr (by simp)⟩) λie=>⟨y,.fz (prT x),rfl,yb,y0,λz hz=>?_,yo.imp id λw=>UH _ w⟩⟩
  .rcases Y1.mp hz with w|w
   .have:=le z w;have:vl y<vl x:=lt;grind
   .rw[YR.mp w];exact VW
  .rcases Y1.mp hz with w|w
   .exact le z w
   .rw[YR.mp w];exact Rat.not_lt.mp ie
 .rintro _ ⟨y,t,rfl,yb,y0,le,yo⟩;exact q y yb y0 le yo
theorem Yh{a b c d:Int}(hb:0<b)(hd:0<d):vl (a*d-c*b,b*d)=Rat.divInt a b-Rat.divInt c d:=(Rat.divInt_sub_divInt a c (WS hb) (WS hd)).symm
theorem adM{n1 d1 n2 d2 k:Nat}{a b c d:Int}(hb:0<b)(hd:0<d)(h1:a.natAbs<=10^n1)(h2:b.natAbs<=10^d1)(h3:c.natAbs<=10^n2)(h4:d.natAbs<=10^d2)(l1:n1+d2<=k)(l2:n2+d1<=k)(l3:d1+d2<=k):PrB (k+1) (a*d-c*b,b*d):=by
 have up:∀{x y:Int}{i j:Nat},x.natAbs<=10^i->y.natAbs<=10^j->i+j<=k->(x*y).natAbs<=10^k:=λ{x y i j}hx hy hk=>by
  rw[VY];exact aL (WH hx hy) (by rw[<- VT];exact XT (by decide) hk)
 have x:=up h1 h4 l1;have y:=up h3 h2 l2;have z:=up h2 h4 l3;refine⟨XZ hb hd,?_,aL z (XT (by decide) (Xs _))⟩;show(a*d-c*b).natAbs<=_;rw[Nat.pow_succ];omega
theorem Shr.le99{s:Rat}(h:Shr s):s<=99/100:=by
 have:=h.left
 grind
theorem zT{x y:Rat}(x0:0<=x)(h:x<=y):∀n:Nat,x^n<=y^n
 |0=>by rw[JY,JY];exact VW
 |n+1=>by
  rw[TH,TH];have a:=Qr (zT x0 h n) x0;have b:=UR h (Io (US x0 h) n)
  grind
theorem pow_add'(x:Rat)(m:Nat):∀n:Nat,x^(m+n)=x^m*x^n
 |0=>by rw[JY,Rat.mul_one];rfl
 |n+1=>by rw[<- Nat.add_assoc,TH,pow_add' x m n,TH,Rat.mul_assoc]
theorem pow_mul'(x:Rat)(m:Nat):∀n:Nat,(x^m)^n=x^(m*n)
 |0=>by rw[JY,Nat.mul_zero,JY]
 |n+1=>by rw[TH,pow_mul' x m n,Nat.mul_succ,pow_add']
theorem abR:((99:Rat)/100)^100<=1/2:=by decide +kernel
theorem ado{s:Rat}(h:Shr s):s^700<1-s:=by
 have a:=zT h.lo h.le99 100;have b:s^100<=1/2:=US a abR;have c:=zT (Io h.lo 100) b 7;rw[pow_mul']at c;have d:((1:Rat)/2)^7<1/100:=by decide +kernel
 have e:=h.left;have c:s^700<=(1/2)^7:=c
 grind
theorem div_pow{s:Rat} : ∀n:Nat,Rat.divInt (s.num^n) ((s.den:Int)^n)=s^n
 |0=>by rw[JY,Int.pow_zero,Int.pow_zero];rfl
 |n+1=>by rw[Int.pow_succ,Int.pow_succ,<- T2,div_pow n,rd,TH]
theorem R4{s:Rat}{n:Nat} : (((s.den:Int)-s.num)*(s.den:Int)^n<=s.num^n*(s.den:Int))↔1-s<=s^n:=by
 have dp:=s.den_pos;have d0:(0:Int)<(s.den:Int):=by lia
 have dn:(0:Int)<(s.den:Int)^n:=Int.pow_pos d0;have e:=one_sub (a:=s.num) (b:=(s.den:Nat)) (jk s);rw[rd]at e;rw[e,<- div_pow n];have:=TY (a:=s.num^n) (b:=(s.den:Int)^n) (c:=(s.den:Int)-s.num) (d:=(s.den:Int)) dn d0;constructor
 .intro h;exact Rat.not_lt.mp λz=>absurd (this.mp z) (Int.not_lt_of_ge h)
 .intro h;exact Int.not_lt.mp λz=>absurd (this.mpr z) (Rat.not_lt.mpr h)
def zX(D:Adr):ST:=λts q=>∃(s:Rat)(ns:Φ)(off:List (List bN)),ts=[hlT D s ns off]/\Shr s/\∀w:Nat,1<=w->w<=700->s^w<1-s->q (.fz (.int (w:Nat)))
theorem SN(F:Fun K qu qu Dp f fd)(T:Txt K mg D):cj P w K mg base CX0 1 f fd p7 (spT K (zX D)):=by
 refine F.okT gB (λts R hP=>by obtain⟨_,_,_,e,_⟩:=hP;exact e ▸ rfl) λag A outer s H E hr=>?_;refine⟨_,(bC (bM 1 gB.nd (Or.inl rfl) (bJ (pY (Fm:=Fam D) (λC h=>⟨T.cl C h,T.vq C h⟩) (qv 0)) bA))
  (bC (bM 2 gB.nd (Or.inl rfl) (bJ (pY (Fm:=Fam D) (λC h=>⟨T.cl C h,T.vq C h⟩) (qv 0)) bA))
  (bC (bM 3 gB.nd (Or.inl rfl) bA)
  (bC (bM 4 gB.nd (Or.inl rfl) (qv 1))
  (bC (bM 5 gB.nd (Or.inl rfl) (qv 2))
  (bC (Ae VZ (bY Zz (bK cB (qv 4) (qv 2)) (bK cB (bK mj (qv 2) (qv 1)) (qv 5)))
  (bC (Z4 3 gB.nd (Or.inl rfl) aaD bA)
  (bC (Vo 4 gB.nd (Or.inl rfl) (qv 1))
  (bG (Vo 5 gB.nd (Or.inl rfl) (qv 2))))))
  (bG (bQ (qv 3))))))))),?_⟩
 rintro _ R ⟨s,ns,off,rfl,hs,q⟩;have sz:=Bg hs;have nn:0<=s.num:=Rat.num_nonneg.mpr hs.lo;have sp:=s.den_pos;have h1:=(Rat.lt_iff s 1).mp hs.hi;have h1:s.num*((1:Nat):Int)<1*(s.den:Int):=h1;have sd:=hs.den;have pw:∀{x:Int}{n:Nat},x.natAbs<=100->n<=700->(x^n).natAbs<=10^1400:=λ{x n}hx hn=>by
  rw[Int.natAbs_pow];refine aL (Zxx hx n) ?_;rw[show(100:Nat)=10^2 from rfl,<- Nat.pow_mul];exact XT (by decide) (by lia)
 have bn:∀n,n<=700->Bd (s.num^n):=λn hn=>g_ (pw (by lia) hn) (by decide);have bd:∀n,n<=700->Bd ((s.den:Int)^n):=λn hn=>g_ (pw (by lia) hn) (by decide);refine⟨qe D,_,rfl,qe D,_,rfl,λm o=>∃n:Nat,o=[.fz (hlT D s ns off),.fz (.int s.num),.fz (.int (s.den:Nat)),.fz (.int (n:Nat)),.fz (.int (s.num^n)),.fz (.int ((s.den:Int)^n))]/\1<=n/\n<=700/\m=700-n,⟨699,1,by rw[Int.pow_one,Int.pow_one];rfl,aG _,by decide,rfl⟩,?_⟩;rintro m _ ⟨n,rfl,n1,n7,em⟩;refine⟨⟨bn n n7,eV (by omega)⟩,⟨eV (by lia),bd n n7⟩,swD (λh=>?_) λh=>?_⟩
 .have h:=R4.mp h;have lt:n<700:=by
   refine XX n7 λz=>?_;subst z;have:=ado hs
   grind
  refine⟨λo=>o=[.fz (hlT D s ns off),.fz (.int s.num),.fz (.int (s.den:Nat)),.fz (.int ((n+1:Nat):Int)),.fz (.int (s.num^(n+1))),.fz (.int ((s.den:Int)^(n+1)))],?_,?_⟩
  .rintro _ rfl;exact⟨700-(n+1),by lia,n+1,rfl,by exact Nat.le_add_left _ _,by exact lt,rfl⟩
  .refine⟨⟨bn n n7,eV (by lia)⟩,⟨bd n n7,eV (by omega)⟩,?_⟩;rw[Int.pow_succ,Int.pow_succ]
   rfl
 .exact q n n1 n7 (Rat.not_le.mp λz=>h (R4.mpr z))
def VF(D:Adr):ST:=λts q=>∃(s:Rat)(ns:Φ)(off:List (List bN)),ts=[hlT D s ns off]/\R5 ns off/\Shr s/\off.length<=100/\(∀ds∈off,ds.length<=1000)/\∀w:Nat,1<=w->s^w<1-s->q (.fz (.int (1+(w:Int)*((off.map λds=>ds.length-1).sum:Nat))))
theorem Pr:∀ls:List Nat,((ls.filter λn=>decide (0<n)).map λn:Nat=>(n:Int)-1).sum=((ls.map λn=>n-1).sum:Nat)
 |[]=>rfl
 |n::ls=>by
  rw[List.map_cons,QR,Int.natCast_add,<- Pr ls];by_cases h:0<n
  .rw[Zxq (by rw[Zs h]),List.map_cons,QR];lia
  .rw[Zyr (by rw[Zp h];decide)];omega
theorem acj(F:Fun K iT iT gK f fd)(T:Txt K mg D)(fM:OkI P w K mg base CX0 1 D.Hall_size iI (spT K (oZ D)))(cV:OkI P w K mg base CX0 3 D.Hall_offers eZ (spT K (tG D)))(pC:OkT P w K mg base 1 qu p7 (zX D)):cj P w K mg base CX0 4 f fd iM (spT K (VF D)):=by
 refine F.okT sY (λts R hP=>by obtain⟨_,_,_,e,_⟩:=hP;exact e ▸ rfl) λag A outer s H E hr=>?_;refine⟨_,(bC (qM (bH gK) gG gG ["room"] (cY (by rfl) T.dO (bx (CP (qv 0) T.lH T.uo fM hr.md (KS:=mL)) bF)) (fj (i:=0)) cI (bV dh (by rfl) T.dY W1 (bx (Ba (qv 1) T.lH T.lF cV hr.md (bx (qv 0) bF) (KS:=mL)) bF)) (lM (i:=1) sY.nd rfl (Or.inl rfl)))
  (bG (bQ (bK cN bA (bK cB (bI pC hr.md (by rfl) (bx (qv 0) bF)) (bV (Ox rfl) (by rfl) T.Vj boot_sum (bx (dI (bH gK) gG gG ["many"] (cH (qv 1)) (fj (i:=0)) (Lx (bY El (qv 0) bA)) (bK mj (qv 0) bA)) bF))))))),?_⟩
 rintro _ R ⟨s,ns,off,rfl,h,hs,few,fews,q⟩;have hl:=h.len;have em:(List.range ns.length).map (λk=>L2.T.int ((off.getD k []).length:Nat))=(off.map λds=>ds.length).map λn:Nat=>L2.T.int (n:Nat):=by
  refine Zzs λk=>?_;rw[aq,aq,aq];by_cases hk:k<ns.length
  .rw[Up hk,aj (show k<off.length by lia)];show some (L2.T.int ((off.getD k []).length:Nat))=some (L2.T.int (off[k].length:Nat));rw[show off.getD k []=off[k]by rw[au,aj (show k<off.length by lia)];rfl]
  .rw[aM (by rw[WJ];exact VU hk),aM (show off.length<=k by lia)]
   rfl
 refine⟨⟨rfl,rfl⟩,s,ns,off,rfl,⟨by lia,by lia⟩,by rw[rng,ak,WJ];exact aL (show _<=1000 by lia) (by decide),Mh (λk=>L2.T.int ((off.getD k []).length:Nat)) ns.length (λk hk N M hN=>?_) ?_⟩
 .have ek:=aj (show k<off.length by lia);rw[au,ek]at hN;refine⟨⟨rfl,rfl⟩,s,ns,off,k,_,rfl,h,ek,?_⟩;show N (.int ((off[k].map ofT).length:Nat));rw[ak];exact hN
 rw[em];refine⟨s,ns,off,rfl,hs,λw w1 w7 hw=>⟨by rw[ak,ak];exact aL (show _<=1000 by exact aL few (by decide)) (by decide),ni (λn:Nat=>L2.T.int (n:Nat)) (λn=>decide (0<n)) (λn=>L2.T.int ((n:Int)-1)) (off.map λds=>ds.length) (λn hn N M hN hM=>?_) ⟨((off.map λds=>ds.length).filter λn=>decide (0<n)).map λn:Nat=>(n:Int)-1,by rw[WP];rfl,?_⟩⟩⟩
 .by_cases c:0<n
  .exact swT (Zs (by lia)) (hN (Zs c))
  .exact swF (Zp (by lia)) (hM (Zp c))
 .rw[Pr,WP];have sl:(off.map λds=>ds.length-1).sum<=100000:=by
   have a:=zO (λds:List bN=>ds.length-1) (λ_=>1000) off λds di=>by have:=fews ds di;exact aL (Nat.sub_le _ _) this
   rw[List.map_const',List.sum_replicate_nat]at a;lia
  exact⟨⟨eV (by omega),eV (by show(((off.map λds=>ds.length-1).sum:Nat):Int).natAbs<_;omega)⟩,q w w1 hw⟩
open Rw (sg fY fu bW gn gU Big vr)
structure YsK(e:Nat)(ys:List Rat):Prop where
 cm:∃L:Nat,0<L/\L<=10^e/\∀y∈ys,y.den ∣ L
 hi:∀y∈ys,y<=(VV:Rat)
 lo:∀y∈ys,-(VV:Rat)<=y
theorem Xm{s:Rat}{cs:List (Option bN)}{y:Nat->Rat}(h:Al s cs y):∀r∈Ab (zu s cs) (cs.map jX),sg (λj=>r.getD j 0*y j) cs.length=r.getD cs.length 0:=λr hr=>by
 obtain⟨i,hi,rfl⟩:=FZ hr;have l:((List.range cs.length).map λj=>eF s cs i j).length=cs.length:=by rw[ak,WJ]
 rw[show(((List.range cs.length).map λj=>eF s cs i j)++[jX (cs.getD i none)]).getD cs.length 0=jX (cs.getD i none)by
  rw[au,aD (by rw[l];exact aG _),l,Zzy];rfl]
 rw[<- h i hi];refine bW λj hj=>?_;rw[au,aF (by rw[l];exact hj),aq,Up hj]
 rfl
theorem Tw{s:Rat}{off:List (List bN)}(sh:∀ds∈off,∀o∈ds,ShB s off.length o.ways){pl:List (Option Nat)}(hp:PlT off pl){zs:List Rat}(h:jZ s off pl zs):Al s (chO off pl) λk=>zs.getD k 0:=by
 have cl:=G_ hp;refine(Kw (by rw[cl];exact qw sh hp)).mpr λi hi=>?_;exact h.2 i (by rw[<- cl];exact hi)
theorem mem_getD{ys:List Rat}{m:Nat}(l:ys.length=m){y:Rat}(h:y∈ys):∃k,k<m/\y=ys.getD k 0:=by
 obtain⟨k,e⟩:=aV h;exact⟨k,by rw[<- l];exact(ao.mp e).1,by rw[au,e];rfl⟩
theorem abN{m:Nat}(h:m<=6):(2*(m+1)*((10^30+1)*(100*4000*1000)))^m<=10^244:=by
 obtain rfl|rfl|rfl|rfl|rfl|rfl|rfl:m=0\/m=1\/m=2\/m=3\/m=4\/m=5\/m=6:=by lia
 all_goals decide +kernel
theorem Ze{m:Nat}(h:m<=8):(2*(m+1)*((9+1)*(100*1*1)))^m<=10^244:=by
 obtain rfl|rfl|rfl|rfl|rfl|rfl|rfl|rfl|rfl:m=0\/m=1\/m=2\/m=3\/m=4\/m=5\/m=6\/m=7\/m=8:=by lia
 all_goals decide +kernel
theorem Qt{s:Rat}{off:List (List bN)}{PN PD CQ N:Nat}(hs:Shr s)(few:off.length<=100)(ob:∀ds∈off,∀o∈ds,OfB off.length PN PD CQ o)(h1:1<=PD)(h2:1<=CQ)(hn:PN<=10^30)(hN:N=(PN+1)*(100*CQ*PD))(mb:(2*(off.length+1)*N)^off.length<=10^244)(nn:N<=NN){pl:List (Option Nat)}(hp:PlT off pl){zs:List Rat}(hz:jZ s off pl zs):YsK 244 zs:=by
 have cl:=G_ hp;have co:=ad0 (pl:=pl) ob;have sh:∀ds∈off,∀o∈ds,ShB s off.length o.ways:=λds di o ho=>let b:=ob ds di o ho;⟨b.lt,b.nn,b.one⟩;have mn:(2*off.length*N)^off.length<=NN:=aL (Zxx (QU _ (by lia)) _) (aL mb (XT (by decide) (by decide)));have sy:=Wa hs (cs:=chO off pl) (aL (WG cl) few) (by rw[cl];exact co) h1 h2 hN (by rw[cl];exact mn) nn;have wo:=Tw sh hp hz;obtain⟨D,d0,d1,hD⟩:=T4 sy (y:=λk=>zs.getD k 0) (by rw[uq];exact Xm wo);rw[uq,cl]at d1 hD;have cg:∀i,i<off.length->CoB off.length PN PD CQ ((chO off pl).getD i none):=λi hi=>co _ (by rw[au,aj (by rw[cl];exact hi)];exact aU _);have ab:=Xl hs cg hn (y:=λk=>zs.getD k 0) hz.2;refine⟨⟨D,d0,aL d1 mb,λy hy=>?_⟩,λy hy=>?_,λy hy=>?_⟩
 .obtain⟨k,hk,rfl⟩:=mem_getD hz.1 hy;exact hD k hk
 .obtain⟨k,hk,rfl⟩:=mem_getD hz.1 hy;exact(ab k hk).1
 .obtain⟨k,hk,rfl⟩:=mem_getD hz.1 hy;exact(ab k hk).2
theorem Yg{s:Rat}{m:Nat}{ae:List (List LD)}{off:List (List bN)}(hs:Shr s)(hd:DSk m 4 ae)(sm:Small m ae)(ho:yN ae off){pl:List (Option Nat)}(hp:PlT off pl){zs:List Rat}(hz:jZ s off pl zs):YsK 244 zs:=by
 have ol:off.length=m:=by rw[ho.len,hd.len]
 rcases sm with h|⟨h,ht⟩
 .exact Qt hs (by lia) (by rw[ol];exact aa5 hd ho) (by decide) (by decide) (by decide) rfl (abN (aL (WG ol) h)) (by decide +kernel) hp hz
 .exact Qt hs (by lia) (by rw[ol];exact R8 hd ht ho) (by decide) (by decide) (by decide) rfl (Ze (aL (WG ol) h)) (by decide +kernel) hp hz
noncomputable def dr(ae:List (List LD))(pl:List (Option Nat))(k:Nat):Option LD:=(pl.getD k none).bind λd=>(ae.getD k [])[d]?
def fk(ae:List (List LD))(pl:List (Option Nat))(k:Nat):Nat:=match dr ae pl k with
 |none=>1
 |some d=>cD 1 (d.prs.map (·.2))*d.pay.den
def RK:ST:=λts q=>∃ns:List Int,ts=[scT ns]/\ns.length<=63/\∀(m:Nat)(ae:List (List LD))(x:OT),frz x=yF ae->DSk m 4 ae->Small m ae->(strm (ns.getD 0 0) 0%8=3->∀ds∈ae,ds.length=2)->q x
theorem aaA(F:Fun K Af Af Ou f fd)(T:Txt K mg D)(iD:OkT P w K mg base 1 uD uK z_)(cJ:OkT P w K mg base 1 fJ fH gR)(zB:OkT P w K mg base 2 qT qH Ei)(Uc:OkT P w K mg base 2 Gh Gg st_size)(O5:OkT P w K mg base 5 Cd BR Ra):cj P w K mg base CX0 6 f fd Bj (spT K RK):=by
 refine F.okT Rx (λts R hP=>by obtain⟨_,e,_⟩:=hP;exact e ▸ rfl) λag A outer s H E hr=>?_;refine⟨_,(bC (bM 1 Rx.nd (Or.inl rfl) (bI cJ hr.md (by rfl) (bx (bI iD hr.md (by rfl) (bx (qv 0) (bx bA bF))) (bx bA bF))))
  (bC (cG (bY (go_eq hr.units) (bK cC (bJ (qv 1) bA) bA) bA)
  (bG (bQ (bI zB hr.md (by rfl) (bx (bI iD hr.md (by rfl) (bx (qv 0) (bx bA bF))) (bx (bK cN bA (bK cC (bJ (qv 1) bA) bA)) bF)))))
  bT)
  (bG (bQ (bI O5 hr.md (by rfl) (bx (qv 0) (bx bA (bx (bI Uc hr.md (by rfl) (bx (bI iD hr.md (by rfl) (bx (qv 0) (bx bA bF))) bF)) (bx bA bF))))))))),?_⟩
 rintro _ R ⟨ns,rfl,nl,q⟩;have s1:=iY (ns.getD 0 0) 1;refine⟨ns,0,rfl,by exact aL nl (by decide),_,2,rfl,by decide,_,dM (k:=0) (by decide),by decide,swD (λh=>?_) λh=>?_⟩
 .refine⟨ns,5,rfl,by exact aL nl (by decide),_,dM (k:=1) (by decide),by decide,?_⟩;obtain⟨m,em,m7⟩ : ∃m:Nat,4+strm (ns.getD 0 0) 1%5=((m+1:Nat):Int)/\m<=7:=⟨(3+strm (ns.getD 0 0) 1%5).toNat,by lia,by lia⟩;exact⟨_,m,by rw[<- em];rfl,by exact Y3 m7 (by decide),λae hd h2 ht=>q (m+1) ae _ rfl hd (.inr ⟨by exact Nat.succ_le_succ m7,ht⟩) λ_=>h2⟩
 .refine⟨ns,0,rfl,by exact aL nl (by decide),_,rfl,λm hm=>⟨ns,5,m,4,rfl,by exact aL nl (by decide),by exact aL hm (by decide),by decide,λae hd=>q m ae _ (adb ae) hd (.inl hm) λz=>absurd z h⟩⟩
def Q8:ST:=λts q=>∃(ns:List Int)(ae:List (List LD)),ts=[scT ns,yF ae]/\ns.length<=63/\ae.length<=100/\(strm (ns.getD 0 0) 0%8=3->∀ds∈ae,ds.length=2)/\∀pl:List (Option Nat),PlD ae pl->q (.l1 (pl.map dT))
theorem ZK(F:Fun K Bb Bb Gk f fd)(T:Txt K mg D)(iD:OkT P w K mg base 1 uD uK z_)(cJ:OkT P w K mg base 1 fJ fH gR)(Ir:OkT P w K mg base 2 xR yc Ku):cj P w K mg base CX0 3 f fd Ak (spT K Q8):=by
 refine F.okT Yz (λts R hP=>by obtain⟨_,_,e,_⟩:=hP;exact e ▸ rfl) λag A outer s H E hr=>?_;refine⟨_,(bC (cG (QW.qt (Il (bY (go_eq hr.units) (bK cC (bJ (bI cJ hr.md (by rfl) (bx (bI iD hr.md (by rfl) (bx (qv 0) (bx bA bF))) (bx bA bF))) bA) bA) bA) (C_ (bY (go_eq hr.units) (bK cC (bI iD hr.md (by rfl) (bx (qv 0) (bx bA bF))) bA) bA))))
  (bG (bQ (dI (bH Gk) Og Og ["_law_doors_here"] (cH (qv 1)) (fj (i:=0)) cI bA)))
  bT)
  (bG (bQ (bI Ir hr.md (by rfl) (bx (bI iD hr.md (by rfl) (bx (qv 0) (bx bA bF))) (bx (qv 1) bF)))))),?_⟩
 rintro _ R ⟨ns,ae,rfl,nl,dl,h2,q⟩;refine sq1 (λo=>o=[.fz (scT ns),.fz (yF ae)]) ?_ λY go=>?_
 .rintro _ rfl;exact⟨ns,3,rfl,by exact aL nl (by decide),_,ae,rfl,dl,q⟩
 .refine⟨ns,0,rfl,by exact aL nl (by decide),_,1,rfl,by decide,_,dM (k:=0) (by decide),by decide,swD (λh=>⟨ns,3,rfl,by exact aL nl (by decide),by decide,swD (λh3=>?_) λ_=>go _ rfl⟩) λ_=>go _ rfl⟩;refine⟨by rw[ak];exact aL dl (by decide),comp_map (λds=>L2.T.lst (ds.map ldT)) (λ_=>.int 0) ae (λds _ N M hN=>hN) ?_⟩;have e:ae.map (λ_=>L2.T.int 0)=(ae.map λ_=>some 0).map dT:=by rw[WP];rfl
  rw[e];refine q _ ⟨ak ..,λk d ds e1 e2=>?_⟩;rw[aq,e2]at e1;cases e1;have:=h2 h ds (aC e2);exact Zs (by lia)
theorem YsK.ee{e:Nat}{ys:List Rat}(h:YsK e ys):YsE e ys:=by
 obtain⟨L,l0,l1,hl⟩:=h.cm;exact⟨λy hy=>aL (UX l0 (hl y hy)) l1,h.hi,h.lo⟩
theorem Mz{zs:List Rat}{m k:Nat}(l:zs.length=m)(hk:k<m):zs[k]?=some (zs.getD k 0):=by rw[au,aj (by lia)];rfl
def aa3:ST:=λts q=>∃(m:Nat)(vs ys:List Rat),ts=[.lst (vs.map frR),.lst (ys.map frR)]/\vs.length=m/\ys.length=m/\m<=100/\YsE 244 vs/\YsE 244 ys/\∀x:Int×Int,PrB 600 x->0<=vl x->Df m (gt vs) (gt ys) (vl x)->(vl x=0\/∃i,i<m/\vl x=vs.getD i 0-ys.getD i 0)->q (.fz (prT x))
theorem afx(F:Fun K N_ N_ VR f fd)(T:Txt K mg D)(KJ:OkT P w K mg base 2 Ih Hz Uz)(DY:OkT P w K mg base 1 Ck Cu Lj):cj P w K mg base CX0 3 f fd Pa (spT K aa3):=by
 refine F.okT afX (λts R hP=>by obtain⟨_,_,_,e,_⟩:=hP;exact e ▸ rfl) λag A outer s H E hr=>?_;refine⟨_,(bG (bQ (bI KJ hr.md (by rfl) (bx (dI (bH VR) aag aag ["_law_high","_law_one"] (Hv (by rfl) T.Ph (bx (qv 0) (bx (qv 1) bF))) (fG (n:=2) rfl (bR (fj (i:=0)) (bR (fj (i:=1)) dF))) cI (bI DY hr.md (by rfl) (bx (qv 0) (bx (qv 1) bF)))) bF)))),?_⟩;rintro _ R ⟨m,vs,ys,rfl,l1,l2,m1,hv,hy,q⟩;show(Dk (vs.map frR) (ys.map frR)).length<=sizeLine/\jd _ _ _ _ (Dk (vs.map frR) (ys.map frR)) _;rw[Hg]
 let g:Rat×Rat->Int×Int:=λp=>(p.1.num*p.2.den-p.2.num*p.1.den,p.1.den*p.2.den)
 have gv:∀p:Rat×Rat,vl (g p)=p.1-p.2:=λp=>by
  have a:=p.1.den_pos;have b:=p.2.den_pos;rw[Yh (by lia) (by lia),rd,rd]
 have gb:∀p∈vs.zip ys,PrB 600 (g p):=λp hp=>by
  obtain⟨a1,a2⟩:=hv.z (VQ hp).1;obtain⟨b1,b2⟩:=hy.z (VQ hp).2;have a:=p.1.den_pos;have b:=p.2.den_pos;exact adM (k:=599) (n1:=276) (d1:=244) (n2:=276) (d2:=244) (by lia) (by lia) a1 (by lia) b1 (by lia) (by decide) (by decide) (by decide)
 refine⟨by rw[ak,VX];exact aL (show _<=1000 by lia) (by decide),comp_map (λp:Rat×Rat=>.tup [frR p.1,frR p.2]) (λp=>prT (g p)) (vs.zip ys) (λp hp N M hN=>?_) ⟨600,(vs.zip ys).map g,by rw[WP];rfl,by decide,λx hx=>?_,λy yb y0 le yo=>q y yb y0 (λi hi=>?_) ?_⟩⟩
 .have b1:=(hv.z (VQ hp).1).bq (by decide) (by decide);have b2:=(hy.z (VQ hp).2).bq (by decide) (by decide);exact⟨rfl,_,_,_,_,rfl,⟨b1.1,b1.2,b2.1,b2.2⟩,hN⟩
 .obtain⟨p,hp,rfl⟩:=YV.mp hx;exact gb p hp
 .have mem:(vs.getD i 0,ys.getD i 0)∈vs.zip ys:=aC (i:=i) (List.getElem?_zip_eq_some.mpr ⟨Mz l1 hi,Mz l2 hi⟩);have:=le _ (YV.mpr ⟨_,mem,rfl⟩);rw[gv]at this;exact this
 .rcases yo with z|z
  .exact .inl z
  .obtain⟨p,hp,e⟩:=YV.mp z;obtain⟨i,ei⟩:=aV hp;obtain⟨e1,e2⟩:=List.getElem?_zip_eq_some.mp ei;refine .inr ⟨i,by rw[<- l1];exact(ao.mp e1).1,?_⟩;rw[<- e,gv,au,au,e1,e2]
   rfl
theorem ag8{ae:List (List LD)}{k:Nat}{ds:List LD}(e:ae[k]?=some ds):ixT (ae.map λds=>L2.T.lst (ds.map ldT)) (k:Nat)=some (.lst (ds.map ldT)):=cZ (h:=λds=>L2.T.lst (ds.map ldT)) e
theorem aeD{s:Rat}{y:Nat->Rat}{ae:List (List LD)}{pl:List (Option Nat)}{k:Nat}{ds:List LD}{c:Option Nat}(ek:ae[k]?=some ds)(ep:pl[k]?=some c):Sq s y ae pl k=match c.bind λd=>ds[d]? with|none=>0|some d=>MF s y d:=by
 unfold Sq;rw[au,au,ek,ep]
 rfl
def yL(s:Rat)(ae:List (List LD))(vs:List Rat)(pl:List (Option Nat))(k:Nat):Rat:=vs.getD k 0-Sq s (gt vs) ae pl k
def QF:ST:=λts q=>∃(s:Rat)(m mo:Nat)(ae:List (List LD))(pl:List (Option Nat))(vs:List Rat),ts=[frR s,yF ae,.lst (pl.map dT),.lst (vs.map frR)]/\Shr s/\DSk m mo ae/\m<=100/\PlD ae pl/\vs.length=m/\YsE 244 vs/\(∀k,k<m->ae.getD k []=[]->vs.getD k 0=0)/\∀xs:Γ,xs.length=m->(∀x∈xs,PrB 1400 x)->(∀(k:Nat)x,xs[k]?=some x->vl x=yL s ae vs pl k)->q (.l1 (xs.map prT))
theorem Y8(F:Fun K Cv Cv Ni f fd)(T:Txt K mg D)(Us:OkT P w K mg base 1 GP Gz U8)(DY:OkT P w K mg base 1 Ck Cu Lj):cj P w K mg base CX0 2 f fd CW (spT K QF):=by
 refine F.okT wL (λts R hP=>by obtain⟨_,_,_,_,_,_,e,_⟩:=hP;exact e ▸ rfl) λag A outer s H E hr=>?_;refine⟨_,(bC (iu 4 wL.nd (Or.inl rfl) (d7 bF))
  (bC (dB VZ rfl (cY (by rfl) T.dO (bx (bV dh (by rfl) T.dY W1 (bx (qv 1) bF)) bF)) (b_ (n:=99) 5 wL.nd (Or.inl rfl))
  (bC (bM 6 wL.nd (Or.inl rfl) (cW (bx bA (bx bA bF))))
  (bC (cG (bY FT (bJ (qv 2) (qv 5)) jg)
  (bG (bM 6 wL.nd (Or.inl rfl) (bI DY hr.md (by rfl) (bx (bJ (qv 3) (qv 5)) (bx (bI Us hr.md (by rfl) (bx (qv 0) (bx (bJ (bJ (qv 1) (qv 5)) (bJ (qv 2) (qv 5))) (bx (qv 3) bF)))) bF)))))
  bT)
  (bG (nG 4 (qv 6))))))
  (bG (jJ 4)))),?_⟩
 rintro _ R ⟨s,m,mo,ae,pl,vs,rfl,hs,hd,m1,hp,yl,hy,no,q⟩;have dl:(ae.map λds=>L2.T.lst (ds.map ldT)).length=m:=by rw[ak,hd.len]
 refine⟨⟨by rw[dl];lia,by rw[dl];lia⟩,jr (λk o=>∃(xs:Γ)(x y:OT),o=[.fz (frR s),.fz (yF ae),.fz (.lst (pl.map dT)),.fz (.lst (vs.map frR)),.l1 (xs.map prT),x,y]/\xs.length=k/\(∀x∈xs,PrB 1400 x)/\∀(j:Nat)x,xs[j]?=some x->vl x=yL s ae vs pl j) ⟨[],.und,.und,rfl,rfl,(λ_ z=>nomatch z),(λ_ _ z=>nomatch z)⟩ ?_ ?_⟩
 .rintro k _ hk ⟨xs,x,y,rfl,xl,xb,xv⟩;have hk:k<m:=by rw[dl]at hk;lia
  have lk:k<ae.length:=by rw[hd.len];exact hk
  have ek:=aj lk;have lp:k<pl.length:=by rw[hp.len];exact lk
  have ep:=aj lp;have ft:=hp.ok k _ _ ep ek;have ey:=Mz yl hk;have lm:(xs.map prT).length<sizeLine:=by
   rw[ak,xl];exact aR (show k<1000 by lia) (by decide)
  dsimp only[hName];refine sq2 (λo=>∃z:Int×Int,o=[.fz (frR s),.fz (yF ae),.fz (.lst (pl.map dT)),.fz (.lst (vs.map frR)),.l1 (xs.map prT),.fz (.int (k:Nat)),.fz (prT z)]/\PrB 1400 z/\vl z=yL s ae vs pl k) ?_ λY go=>?_
  .rintro _ ⟨z,rfl,zb,zv⟩;refine⟨lm,xs++[z],.fz (.int (k:Nat)),.fz (prT z),by rw[bf];rfl,by simp[xl],λw hw=>?_,λj w ew=>?_⟩
   .rcases Y1.mp hw with h|h
    .exact xb w h
    .rw[YR.mp h];exact zb
   .by_cases c:j<xs.length
    .rw[aF c]at ew;exact xv j w ew
    .have lj:=(ao.mp ew).1;rw[aA,List.length_singleton]at lj;have:j=k:=by lia
     subst this;rw[aD (WG xl),show j-xs.length=0 by lia]at ew;cases ew;exact zv
  .refine⟨_,cZ ep,?_⟩;have g3:=aeD (s:=s) (y:=gt vs) ek ep;cases c:pl[k]with
   |none =>
    rw[c]at g3 ft;have l0:ae[k].length=0:=of_decide_eq_true ft;refine go _ ⟨(0,1),rfl,⟨by decide,aZ _,Zzz (by decide)⟩,?_⟩;unfold yL;rw[g3,no k hk (by rw[au,ek];exact List.length_eq_zero_iff.mp l0)];show Rat.divInt 0 1=(0:Rat)-0;rw[TK]
    grind
   |some j =>
    rw[c]at g3 ft ep;have lj:j<ae[k].length:=of_decide_eq_true ft;have ej:=aj lj;have g3:Sq s (gt vs) ae pl k=match ae[k][j]? with|none=>0|some d=>MF s (gt vs) d:=g3
    rw[ej]at g3;obtain⟨yz,_⟩:=hy.get k;have yq:=yz.bq (by decide) (by decide);have yp:=(vs.getD k 0).den_pos;refine⟨_,cZ ey,_,ag8 ek,_,cZ ep,?_⟩;refine⟨_,cZ ej,s,m,244,ae[k][j],vs,rfl,hs,hd.ok _ (aU lk) _ (aU lj),yl,hy,by decide,λa b b0 ba bb ev=>⟨_,_,a,b,rfl,⟨yq.1,yq.2,g_ ba (by decide),g_ bb (by decide)⟩,?_⟩⟩;refine go _ ⟨((vs.getD k 0).num*b-a*(vs.getD k 0).den,(vs.getD k 0).den*b),rfl,adM (k:=1399) (n1:=276) (d1:=244) (n2:=1030) (d2:=997) (by lia) b0 yz.1 (by have:=yz.2;lia) ba bb (by decide) (by decide) (by decide),?_⟩;rw[Yh (by lia) b0,rd,ev];unfold yL;rw[g3]
 .rintro _ ⟨xs,x,y,rfl,xl,xb,xv⟩;have xl:xs.length=m:=by rw[xl];exact dl
  exact q xs xl xb xv
theorem aa2{α:Type}(l:List α){n:Nat} : gJ l (some (n:Int)) none=l.drop n:=by
 unfold gJ;rw[HT.xX];show(l.drop (min n l.length)).take (l.length-min n l.length)=_;by_cases h:n<=l.length
 .rw[Nat.min_eq_left h];exact Zzu (by rw[TW];exact aG _)
 .rw[TR (by lia:l.length<=n),TR (by lia),List.take_nil]
theorem ahi(neg:Bool)(a b:Option Nat){q:OT->Prop}(h:q (.fz (.bl (xr neg (decide (a=b)))))):gEq neg (dT a) (dT b) q:=by
 cases a with
 |none=>cases b<;>exact h
 |some a =>
  cases b with
  |none=>exact h
  |some b =>
   show q (.fz (.bl (xr neg (decide ((a:Int)=(b:Int))))));rw[show decide ((a:Int)=(b:Int))=decide (some a=some b)from decide_eq_decide.mpr ⟨λz=>by rw[Int.ofNat.inj z],λz=>by rw[Option.some.inj z]⟩];exact h
structure GoB(s:Rat)(m:Nat)(ae:List (List LD))(ps:List PWs)(p:PWs)(w:Nat):Prop where
 few:m<=100
 len:ps.length<2^24
 last:ps.getLast?=some p
 pl:∀q∈ps,PlD ae q.1
 vs:p.2.length=m
 ye:YsE 244 p.2
 no:∀k,k<m->ae.getD k []=[]->p.2.getD k 0=0
 gone:∀(j:Nat)a,ps[j]?=some a->∀i,i<m->0<yL s ae p.2 a.1 i->(∀k,k<m->yL s ae p.2 a.1 k<=yL s ae p.2 a.1 i)->∀(t:Nat)b,j+w<=t->ps[t]?=some b->b.1[i]?≠a.1[i]?
def Vy:ST:=λts q=>∃(s:Rat)(m mo:Nat)(ae:List (List LD))(ps:List PWs)(p:PWs)(w k:Nat),ts=[frR s,yF ae,.lst (ps.map pwT),.int (k:Nat),.int (w:Nat)]/\Shr s/\DSk m mo ae/\GoB s m ae ps p w/\k<ps.length/\q (.fz (.bl true))
theorem abF(F:Fun K GJ GJ Sv f fd)(T:Txt K mg D)(Pb:OkT P w K mg base 2 Cv CW QF)(KJ:OkT P w K mg base 2 Ih Hz Uz)(n6:OkT P w K mg base 1 sU sV xM):cj P w K mg base CX0 3 f fd Gn (spT K Vy):=by
 refine F.okT yr (λts R hP=>by obtain⟨_,_,_,_,_,_,_,_,e,_⟩:=hP;exact e ▸ rfl) λag A outer s H E hr=>?_;refine⟨_,(bC (bM 5 yr.nd (Or.inl rfl) (bI Pb hr.md (by rfl) (bx (qv 0) (bx (qv 1) (bx (bJ (bJ (qv 2) (qv 3)) bA) (bx (bJ (bJ (qv 2) (zV bA)) bA) bF))))))
  (bC (bM 6 yr.nd (Or.inl rfl) (bI KJ hr.md (by rfl) (bx (qv 5) bF)))
  (bC (dB VZ rfl (cY (by rfl) T.dO (bx (bV dh (by rfl) T.dY W1 (bx (qv 1) bF)) bF)) (b_ (n:=99) 7 yr.nd (Or.inl rfl))
  (bG (cG (QW.qt (Il (bY El (bJ (qv 6) bA) bA) (C_ (fX (dX (bI n6 hr.md (by rfl) (bx (bJ (qv 5) (qv 7)) (bx (qv 6) bF))))))))
  (bG (dB VZ rfl (cH (j4 (qv 2) (gZ (bK cN (qv 3) (qv 4))) Gj)) (fG (n:=2) rfl (bR (b_ (n:=99) 8 yr.nd (Or.inl rfl)) (bR (b_ (n:=99) 9 yr.nd (Or.inl rfl)) dF)))
  (bG (cG (bY (go_eq hr.units) (bJ (qv 8) (qv 7)) (bJ (bJ (bJ (qv 2) (qv 3)) bA) (qv 7)))
  (bG (bQ u9))
  bT))))
  bT)))
  (bG (bQ u9))))),?_⟩
 rintro _ R ⟨s,m,mo,ae,ps,p,w,k,rfl,hs,hd,G,hk,q⟩;have ek:=aj hk;have few:=G.few;have bg:=G.pl _ (aU hk);have pll:ps[k].1.length=m:=by rw[bg.len,hd.len]
 have dl:(ae.map λds=>L2.T.lst (ds.map ldT)).length=m:=by rw[ak,hd.len]
 refine⟨_,cZ ek,_,Gq G.last,s,m,mo,ae,ps[k].1,p.2,rfl,hs,hd,few,bg,G.vs,G.ye,G.no,λxs xl xb xv=>?_⟩;refine⟨1400,xs,rfl,by decide,xb,λy yb y0 le yo=>⟨⟨by rw[dl];lia,by rw[dl];lia⟩,jr (λi o=>∃x7 x8 x9:OT,o=[.fz (frR s),.fz (yF ae),.fz (.lst (ps.map pwT)),.fz (.int (k:Nat)),.fz (.int (w:Nat)),.fz (.lst (xs.map prT)),.fz (prT y),x7,x8,x9]) ⟨_,_,_,rfl⟩ ?_ ?_⟩⟩
 .rintro i _ hi ⟨x7,x8,x9,rfl⟩;have hi:i<m:=by rw[dl]at hi;lia
  have ex:=aj (show i<xs.length by lia);have kf:=xb _ (aC ex);refine swD (λh1=>?_) λh1=>⟨_,_,_,rfl⟩;refine⟨_,cZ ex,_,_,_,_,rfl,kf.pos,yb.pos,⟨g_ kf.a (by decide),g_ kf.b (by decide),g_ yb.a (by decide),g_ yb.b (by decide)⟩,sw2 (λh2=>?_) λh2=>⟨_,_,_,rfl⟩⟩;have h2:¬(vl xs[i]<vl y):=λz=>by
   have h2:(!decide (vl xs[i]<vl y))=true:=h2;rw[Zs z]at h2;cases h2
  have jS:=Rat.not_lt.mp h2;have v1:=xv i _ ex;have y1:0<vl y:=by
   have h1:(0:Int)<y.1:=h1;have:=(TY (a:=0) (b:=1) (c:=y.1) (d:=y.2) (by decide) yb.pos).mpr (by lia);rw[TK]at this;exact this
  have gone:=G.gone k _ ek i hi (by rw[<- v1];grind) λj hj=>by
   have ej:=aj (show j<xs.length by lia);have a:=le _ (aC ej);rw[xv j _ ej]at a;rw[<- v1];exact US a jS
  have ec:gJ (ps.map pwT) (some ((k:Int)+(w:Int))) none=(ps.drop (k+w)).map pwT:=by
   rw[<- Int.natCast_add,aa2,List.map_drop]
  show uO _ _ _ (gJ (ps.map pwT) (some ((k:Int)+(w:Int))) none) _;rw[ec];refine fV pwT (ps.drop (k+w)) (λ_ o=>∃x8 x9:OT,o=[.fz (frR s),.fz (yF ae),.fz (.lst (ps.map pwT)),.fz (.int (k:Nat)),.fz (.int (w:Nat)),.fz (.lst (xs.map prT)),.fz (prT y),.fz (.int (i:Nat)),x8,x9]) ⟨_,_,rfl⟩ ?_ ?_
  .rintro as b bs _ e ⟨x8,x9,rfl⟩;have bm:b∈ps.drop (k+w):=by rw[e];simp
   obtain⟨t,et⟩:=aV bm;rw[List.getElem?_drop]at et;have bl:b.1.length=m:=by rw[(G.pl _ (aC et)).len,hd.len]
   have eb:=aj (show i<b.1.length by lia);have ea:=aj (show i<ps[k].1.length by lia);refine⟨rfl,_,cZ eb,_,cZ ek,_,cZ ea,ahi false _ _ ?_⟩;have ne:b.1[i]≠ps[k].1[i]:=λz=>gone _ b (X2 _ _) et (by rw[eb,ea,z]);rw[Zp ne];exact⟨_,_,rfl⟩
  .rintro _ ⟨x8,x9,rfl⟩;exact⟨_,_,_,rfl⟩
 .rintro _ ⟨x7,x8,x9,rfl⟩;exact q
theorem abk{ae:List (List LD)}{off:List (List bN)}(ho:yN ae off){pl:List (Option Nat)}(h:PlT off pl):PlD ae pl:=by
 refine⟨by rw[h.len,ho.len],λk d ds e1 e2=>?_⟩;have lk:k<off.length:=by rw[ho.len];exact(ao.mp e2).1
 have ek:=aj lk;obtain⟨tl,g4,eo⟩:=ho.at_ k ds _ e2 ek;have:=h.ok k d _ e1 ek;rw[eo,ak,VX,g4,UV]at this;exact this
theorem ae6(x:Β)(s:Rat):vl (x.1*s.num,x.2*(s.den:Int))=vl x*s:=by
 show Rat.divInt (x.1*s.num) (x.2*(s.den:Int))=_;rw[<- T2,rd]
def ZP:ST:=λts q=>∃ns:List Int,ts=[scT ns]/\ns.length<=63/\q (.fz (.bl true))
theorem afN(F:Fun K M8 M8 Vs f fd)(T:Txt K mg D)(iD:OkT P w K mg base 1 uD uK z_)(Oh:OkT P w K mg base 3 Ag Ai Qf)(Ld:OkT P w K mg base 6 Af Bj RK)(Uh:OkT P w K mg base 9 Gd Gr (V1 D))(Oo:OkT P w K mg base 3 Bb Ak Q8)(zL:OkT P w K mg base 10 qL qP (Ed D))(pC:OkT P w K mg base 1 qu p7 (zX D))(nM:OkT P w K mg base 4 iT iM (VF D))(VB:OkT P w K mg base 3 N_ Pa aa3)(n6:OkT P w K mg base 1 sU sV xM)(Uv:OkT P w K mg base 3 GJ Gn Vy):cj P w K mg base CX0 11 f fd U5 (spT K ZP):=by
 refine F.okT pG (λts R hP=>by obtain⟨_,e,_⟩:=hP;exact e ▸ rfl) λag A outer s H E hr=>?_;refine⟨_,(bC (bM 1 pG.nd (Or.inl rfl) (bI Oh hr.md (by rfl) (bx (bI iD hr.md (by rfl) (bx (qv 0) (bx bA bF))) bF)))
  (bC (bM 2 pG.nd (Or.inl rfl) (bI Ld hr.md (by rfl) (bx (qv 0) bF)))
  (bC (bM 3 pG.nd (Or.inl rfl) (bI Uh hr.md (by rfl) (bx (bI iD hr.md (by rfl) (bx (qv 0) (bx bA bF))) (bx (qv 1) (bx (qv 2) bF)))))
  (bC (bM 4 pG.nd (Or.inl rfl) (bI Oo hr.md (by rfl) (bx (qv 0) (bx (qv 2) bF))))
  (bC (bM 5 pG.nd (Or.inl rfl) (bI zL hr.md (by rfl) (bx (qv 3) (bx (qv 4) bF))))
  (bC (bM 6 pG.nd (Or.inl rfl) (bI pC hr.md (by rfl) (bx (qv 3) bF)))
  (bC (cG (QW.qt (nR (bY uY (qv 6) bA) (k_ (bY El (bV dh (by rfl) T.dY W1 (bx (qv 5) bF)) (bI nM hr.md (by rfl) (bx (qv 3) bF))))))
  (bG (bQ u9))
  bT)
  (bC (bM 7 pG.nd (Or.inl rfl) (bJ (bJ (qv 5) (zV bA)) bA))
  (bC (dB VZ rfl (cY (by rfl) T.dO (bx (bV dh (by rfl) T.dY W1 (bx (qv 5) bF)) bF)) (b_ (n:=99) 8 pG.nd (Or.inl rfl))
  (bC (cG (bY El (qv 8) bA)
  (bC (bM 9 pG.nd (Or.inl rfl) (bI VB hr.md (by rfl) (bx (qv 7) (bx (bJ (bJ (qv 5) (bK mj (qv 8) bA)) bA) bF))))
  (bC (bM 10 pG.nd (Or.inl rfl) (cW (bx (bK cB (bJ (qv 9) bA) (bJ (qv 1) bA)) (bx (bK cB (bJ (qv 9) bA) (bJ (qv 1) bA)) bF))))
  (bG (cG (dX (bI n6 hr.md (by rfl) (bx (qv 10) (bx (bI VB hr.md (by rfl) (bx (qv 7) (bx (bJ (bJ (qv 5) (qv 8)) bA) bF))) bF))))
  (bG (bQ u9))
  bT))))
  bT)
  (bG (cG (fX (dX (bI Uv hr.md (by rfl) (bx (qv 1) (bx (qv 2) (bx (qv 5) (bx (qv 8) (bx (qv 6) bF))))))))
  (bG (bQ u9))
  bT))))
  (bG (bQ u9))))))))))),?_⟩
 rintro _ R ⟨ns,rfl,nl,q⟩;refine⟨ns,2,rfl,by exact aL nl (by decide),_,rfl,λs hs=>⟨ns,rfl,nl,λm ae x ex hd sm h2=>?_⟩⟩;dsimp only;rw[ex];have m8:m<=8:=by rcases sm with z|z;exact aL z (by decide);exact z.1
 refine⟨ns,1,rfl,by exact aL nl (by decide),_,s,m,4,ae,rfl,hs,hd,by exact aL m8 (by decide),by decide,λnm off hn hok ho=>?_⟩;obtain⟨N,B⟩:=abI hs hd sm ho;have ol:off.length=m:=by rw[ho.len,hd.len]
 refine⟨ns,ae,rfl,nl,by have:=hd.len;lia,h2,λpl bg=>?_⟩;have hp:=ab7 ho bg;refine⟨s,nm,off,pl,N,rfl,hok,hp,B,λps hm=>?_⟩;generalize(2*off.length*N)^off.length=M at hm;refine⟨s,nm,off,rfl,hs,λw w1 w7 hw=>?_⟩;have pn:0<ps.length:=Nat.pos_of_ne_zero λz=>hm.ne (List.length_eq_zero_iff.mp z);have pc:ps.length<2^24:=Y3 (hm.told.len B) B.pls;obtain⟨p,el⟩ : ∃p,ps.getLast?=some p:=by
  cases e:ps.getLast? with
  |none=>exact absurd (List.getLast?_eq_none_iff.mp e) hm.ne
  |some p=>exact⟨p,rfl⟩
 obtain⟨p1,p2,_⟩:=hm.told.ok _ (QP el);have opt:=aeP hd ho hm el;have ye:∀a∈ps,YsE 244 a.2/\a.2.length=m:=λa ha=>by
  obtain⟨a1,a2,_⟩:=hm.told.ok a ha;exact⟨(Yg hs hd sm ho a1 a2).ee,by rw[a2.1,ol]⟩
 have lk:∀a∈ps,∀i,i<m->yL s ae p.2 a.1 i=eE s off p.2 a.1 i:=λa ha i hi=>by
  obtain⟨a1,_⟩:=hm.told.ok a ha;unfold yL eE vP;rw[Zv hd ho (by rw[a1.len];lia)]
 have pe:=ye p (QP el);have G:GoB s m ae ps p w:=by
  refine⟨by exact aL m8 (by decide),pc,el,λa ha=>abk ho (hm.told.ok a ha).1,pe.2,pe.1,opt.no,λj a ea i hi pos mx t b ht eb=>?_⟩;have ma:=aC ea;rw[lk a ma i hi]at pos;exact Vr hm B el (le_last hm B el) hw ea (by lia) pos (λk hk=>by rw[<- lk a ma k (aR hk (WG ol)),<- lk a ma i hi];exact mx k (aR hk (WG ol))) ht eb
 have fews:∀ds∈off,ds.length<=1000:=hok.fews;refine swF (Zp (by lia)) ⟨s,nm,off,rfl,hok,hs,by lia,fews,λw' w1' hG=>swF ?_ ?_⟩
 .refine Zp ?_;have:=X7 hm B el w1' hG;rw[ak];have e:((1+w'*(off.map λds=>ds.length-1).sum:Nat):Int)=1+(w':Int)*((off.map λds=>ds.length-1).sum:Nat):=by rw[Int.natCast_add,Th];rfl
  lia
 refine⟨_,Gq el,?_⟩;refine⟨⟨by rw[ak];lia,by rw[ak];lia⟩,jr (λk o=>∃x8 x9 eP:OT,o=[.fz (scT ns),.fz (frR s),.fz (yF ae),.fz (hlT D s nm off),.fz (.lst (pl.map dT)),.fz (.lst (ps.map pwT)),.fz (.int (w:Nat)),.fz (.lst (p.2.map frR)),x8,x9,eP]) ⟨_,_,_,rfl⟩ ?_ ?_⟩
 .rintro k _ hk ⟨x8,x9,eP,rfl⟩;have hk:k<ps.length:=by rw[ak]at hk;lia
  have ek:=aj hk;dsimp only[hName];refine sq1 (λo=>∃x9 eP:OT,o=[.fz (scT ns),.fz (frR s),.fz (yF ae),.fz (hlT D s nm off),.fz (.lst (pl.map dT)),.fz (.lst (ps.map pwT)),.fz (.int (w:Nat)),.fz (.lst (p.2.map frR)),.fz (.int (k:Nat)),x9,eP]) ?_ λY go=>?_
  .rintro _ ⟨x9,eP,rfl⟩;exact⟨s,m,4,ae,ps,p,w,k,rfl,hs,hd,G,hk,_,_,_,rfl⟩
  .refine swD (λh0=>?_) λ_=>go _ ⟨_,_,rfl⟩;have h0:(0:Int)<(k:Nat):=h0;have ej:=aj (show k-1<ps.length by exact Nat.sub_lt_of_lt hk);have i1:ixT (ps.map pwT) ((k:Int)-1)=some (pwT ps[k-1]):=by rw[show(k:Int)-1=((k-1:Nat):Int)by lia];exact cZ ej
   have ya:=ye _ (aU (show k-1<ps.length by exact Nat.sub_lt_of_lt hk));have yb':=ye _ (aU hk);have sz:=Bg hs;have sq:=sz.bq (by decide) (by decide);have sp:=s.den_pos;refine⟨_,i1,m,p.2,ps[k-1].2,rfl,pe.2,ya.2,by exact aL m8 (by decide),pe.1,ya.1,λx xb x0 xd xo=>?_⟩;refine⟨⟨g_ xb.a (by decide),sq.1⟩,⟨g_ xb.b (by decide),sq.2⟩,?_⟩;refine⟨_,cZ ek,m,p.2,ps[k].2,rfl,pe.2,yb'.2,by exact aL m8 (by decide),pe.1,yb'.1,λy yb y0 yd yo=>?_⟩;have da:(x.1*s.num).natAbs<=10^602:=by
    rw[VY,show 602=600+2 from rfl,VT];exact WH xb.a sz.1
   have db:(x.2*(s.den:Int)).natAbs<=10^602:=by
    rw[VY,XG,show 602=600+2 from rfl,VT];exact WH xb.b sz.2
   refine⟨_,_,_,_,rfl,XZ xb.pos (by lia),yb.pos,⟨g_ da (by decide),g_ db (by decide),g_ yb.a (by decide),g_ yb.b (by decide)⟩,swF (Zp (Rat.not_lt.mpr ?_)) (go _ ⟨_,_,rfl⟩)⟩;show vl y<=vl (x.1*s.num,x.2*(s.den:Int));rw[ae6];rcases yo with z|⟨i,hi,z⟩
   .rw[z];exact Zyw x0 hs.lo
   .obtain⟨u,_⟩:=hm.told.up (k-1) _ _ ej (by rw[show k-1+1=k by lia];exact ek);obtain⟨a1,a2,_⟩:=hm.told.ok _ (aU (show k-1<ps.length by exact Nat.sub_lt_of_lt hk));obtain⟨b1,b2,_⟩:=hm.told.ok _ (aU hk);have:=nearer B.s0 B.s1 B.sh a1 p1 u a2 b2 p2 x0 (by rw[ol];exact xd) i (by lia);rw[z,XU];exact this
 .rintro _ ⟨x8,x9,eP,rfl⟩;exact q
end
theorem agc{K:Frag}{vs:Ζ}{H:Hp}{Q:VK}{E:XK}(h:V2 K vs H Q E):spT K ZP vs H Q E:=by
 obtain⟨a,ns,rfl,hs,hl,_,hQ⟩:=h;refine⟨[scT ns],λx=>x=.fz (.bl true),.cons (.scr hs (Dd ns)) .nil,⟨ns,rfl,hl,rfl⟩,?_⟩;rintro H' v _ rfl _ ⟨B,_,_,u,e,r⟩;cases e;cases r;exact hQ H'
theorem law_fn{l:PySem.W.OpenLaw}{w:World}{K:Frag}{mg:Str->Ω}(T0:∃D,Txt K mg D)(base:Heap)(f:Addr)(fd:FuncData)(F:Fun K M8 M8 Vs f fd) :
  cj l.prog w K mg base CX0 11 f fd U5 (V2 K):=by
 obtain⟨D,T⟩:=T0;have o {k:Nat}{n:Str}{st:Stmt}{ps:Φ}{sp:Sp} (h:cL K mg n st ps) (g:∀f fd,Fun K n n st f fd->cj l.prog w K mg base CX0 k f fd ps sp):OkF l.prog w K mg base k n ps sp:=h.ok g;have i {k:Nat}{n m:Str}{st:Stmt}{ps:Φ}{f:Addr}{sp:Sp} (h:zA K n m st ps f) (g:∀fd,Fun K n m st f fd->cj l.prog w K mg base CX0 k f fd ps sp):OkI l.prog w K mg base CX0 k f ps sp:=h.ok g;have dG:=o T.Tn λ_ _ F=>Qe F T;have dJ:=o T.XJ λ_ _ F=>SQ F T;have dH:=o T.abw λ_ _ F=>aah F T dG dJ;have Ds:=o T.afJ λ_ _ F=>acO dH F;have oG:=o T.ab9 λ_ _ F=>X8 dH F;have uy:=o T.ac7 λ_ _ F=>aax dH F;have Ss:=o T.aeA λ_ _ F=>abS dH F;have gY:=o T.acE λ_ _ F=>aaX F;have gC:=o T.Uk λ_ _ F=>Qh F T dG dJ;have jC:=o T.acL λ_ _ F=>Yo F dJ;have i_:=o T.Xc λ_ _ F=>Te F T;have iR:=o T.Li λ_ _ F=>JB F i_ gC;have dW:=o T.CN λ_ _ F=>zH F i_;have fW:=o T.Ia λ_ _ F=>Fo F T gC gY;have N6:=o T.f_total λ_ _ F=>aau F T jC dH;have rM:=o T.Jp λ_ _ F=>G7 F T dW fW N6;have rJ:=o T.Jx λ_ _ F=>Hj F T Ds;have jU:=i T.Mq λ_ F=>Nr F T iR;have xJ:=i T.Ob λ_ F=>K7 F T jU dW;have d_:=i T.JM λ_ F=>J5 F T jU rM rJ;have vG:=i T.M4 λ_ F=>Mr F T iR fW oG d_;have vo:=i T.NK λ_ F=>M_ F T d_;have wI:=i T.Oj λ_ F=>N8 F T;have rE:=o T.JQ λ_ _ F=>Jh F T gC gY;have tV:=o T.Oq λ_ _ F=>JF F T i_;have nF:=o T.Ft λ_ _ F=>Dv F T wI;have vm:=o T.Q6 λ_ _ F=>Nk F T nF;have v9:=i T.NQ λ_ F=>NT F T rE tV vm;have fM:=i T.Lb λ_ F=>Ma F T;have j8:=i T.zK λ_ F=>Jt F T dG fM;have cV:=i T.Ij λ_ F=>W0 F T j8;have sX:=o T.Y0 λ_ _ F=>W2 F dJ;have vC:=o T.Qj λ_ _ F=>Mf F T sX;have zW:=o T.Ur λ_ _ F=>Qo F T dJ sX;have uX:=o T.Rq λ_ _ F=>O2 F T vC zW;have jV:=o T.RQ λ_ _ F=>K6 F dH;have pH:=o T.IK λ_ _ F=>Fq F dH;have tW:=o T.Ol λ_ _ F=>Js F T;have tX:=o T.ac1 λ_ _ F=>ZQ F uX;have vQ:=o T.Ro λ_ _ F=>Pg F T tX jV Ss;have pW:=o T.GR λ_ _ F=>Fj F T tX jV oG;have DX:=o T.Wu λ_ _ F=>U4 F T jC tW vQ pW pH;have yW:=o T.S5 λ_ _ F=>QD F T;have rW:=o T.Jv λ_ _ F=>G4 F T;have vN:=o T.RJ λ_ _ F=>MP F T;have DK:=o T.XM λ_ _ F=>T_ F T;have vA:=o T.RL λ_ _ F=>K3 F T;have rA:=o T.JH λ_ _ F=>Je F T yW rW DX vN DK vA;have rH:=o T.JR λ_ _ F=>Iv F T;have Uq:=o T.ae8 λ_ _ F=>ab1 F T dG;have dZ:=o T.MJ λ_ _ F=>J2 F T Uq fM cV;have p8:=o T.H_ λ_ _ F=>Ey F T cV;have wR:=o T.RM λ_ _ F=>Nh F T rH oG uy;have vV:=o T.Rk λ_ _ F=>Lz F T dZ p8 wR rA;have sG:=o T.JN λ_ _ F=>Hl F T jC dH;have zR:=o T.TQ λ_ _ F=>QC F T gY;have rN:=o T.JK λ_ _ F=>Jm F T sG Ds uy;have rZ:=o T.J7 λ_ _ F=>G8 F T zR gY;have Ib:=o T.Yu λ_ _ F=>Xr F T dZ jC rN rZ cV;have zL:=o T.Uu λ_ _ F=>Rb F T dZ vV Ib;have iD:=o T.afR λ_ _ F=>abg F;have cJ:=o T.ZV λ_ _ F=>WR F T;have mI:=o T.ag6 λ_ _ F=>aeS F T;have iz:=o T.aaf λ_ _ F=>XS F mI;have GK:=o T.acH λ_ _ F=>aas F T cJ;have Oh:=o T.abT λ_ _ F=>aaU F T cJ iz;have mM:=o T.ahw λ_ _ F=>afS F T iz;have Uc:=o T.afh λ_ _ F=>ac0 F T cJ;have SM:=o T.afm λ_ _ F=>adu F T cJ iz mM;have O5:=o T.adv λ_ _ F=>Z0 F T iD cJ SM;have Nu:=o T.acd λ_ _ F=>aad F T xJ d_ vG vo;have Uh:=o T.afU λ_ _ F=>ab6 F T GK Nu v9;have zB:=o T.TF λ_ _ F=>Qn F T cJ;have Ir:=o T.aac λ_ _ F=>X3 F T cJ;have n6:=o T.adD λ_ _ F=>Xo F;have Us:=o T.f_look λ_ _ F=>abK F T;have DY:=o T.agm λ_ _ F=>abW F;have KJ:=o T.ag3 λ_ _ F=>afj F T n6;have pC:=o T.Xg λ_ _ F=>SN F T;have nM:=o T.Fz λ_ _ F=>acj F T fM cV pC;have Ld:=o T.abf λ_ _ F=>aaA F T iD cJ zB Uc O5;have Oo:=o T.abX λ_ _ F=>ZK F T iD cJ Ir;have VB:=o T.aiK λ_ _ F=>afx F T KJ DY;have Pb:=o T.adk λ_ _ F=>Y8 F T Us DY;have Uv:=o T.afk λ_ _ F=>abF F T Pb KJ n6;exact(afN F T iD Oh Ld Uh Oo zL pC nM VB n6 Uv).imp λ_ _ _ _ h=>agc h
end K31
end
open PySem PySem.W PyProof.Rows
set_option maxRecDepth 100000 in
set_option maxHeartbeats 0 in
theorem PySem.Challenge.cw_chancehall_k31_whole_mendings_end_holds : PySem.Challenge.rw_chancehall_k31_whole_mendings_end.Holds := by
 w_on
 refine holds_law H31.wsd λkq=>?_;refine holds_open (q:=H31.qv) (loose:=[]) (XP:=XL H31.qv []) (YP:=InK H31.KH) H31.left (InK.of H31.asK) InK.keeps H31.hX XL.keeps (by rfl) (by rfl) (by rfl) H31.hR (by rfl) kq (by decide +kernel) ⟨rfl,rfl,rfl,rfl,rfl,by decide +kernel⟩ ?hw ?hc
 (case hw=>w_witness2)
 k_fill
 refine L2.ah5 (l:=PySem.Challenge.rw_chancehall_k31_whole_mendings_end) (k:=11) (x := "_law_script") rfl rfl ⟨rfl,by decide,by decide⟩ (λw h Y=>(show(H31.KH w.params).In h from Y)) ?F
 case F =>
  intro w mg fa h KX G ge;refine⟨K31.Vs,?_,λbase f fd F=>K31.law_fn ?T base f fd F⟩
  .exact L2.q_f 1 λ_ _ _ _ _ _ _=>rfl
  case T =>
   refine⟨⟨455,476,495,514,531,616,135,136,438,445,473,492,511,528,573,580,601,613⟩,⟨L2.q_c,L2.q_c,L2.q_c,L2.q_c,L2.q_c,L2.q_c,L2.q_c,L2.q_c,L2.q_g,L2.q_t,L2.q_t,L2.q_4,L2.q_m,L2.q_n,L2.q_n,L2.q_n,L2.q_n,L2.q_n,L2.q_n,L2.q_M,L2.q_4,L2.q_m,L2.q_n,L2.q_n,L2.q_n,L2.q_n,L2.q_n,L2.q_n,L2.q_M,L2.q_4,L2.q_m,L2.q_n,L2.q_n,L2.q_n,L2.q_n,L2.q_n,L2.q_n,L2.q_M,L2.q_4,L2.q_m,L2.q_n,L2.q_n,L2.q_n,L2.q_n,L2.q_n,L2.q_n,L2.q_M,L2.q_4,L2.q_m,L2.q_n,L2.q_n,L2.q_n,L2.q_n,L2.q_n,L2.q_n,L2.q_M,L2.q_4,L2.q_m,L2.q_m,L2.q_m,L2.q_n,L2.q_n,L2.q_n,L2.q_n,L2.q_n,L2.q_n,L2.q_B,L2.q_h 3 λ_ _ _ _ _ _ _ _ _=>rfl,L2.q_h 1 λ_ _ _ _ _ _ _=>rfl,L2.q_h 4 λ_ _ _ _ _ _ _ _ _ _=>rfl,L2.q_B,L2.q_h 4 λ_ _ _ _ _ _ _ _ _ _=>rfl,L2.q_h 6 λ_ _ _ _ _ _ _ _ _ _ _ _=>rfl,L2.q_h 4 λ_ _ _ _ _ _ _ _ _ _=>rfl,L2.q_h 3 λ_ _ _ _ _ _ _ _ _=>rfl,L2.q_h 1 λ_ _ _ _ _ _ _=>rfl,L2.q_h 2 λ_ _ _ _ _ _ _ _=>rfl,L2.q_h 2 λ_ _ _ _ _ _ _ _=>rfl,L2.q_z,L2.q_z,L2.q_z,L2.q_z,L2.q_z,L2.q_z,L2.q_z,L2.q_z,L2.q_z,L2.q_z,L2.q_z,L2.q_z,L2.q_z,L2.q_z,L2.q_f 1 λ_ _ _ _ _ _ _=>rfl,L2.q_f 2 λ_ _ _ _ _ _ _ _=>rfl,L2.q_f 2 λ_ _ _ _ _ _ _ _=>rfl,L2.q_f 1 λ_ _ _ _ _ _ _=>rfl,L2.q_f 2 λ_ _ _ _ _ _ _ _=>rfl,L2.q_f 2 λ_ _ _ _ _ _ _ _=>rfl,L2.q_f 2 λ_ _ _ _ _ _ _ _=>rfl,L2.q_f 2 λ_ _ _ _ _ _ _ _=>rfl,L2.q_f 2 λ_ _ _ _ _ _ _ _=>rfl,L2.q_f 1 λ_ _ _ _ _ _ _=>rfl,L2.q_f 1 λ_ _ _ _ _ _ _=>rfl,L2.q_f 1 λ_ _ _ _ _ _ _=>rfl,L2.q_f 2 λ_ _ _ _ _ _ _ _=>rfl,L2.q_f 2 λ_ _ _ _ _ _ _ _=>rfl,L2.q_f 2 λ_ _ _ _ _ _ _ _=>rfl,L2.q_f 3 λ_ _ _ _ _ _ _ _ _=>rfl,L2.q_f 2 λ_ _ _ _ _ _ _ _=>rfl,L2.q_f 2 λ_ _ _ _ _ _ _ _=>rfl,L2.q_f 3 λ_ _ _ _ _ _ _ _ _=>rfl,L2.q_f 2 λ_ _ _ _ _ _ _ _=>rfl,L2.q_f 2 λ_ _ _ _ _ _ _ _=>rfl,L2.q_f 1 λ_ _ _ _ _ _ _=>rfl,L2.q_f 3 λ_ _ _ _ _ _ _ _ _=>rfl,L2.q_f 3 λ_ _ _ _ _ _ _ _ _=>rfl,L2.q_f 5 λ_ _ _ _ _ _ _ _ _ _ _=>rfl,L2.q_f 4 λ_ _ _ _ _ _ _ _ _ _=>rfl,L2.q_f 2 λ_ _ _ _ _ _ _ _=>rfl,L2.q_f 1 λ_ _ _ _ _ _ _=>rfl,L2.q_f 2 λ_ _ _ _ _ _ _ _=>rfl,L2.q_f 2 λ_ _ _ _ _ _ _ _=>rfl,L2.q_f 3 λ_ _ _ _ _ _ _ _ _=>rfl,L2.q_f 3 λ_ _ _ _ _ _ _ _ _=>rfl,L2.q_f 1 λ_ _ _ _ _ _ _=>rfl,L2.q_f 2 λ_ _ _ _ _ _ _ _=>rfl,L2.q_f 2 λ_ _ _ _ _ _ _ _=>rfl,L2.q_f 2 λ_ _ _ _ _ _ _ _=>rfl,L2.q_f 2 λ_ _ _ _ _ _ _ _=>rfl,L2.q_f 2 λ_ _ _ _ _ _ _ _=>rfl,L2.q_f 3 λ_ _ _ _ _ _ _ _ _=>rfl,L2.q_f 2 λ_ _ _ _ _ _ _ _=>rfl,L2.q_f 1 λ_ _ _ _ _ _ _=>rfl,L2.q_f 1 λ_ _ _ _ _ _ _=>rfl,L2.q_f 1 λ_ _ _ _ _ _ _=>rfl,L2.q_f 2 λ_ _ _ _ _ _ _ _=>rfl,L2.q_f 1 λ_ _ _ _ _ _ _=>rfl,L2.q_f 1 λ_ _ _ _ _ _ _=>rfl,L2.q_f 1 λ_ _ _ _ _ _ _=>rfl,L2.q_f 1 λ_ _ _ _ _ _ _=>rfl,L2.q_f 1 λ_ _ _ _ _ _ _=>rfl,L2.q_f 1 λ_ _ _ _ _ _ _=>rfl,L2.q_f 2 λ_ _ _ _ _ _ _ _=>rfl,L2.q_f 2 λ_ _ _ _ _ _ _ _=>rfl,L2.q_f 2 λ_ _ _ _ _ _ _ _=>rfl,L2.q_f 2 λ_ _ _ _ _ _ _ _=>rfl,L2.q_f 2 λ_ _ _ _ _ _ _ _=>rfl,L2.q_f 2 λ_ _ _ _ _ _ _ _=>rfl,L2.q_f 2 λ_ _ _ _ _ _ _ _=>rfl,L2.q_f 1 λ_ _ _ _ _ _ _=>rfl,L2.q_f 3 λ_ _ _ _ _ _ _ _ _=>rfl,L2.q_f 2 λ_ _ _ _ _ _ _ _=>rfl,L2.q_f 4 λ_ _ _ _ _ _ _ _ _ _=>rfl,L2.q_f 3 λ_ _ _ _ _ _ _ _ _=>rfl,L2.q_f 3 λ_ _ _ _ _ _ _ _ _=>rfl,L2.q_f 2 λ_ _ _ _ _ _ _ _=>rfl,L2.q_f 3 λ_ _ _ _ _ _ _ _ _=>rfl,L2.q_f 2 λ_ _ _ _ _ _ _ _=>rfl,L2.q_f 1 λ_ _ _ _ _ _ _=>rfl,L2.q_f 2 λ_ _ _ _ _ _ _ _=>rfl,L2.q_f 1 λ_ _ _ _ _ _ _=>rfl,L2.q_f 2 λ_ _ _ _ _ _ _ _=>rfl,L2.q_f 2 λ_ _ _ _ _ _ _ _=>rfl,L2.q_f 1 λ_ _ _ _ _ _ _=>rfl,L2.q_f 2 λ_ _ _ _ _ _ _ _=>rfl,L2.q_f 4 λ_ _ _ _ _ _ _ _ _ _=>rfl,L2.q_f 5 λ_ _ _ _ _ _ _ _ _ _ _=>rfl⟩⟩
#print axioms PySem.Challenge.cw_chancehall_k31_whole_mendings_end_holds
