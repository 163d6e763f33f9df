import PyProof.Rows.All
import Wide.All
import OpenK.AllK
import Wide.FinOn
import Lean
import PyProof.EqAt
import PyProof.EqKinds
import PyProof.TupleCall
import PyProof.EqLayable
import KE.KIntText
import PyProof.EnumMake
import PyProof.EnumStmt
import PyProof.EnumFor
import PyProof.Rows.EnumRows
import PyProof.ExcInit
import PyProof.ExcClass2
import PyProof.InstStoreFacts
import KE.KLam
import KE.KNestM
import PySem.Challenge.RW_chancehall_k54_bounds
def aj := @List.getElem?_eq_getElem
def ak := @List.length_map
def ao := @List.getElem?_eq_some_iff
def aq := @List.getElem?_map
def au := @List.getD_eq_getElem?_getD
def aA := @List.length_append
def aB := @List.mem_of_getElem?
def aC := @List.getElem?_append_right
def aD := @List.getElem?_append_left
def aF := @Nat.le_refl
def aG := @PySem.Heap.get?_push_of_some
def aH := @List.mem_cons_of_mem
def aJ := @PySem.Heap.lt_size
def aK := @List.take_of_length_le
def aM := @Nat.le_trans
def aN := @List.length_replicate
def aO := @List.mem_cons_self
def aP := @List.take_length
def aQ := @List.mem_append_right
def aR := @Nat.ne_of_lt
def aU := @Nat.lt_of_lt_of_le
def aV := @List.getElem_mem
def aW := @List.getElem?_of_mem
def aX := @Int.fmod_eq_emod_of_nonneg
def aY := @PySem.Heap.get?_push_size
def aZ := @List.size_toArray
def bh := @List.length_take
def bw := @Nat.zero_le
def bA := @List.map_append
def bC := @Bool.false_ne_true
open PySem.W (Frag instObj methodObj hideAll hideAll_size hideAll_get of_hideAll hideAll_none lookIn plainGet hasDictIn findIn handedIn plainGet_of isFn plainOver takerIn makesIn typeIn emptyDict looks_findIn keepIn specialIn takesIn mroIn kitOne kia_one kitx_list kitx_tuple callWith_K methodCall_KW codeIn nsIn mg_of excIn clsIn looks_mroIn KitX readsIn findCls envX kla_obj codeHdIn codeHd_of_K tabObj)
section
open PySem PySem.Spec PyProof.Rows
abbrev Γ:=List (List ((Int×Int)×List (Nat×Int×Int)))
abbrev Δ:=List ((Int×Int)×List (Nat×Int×Int))
abbrev Θ:=List (Nat×Int×Int)
abbrev Φ:=List (List (Int×Int))
abbrev Ψ:=List (Int×Int)
abbrev Ω:=List (Addr×Obj)
abbrev Ξ:=List Value
abbrev Β:=List Str
abbrev Ε:=List Addr
abbrev Ζ:=Option Value
abbrev Η:=Option Addr
abbrev Ι:=Int×Int
abbrev Κ:=Value->Shared->Prop
def Zs:=@decide_eq_true
def Zp:=@decide_eq_false
def ZZ:=@if_neg
def ZY:=@if_pos
def ZU:=@wpAny_bind
def ZT:=@wpAny_pure
def ZH:=@congrArg
def Z3:=@Int.emod_nonneg
def YY:=@Int.emod_lt_of_pos
def YV:=@List.mem_map
def YU:=@List.mem_cons
def YR:=@List.mem_singleton
def Y1:=@List.mem_append
def Y2:=@Nat.lt_of_le_of_lt
def Y3:=@Nat.le_succ
def Xs:=@Int.mul_pos
def XZ:=@Int.le_of_lt
def XY:=@Nat.lt_of_le_of_ne
def XX:=@Bool.false_eq_true
def XW:=@List.mem_replicate
def XV:=@Rat.intCast_mul
def XU:=@Nat.pow_le_pow_right
def XT:=@Int.natAbs_natCast
def XG:=@List.getElem?_replicate
def X1:=@Nat.lt_succ_self
def X2:=@Nat.le_add_right
def X9:=@Nat.lt_irrefl
def Wp:=@Int.natCast_nonneg
def WZ:=@Nat.lt_add_right
end
set_option Elab.async false
set_option linter.all false
set_option maxRecDepth 100000
set_option maxHeartbeats 4000000
namespace L2.Once
open PySem PySem.W
def z:Pos:=⟨0,0,0,0⟩
noncomputable def tE:Obj:=⟨.type "tuple",none,.seq ⟨[]⟩ 0,⟨[]⟩⟩
noncomputable def fE:Obj:=⟨.none,none,.fields ⟨[]⟩,⟨[]⟩⟩
noncomputable def tN(t:Nat)(l:Β):Obj:=⟨.type "tuple",none,.seq ⟨(l.zipIdx t).map λx=>.str x.1 x.2⟩ 0,⟨[]⟩⟩
noncomputable def cO(n q:Str)(t:Nat)(l a f:Int)(r u:Nat):Obj:=⟨.type "code",none,.fields ⟨[.str n t,.str q (t+1),.str "/claim/cut.py" (t+2),.int l 0,.int a 0,.int 0 0,.int 0 0,.int f 0,.ref r,.bool true,.int 181 0,.ref (r+1),.none,.ref (r+2),.ref (r+3),.ref (r+4),.int u 0,.int l 0,.str "/claim/cut.py" (u+1)]⟩,⟨[]⟩⟩
def o11:Obj:={ cls:=.type "tuple",data:=.seq #[] }
def o12:Obj:={ cls:=.none,data:=.fields #[] }
def o13:Obj:={ cls:=.type "code",data:=.fields #[.str "<module>" 182,.str "<module>" 183,.str "/claim/cut.py" 184,.int 1 0,.int 0 0,.int 0 0,.int 0 0,.int 0 0,.ref 11,.bool false,.int 181 0,.ref 12,.none,.none,.none,.none,.int 185 0,.int 1 0,.str "/claim/cut.py" 186] }
def o14:Obj:={ cls:=.type "frame",slots:=#[some (.ref 13),some (.ref 3),some (.ref 3),none,some (.str "__main__" 164),none,some (.ref 0)] }
noncomputable def cP(n q:Str)(t:Nat)(l a f:Int)(r u:Nat):Obj:=⟨.type "code",none,.fields ⟨[.str n t,.str q (t+1),.str "/claim/cut.py" (t+2),.int l 0,.int a 0,.int 0 0,.int 0 0,.int f 0,.ref r,.bool true,.int 181 0,.ref (r+1),.none,.none,.none,.ref (r+2),.int u 0,.int l 0,.str "/claim/cut.py" (u+1)]⟩,⟨[]⟩⟩
noncomputable def dE(P:Params)(x:Str)(t:Nat)(v:Value):DictEntry:=⟨PyData.keyHash P x,.str x t,v⟩
abbrev lf(o:Obj):BT:=.node o .nil .nil
noncomputable def tr(P:Params):BT:=.node (boot_o_0 P)
 (.node (boot_o_1 P) (.node (boot_o_3 P) (lf (boot_o_7 P)) (lf o11)) (.node (boot_o_5 P) (lf (boot_o_9 P)) (lf o13)))
 (.node (boot_o_2 P) (.node (boot_o_4 P) (lf (boot_o_8 P)) (lf o12)) (.node (boot_o_6 P) (lf (boot_o_10 P)) (lf o14)))
noncomputable def S0(w:World)(os:OsState):Shared:=⟨boot_heap w.params,Array.mk [],boot_drawn,boot_toks,os⟩
noncomputable def Sa(w:World)(os:OsState):Shared:=⟨⟨Array.mk [boot_o_0 w.params,boot_o_1 w.params,boot_o_2 w.params,boot_o_3 w.params,boot_o_4 w.params,boot_o_5 w.params,boot_o_6 w.params,boot_o_7 w.params,boot_o_8 w.params,boot_o_9 w.params,boot_o_10 w.params,o11,o12,o13,o14],{}⟩,Array.mk [],{},187,os⟩
noncomputable def Sb(w:World)(os:OsState):SharedT:=⟨tr w.params,15,{},⟨[]⟩,{},187,os⟩
def env(p:Program):Env:={ scope:=p.main.scope,locals:=mainNs,globals:=mainNs,cells:=[],code:=.ref 13,frame:=some 14 }
def cE(p:Program):Code:=.body (behindTheImports p) (env p)
abbrev ann:Ζ:=some (.ref 6)
abbrev B:List Frame:=[topFrame z]
theorem size(w:World):((boot_heap w.params).isNs mainGlobals&&(Array.mk [] : Array GenState).size==0,(boot_heap w.params).objs.size,(boot_heap w.params).nsMap mainGlobals "__annotations__")=(true,11,ann):=by
 rw[Fast.te8920871248978507458];kernel_rfl
def qp(p:Program)(w:World)(M:Nat)(S:SharedT)(l:List Stmt)(q:Pos)(G:Shared->Prop):Prop:=∃s,topRun treeTable p w 11 ann M S.abs (restOf l (env p) (cE p) q B)=some s/\G s
theorem qp.cut{p:Program}{w:World}{n M:Nat}{S S':SharedT}{l1 l2:List Stmt}{q q':Pos}{G:Shared->Prop}(h:segRunT treeTable p w 11 ann 1 n S (piecesOf l1 (env p) (cE p) q B)=some (.next,S',cE p,q'))(k:qp p w M S' l2 q' G):qp p w (n+M) S (l1++l2) q G :=
 let⟨s,a,b⟩:=k
 ⟨s,piece_app (segRun_of h) a,b⟩
theorem qp.cutAt{p:Program}{w:World}{n m M:Nat}{S S':SharedT}{l:List Stmt}{q q':Pos}{G:Shared->Prop}(h:segRunT treeTable p w 11 ann 1 n S (piecesOf (l.take m) (env p) (cE p) q B)=some (.next,S',cE p,q'))(k:qp p w M S' (l.drop m) q' G):qp p w (n+M) S l q G:=by
 have:=qp.cut h k;rwa[List.take_append_drop]at this
def Good{α:Type}(p q:Program)(loose:Β)(Xt:Shared->Bool)(Yf:Shared->α)(Ya:World->α)(g0:Bool)(w:World)(s:Shared):Prop :=
 (staticsOk (importedModules p.main.body) (boot_heap w.params) s.heap&&namesBound p s.heap&&gensDone s&&laidKept (boot_heap w.params) s.heap,openSeen q loose (importedModules p.main.body) Xt g0 s,Yf s)=(true,openGood q loose,Ya w)
theorem qp.last{p q:Program}{loose:Β}{Xt:Shared->Bool}{α:Type}{Yf:Shared->α}{Ya:World->α}{g0:Bool}{w:World}{n k:Nat}{S:SharedT}{l:List Stmt}{q0 e:Pos}
 (big:(segRunT treeTable p w 11 ann 1 n S (piecesOf l (env p) (cE p) q0 B)).map (λr =>
    (r.1,r.2.2.1,r.2.2.2,(topRun treeTable p w 11 ann k r.2.1.abs ⟨doneF .next,cE p,e,B⟩).map λs =>
     (staticsOk (importedModules p.main.body) (boot_heap w.params) s.heap&&namesBound p s.heap&&gensDone s&&laidKept (boot_heap w.params) s.heap,openSeen q loose (importedModules p.main.body) Xt g0 s,Yf s))) =
   some (.next,cE p,e,some (true,openGood q loose,Ya w))):qp p w (n+k) S l q0 (Good p q loose Xt Yf Ya g0 w):=by
 obtain⟨⟨f,sT,c,ps⟩,r1,r2⟩:=Option.map_eq_some_iff.mp big;obtain⟨rfl,rfl,rfl,r3⟩ : f=.next/\c=cE p/\ps=e/\_:=by simpa only[Prod.mk.injEq]using r2
 obtain⟨s,t1,t2⟩:=Option.map_eq_some_iff.mp r3;have q1:=piece_app (rest:=[]) (segRun_of r1) (piece_nil t1);rw[List.append_nil]at q1;exact⟨s,q1,t2⟩
theorem Xm{p q:Program}{loose:Β}{Xt:Shared->Bool}{α:Type}{Yf:Shared->α}{Ya:World->α}{N:Nat}{g0:Bool}{a b M:Nat}
 (open_:∀w:World,(fencedOpening treeTable p w N).map (λs=>(s.heap,s.gens,s.drawn,s.toks))=some (boot_heap w.params,Array.mk [],boot_drawn,boot_toks))
 (pre:∀w:World,(λos=>topGo treeTable p w 11 ann a (S0 w os) (topStub p))=λos=>some (Sa w os,⟨denote treeTable (cE p),cE p,z,B⟩))
 (block:∀w:World,(λos=>segRun treeTable p w 11 ann 1 b (Sa w os) (blockOf (behindTheImports p) (env p) (cE p) z B))=λos=>some (.next,(Sb w os).abs,cE p,z))
 (ends:∀(w:World)(os:OsState),qp p w M (Sb w os) (behindTheImports p) z (Good p q loose Xt Yf Ya g0 w))
 (le:Nat.ble (a+(b+M)) N=true):LeftO p q loose Xt Yf Ya N g0:=λw=>by
 obtain⟨⟨h,gs,d,ks,os⟩,e1,e2⟩:=Option.map_eq_some_iff.mp (open_ w);obtain⟨rfl,rfl,rfl,rfl⟩ : h=boot_heap w.params/\gs=Array.mk []/\d=boot_drawn/\ks=boot_toks:=by simpa using e2
 obtain⟨z1,z2,z3⟩ : _/\_/\_:=by simpa only[Prod.mk.injEq]using size w
 obtain⟨s,q1,t2⟩:=ends w os;obtain⟨l1,l2,l3⟩ : _/\_/\_:=by simpa only[Good,Prod.mk.injEq]using t2
 have q2:=go_top (congrFun (pre w) os) (piece_block (congrFun (block w) os) q1);have q3:=topRun_mono (N-(a+(b+M))) _ _ _ _ q2;rw[show a+(b+M)+(N-(a+(b+M)))=N by have:=Nat.le_of_ble_eq_true le;omega]at q3;have t:topFrom treeTable p w N ⟨boot_heap w.params,Array.mk [],boot_drawn,boot_toks,os⟩=some s:=by
  unfold topFrom;dsimp only;rw[z1,z2,z3,show topRun treeTable p w 11 ann N ⟨boot_heap w.params,Array.mk [],boot_drawn,boot_toks,os⟩ (topStub p)=some s from q3];show(match staticsOk (importedModules p.main.body) (boot_heap w.params) s.heap&&namesBound p s.heap&&gensDone s&&laidKept (boot_heap w.params) s.heap with|true=>_|false=>_)=_;rw[l1]
 unfold openEnds;rw[e1];show(topFrom treeTable p w N _).map _=_;rw[t];exact ZH some (Prod.ext l2 l3)
end L2.Once
namespace L2
open PySem
def iI(s:Stmt):Arguments:=match s with
 |.FunctionDef _ a _ _ _ _ _ _ _ _=>a
 |_=>{ posonlyargs:=[],args:=[],vararg:=none,kwonlyargs:=[],kw_defaults:=[],kwarg:=none,defaults:=[] }
def fQ(s:Stmt):List Stmt:=match s with
 |.FunctionDef _ _ b _ _ _ _ _ _ _=>b
 |_=>[]
def bN(s:Stmt):Scope:=match s with
 |.FunctionDef _ _ _ _ _ _ sc _ _ _=>sc
 |_=>{ kind:=.function,names:=[],isGenerator:=false,isCoroutine:=false }
end L2
namespace K54
open PySem L2
def top(i:Nat):Stmt:=PySem.Challenge.pw_chancehall_k54_bounds.main.body.getD i (.Pass ⟨0,0,0,0⟩)
def gJ(i j:Nat):Stmt:=match top i with|.ClassDef _ _ _ b _ _ _ _ _ _ _=>b.getD j (.Pass ⟨0,0,0,0⟩)|_=>.Pass ⟨0,0,0,0⟩
end K54
namespace H54
open PySem PySem.W L2 L2.Once K54
noncomputable section
noncomputable abbrev p:Program:=PySem.Challenge.pw_chancehall_k54_bounds
noncomputable section
def dR(P:Params)(x:Str)(t m:Nat):DictEntry:=dE P x t (.ref m)
noncomputable def wD(l:List DictEntry)(n:Nat):Obj:=⟨.type "dict",none,.dict ⟨l⟩ n,⟨[]⟩⟩
noncomputable def i3(a b:Nat)(c:Nat)(l:Ξ):Ξ:=.int a 0::.int b 0::.ref c::l
noncomputable def nd(o:Obj)(l r:BT):BT:=.node o l r
noncomputable def n1(o x:Obj):BT:=.node o (lf x) .nil
noncomputable def wA:Obj:=⟨.type "builtin_function_or_method",none,.fields ⟨[.builtin "type.__prepare__",.type "type"]⟩,⟨[]⟩⟩
noncomputable def wB(n:Nat):Obj:=⟨.type "builtin_function_or_method",none,.fields ⟨[.builtin "object.__init_subclass__",.ref n]⟩,⟨[]⟩⟩
noncomputable def wC(n:Str)(t l r u:Nat):Obj:=⟨.type "code",none,.fields ⟨[.str n t,.str n (t+1),.str "/claim/cut.py" (t+2),.int l 0,.int 0 0,.int 0 0,.int 0 0,.int 0 0,.ref r,.bool false,.int 181 0,.ref (r+1),.none,.none,.none,.none,.int u 0,.int l 0,.str "/claim/cut.py" (u+1)]⟩,⟨[]⟩⟩
noncomputable def wF(c d:Nat)(n:Str)(t:Nat):Obj:=⟨.type "frame",none,.plain,⟨[some (.ref c),some (.ref 3),some (.ref d),none,some (.str n t),none,some (.ref 0)]⟩⟩
noncomputable def wG(t n:Nat):Obj:=⟨.type "getset_descriptor",none,.fields ⟨[.str "__weakref__" t,.ref n,.builtin "ExceptionGroup.__weakref__",.none]⟩,⟨[]⟩⟩
noncomputable def wK(n:Str)(b m:Ξ)(d:Nat)(s:Ξ)(o:Ζ)(t u:Nat)(x:String):Obj:=⟨.type "type",none,.cls ⟨n,b,m,d,n,true,[],s,false,none,false⟩,⟨[o,none,some (.str n t),some (.str n u),some (.builtin x),some (.bool true)]⟩⟩
noncomputable def wS(n:Nat):Obj:=⟨.type "super",none,.fields ⟨[.ref n,.ref n,.ref n]⟩,⟨[]⟩⟩
noncomputable def wT(n:Nat):Obj:=⟨.type "tuple",none,.seq ⟨[.ref n]⟩ 0,⟨[]⟩⟩
noncomputable def fO(n q:Str)(s:Stmt)(m:Value)(c:Nat):Obj:=⟨.type "function",none,.func (fnOf n q (iI s) (fQ s) (bN s) .none .none .none m none (.ref c) .none),⟨[]⟩⟩
noncomputable def fT(n q:Str)(s:Stmt):Obj:=⟨.none,none,.func { fnOf n q (iI s) (fQ s) (bN s) .none .none .none .none none .none .none with globals:=0,builtins:=0 },⟨[]⟩⟩
def aky(P:Params):Obj:=wD (dE P "__name__" 165 (.str "law_chancehall_k54_bounds" 966)::dE P "__doc__" 166 .none::dE P "__package__" 167 .none::dE P "__loader__" 168 (.builtin "__main__.__loader__#opaque")::dE P "__spec__" 169 .none::dR P "__annotations__" 170 6::dR P "__builtins__" 171 4::dE P "__file__" 173 (.str "/claim/cut.py" 172)::dE P "__cached__" 174 .none::dR P "_wall" 193 21::dR P "HallError" 213 31::dR P "NoNumber" 229 44::dR P "NoName" 245 56::dR P "NoChance" 261 68::dR P "NoShare" 277 80::dR P "NoText" 293 92::dR P "NoRow" 318 111::dR P "NoRoom" 343 130::dR P "NoDoor" 368 149::dR P "NoPlan" 393 168::dR P "is_whole" 402 177::dR P "divisor" 413 184::dR P "NOUGHT" 418 185::dR P "ONE" 421 186::dR P "ratio" 430 193::dR P "is_ratio" 439 200::dR P "plus" 447 207::dR P "minus" 455 214::dR P "times" 463 221::dR P "over" 471 228::dR P "under" 479 235::dR P "level" 487 240::dR P "total" 495 247::dR P "greatest" 504 254::dR P "least" 513 261::dR P "first_plan" 521 266::dR P "fits" 529 273::dR P "check_plan" 539 280::dR P "behind_door" 545 285::dR P "raised_look" 555 292::dR P "better_door" 566 299::dR P "mended" 572 304::dE P "MOST" 576 (.int 40 575)::dR P "check_many" 583 311::dR P "lowered" 591 318::dR P "best_round" 597 323::dR P "rounds_behind" 607 330::dR P "best_rounds" 616 337::dR P "check_behind" 625 344::dR P "gains" 631 349::dR P "to_come" 639 356::dR P "bounds_of" 645 361::dR P "round_plan" 653 368::dE P "LONGEST_WORD" 657 (.int 8 656)::dR P "is_word" 663 373::dR P "check_head" 673 380::dR P "check_room_name" 680 387::dR P "check_chance" 687 394::dR P "check_pairs" 693 399::dR P "joined_ways" 699 404::dR P "Door" 746 435::dR P "Sure" 773 456::dR P "Mixed" 800 475::dR P "Toss" 828 494::dR P "Even" 850 511::dR P "check_share" 859 520::dR P "numbers_of" 869 527::dR P "numbered_ways" 880 534::dR P "offers_of" 891 541::dR P "Hall" 965 596::dR P "_law_cell" 975 607::dR P "_law_stream" 987 614::dR P "_law_gcd" 997 621::dR P "_law_ratio" 1006 628::dR P "_law_is_ratio" 1014 635::dR P "_law_are_ratios" 1020 640::dR P "_law_same" 1028 647::dR P "_law_names" 1034 652::dR P "_law_share" 1044 659::dR P "_law_pay" 1054 666::dR P "_law_door" 1060 671::dR P "_law_doors" 1066 676::dR P "_law_built" 1072 681::dR P "_law_hall" 1078 686::dR P "_law_chosen" 1089 693::dR P "_law_look" 1103 700::dR P "_law_below" 1111 707::dR P "_law_sizes" 1119 714::dR P "_law_are_rounds" 1125 719::dR P "_law_taken" 1131 724::dR P "_law_steps" 1137 729::dR P "_law_bound" 1147 736::dR P "_law_right" 1162 743::dR P "_law_plan_right" 1168 748::[]) 94
def ags:Obj:=⟨.none,none,.fields ⟨i3 1 0 20 <|i3 5 0 27 <|i3 7 0 40 <|i3 9 0 52 <|i3 11 0 64 <|i3 13 0 76 <|i3 15 0 88 <|i3 17 0 100 <|i3 22 0 119 <|i3 27 0 138 <|i3 32 0 157 <|i3 38 0 176 <|i3 40 0 183 <|i3 51 0 192 <|i3 60 0 199 <|i3 68 0 206 <|i3 70 0 213 <|i3 72 0 220 <|i3 74 0 227 <|i3 76 0 234 <|i3 79 0 239 <|i3 84 0 246 <|i3 87 0 253 <|i3 93 0 260 <|i3 100 0 265 <|i3 102 0 272 <|i3 106 0 279 <|i3 113 0 284 <|i3 116 0 291 <|i3 120 0 298 <|i3 125 0 303 <|i3 135 0 310 <|i3 138 0 317 <|i3 140 0 322 <|i3 147 0 329 <|i3 152 0 336 <|i3 156 0 343 <|i3 159 0 348 <|i3 161 0 355 <|i3 163 0 360 <|i3 173 0 367 <|i3 178 0 372 <|i3 183 0 379 <|i3 188 0 386 <|i3 191 0 393 <|i3 194 0 398 <|i3 200 0 403 <|i3 205 0 410 <|i3 218 0 445 <|i3 224 0 464 <|i3 230 0 483 <|i3 236 0 502 <|i3 241 0 519 <|i3 244 0 526 <|i3 252 0 533 <|i3 259 0 540 <|i3 268 0 547 <|i3 298 0 606 <|i3 300 0 613 <|i3 311 0 620 <|i3 316 0 627 <|i3 319 0 634 <|i3 326 0 639 <|i3 330 0 646 <|i3 332 0 651 <|i3 341 0 658 <|i3 345 0 665 <|i3 353 0 670 <|i3 370 0 675 <|i3 380 0 680 <|i3 390 0 685 <|i3 397 0 692 <|i3 406 0 699 <|i3 416 0 706 <|i3 418 0 713 <|i3 429 0 718 <|i3 433 0 723 <|i3 441 0 728 <|i3 443 0 735 <|i3 446 0 742 <|i3 465 0 747 <|[]⟩,⟨[]⟩⟩
def q21:Obj:=fO "_wall" "_wall" (top 0) (.str "__main__" 164) 20
noncomputable def q22:Obj:=⟨.type "tuple",none,.seq ⟨.type "ValueError"::[]⟩ 0,⟨[]⟩⟩
def q23:Obj:=wA
def q24(P:Params):Obj:=wD (dE P "__module__" 203 (.str "chancehall.errors" 194)::dE P "__qualname__" 205 (.str "HallError" 204)::dE P "__firstlineno__" 207 (.int 5 206)::dR P "__static_attributes__" 208 29::[]) 4
def q27:Obj:=wC "HallError" 198 5 25 201
def q28:Obj:=wF 27 24 "chancehall.errors" 194
def q30(P:Params):Obj:=wD (dE P "__module__" 203 (.str "chancehall.errors" 194)::dE P "__firstlineno__" 207 (.int 5 206)::dR P "__static_attributes__" 208 29::dR P "__weakref__" 210 32::dE P "__doc__" 211 .none::[]) 3
def q31:Obj:=wK "HallError" [.type "ValueError"] [.ref 31,.type "ValueError",.type "Exception",.type "BaseException",.type "object"] 30 [.ref 44,.ref 56,.ref 68,.ref 80,.ref 92,.ref 111,.ref 130,.ref 149,.ref 168] (some (.ref 22)) 196 204 "ValueError.__new__"
def q32:Obj:=wG 209 31
def q33:Obj:=wS 31
def q34:Obj:=wB 31
def q35:Obj:=wT 31
def q36:Obj:=wA
def q37(P:Params):Obj:=wD (dE P "__module__" 221 (.str "chancehall.errors" 194)::dE P "__qualname__" 223 (.str "NoNumber" 222)::dE P "__firstlineno__" 225 (.int 7 224)::dR P "__static_attributes__" 226 42::[]) 4
def q40:Obj:=wC "NoNumber" 216 7 38 219
def q41:Obj:=wF 40 37 "chancehall.errors" 194
def q43(P:Params):Obj:=wD (dE P "__module__" 221 (.str "chancehall.errors" 194)::dE P "__firstlineno__" 225 (.int 7 224)::dR P "__static_attributes__" 226 42::dE P "__doc__" 227 .none::[]) 2
def q44:Obj:=wK "NoNumber" [.ref 31] [.ref 44,.ref 31,.type "ValueError",.type "Exception",.type "BaseException",.type "object"] 43 [] (some (.ref 35)) 214 222 "ValueError.__new__"
def q45:Obj:=wS 44
def q46:Obj:=wB 44
def q47:Obj:=wT 31
def q48:Obj:=wA
def q49(P:Params):Obj:=wD (dE P "__module__" 237 (.str "chancehall.errors" 194)::dE P "__qualname__" 239 (.str "NoName" 238)::dE P "__firstlineno__" 241 (.int 9 240)::dR P "__static_attributes__" 242 54::[]) 4
def q52:Obj:=wC "NoName" 232 9 50 235
def q53:Obj:=wF 52 49 "chancehall.errors" 194
def q55(P:Params):Obj:=wD (dE P "__module__" 237 (.str "chancehall.errors" 194)::dE P "__firstlineno__" 241 (.int 9 240)::dR P "__static_attributes__" 242 54::dE P "__doc__" 243 .none::[]) 2
def q56:Obj:=wK "NoName" [.ref 31] [.ref 56,.ref 31,.type "ValueError",.type "Exception",.type "BaseException",.type "object"] 55 [] (some (.ref 47)) 230 238 "ValueError.__new__"
def q57:Obj:=wS 56
def q58:Obj:=wB 56
def q59:Obj:=wT 31
def q60:Obj:=wA
def q61(P:Params):Obj:=wD (dE P "__module__" 253 (.str "chancehall.errors" 194)::dE P "__qualname__" 255 (.str "NoChance" 254)::dE P "__firstlineno__" 257 (.int 11 256)::dR P "__static_attributes__" 258 66::[]) 4
def q64:Obj:=wC "NoChance" 248 11 62 251
def q65:Obj:=wF 64 61 "chancehall.errors" 194
def q67(P:Params):Obj:=wD (dE P "__module__" 253 (.str "chancehall.errors" 194)::dE P "__firstlineno__" 257 (.int 11 256)::dR P "__static_attributes__" 258 66::dE P "__doc__" 259 .none::[]) 2
def q68:Obj:=wK "NoChance" [.ref 31] [.ref 68,.ref 31,.type "ValueError",.type "Exception",.type "BaseException",.type "object"] 67 [] (some (.ref 59)) 246 254 "ValueError.__new__"
def q69:Obj:=wS 68
def q70:Obj:=wB 68
def q71:Obj:=wT 31
def q72:Obj:=wA
def q73(P:Params):Obj:=wD (dE P "__module__" 269 (.str "chancehall.errors" 194)::dE P "__qualname__" 271 (.str "NoShare" 270)::dE P "__firstlineno__" 273 (.int 13 272)::dR P "__static_attributes__" 274 78::[]) 4
def q76:Obj:=wC "NoShare" 264 13 74 267
def q77:Obj:=wF 76 73 "chancehall.errors" 194
def q79(P:Params):Obj:=wD (dE P "__module__" 269 (.str "chancehall.errors" 194)::dE P "__firstlineno__" 273 (.int 13 272)::dR P "__static_attributes__" 274 78::dE P "__doc__" 275 .none::[]) 2
def q80:Obj:=wK "NoShare" [.ref 31] [.ref 80,.ref 31,.type "ValueError",.type "Exception",.type "BaseException",.type "object"] 79 [] (some (.ref 71)) 262 270 "ValueError.__new__"
def q81:Obj:=wS 80
def q82:Obj:=wB 80
def q83:Obj:=wT 31
def q84:Obj:=wA
def q85(P:Params):Obj:=wD (dE P "__module__" 285 (.str "chancehall.errors" 194)::dE P "__qualname__" 287 (.str "NoText" 286)::dE P "__firstlineno__" 289 (.int 15 288)::dR P "__static_attributes__" 290 90::[]) 4
def q88:Obj:=wC "NoText" 280 15 86 283
def q89:Obj:=wF 88 85 "chancehall.errors" 194
def q91(P:Params):Obj:=wD (dE P "__module__" 285 (.str "chancehall.errors" 194)::dE P "__firstlineno__" 289 (.int 15 288)::dR P "__static_attributes__" 290 90::dE P "__doc__" 291 .none::[]) 2
def q92:Obj:=wK "NoText" [.ref 31] [.ref 92,.ref 31,.type "ValueError",.type "Exception",.type "BaseException",.type "object"] 91 [] (some (.ref 83)) 278 286 "ValueError.__new__"
def q93:Obj:=wS 92
def q94:Obj:=wB 92
def q95:Obj:=wT 31
def q96:Obj:=wA
def q97(P:Params):Obj:=wD (dE P "__module__" 301 (.str "chancehall.errors" 194)::dE P "__qualname__" 303 (.str "NoRow" 302)::dE P "__firstlineno__" 305 (.int 17 304)::dR P "__init__" 313 108::dR P "__static_attributes__" 315 109::[]) 5
def q99:Obj:=⟨.none,none,.fields ⟨i3 19 4 107 <|[]⟩,⟨[]⟩⟩
def ajt:Obj:=wC "NoRow" 296 17 98 299
def akj:Obj:=wF 100 97 "chancehall.errors" 194
def aiO:Obj:=cO "__init__" "NoRow.__init__" 306 19 2 3 102 311
def ais:Obj:=fO "__init__" "NoRow.__init__" (gJ 8 0) (.str "chancehall.errors" 194) 107
def aiY(P:Params):Obj:=wD (dE P "__module__" 301 (.str "chancehall.errors" 194)::dE P "__firstlineno__" 305 (.int 17 304)::dR P "__init__" 313 108::dR P "__static_attributes__" 315 109::dE P "__doc__" 316 .none::[]) 2
def aiB:Obj:=wK "NoRow" [.ref 31] [.ref 111,.ref 31,.type "ValueError",.type "Exception",.type "BaseException",.type "object"] 110 [] (some (.ref 95)) 294 302 "ValueError.__new__"
def akE:Obj:=wS 111
def aj2:Obj:=wB 111
def ag1:Obj:=wT 31
def akT:Obj:=wA
def ajB(P:Params):Obj:=wD (dE P "__module__" 326 (.str "chancehall.errors" 194)::dE P "__qualname__" 328 (.str "NoRoom" 327)::dE P "__firstlineno__" 330 (.int 22 329)::dR P "__init__" 338 127::dR P "__static_attributes__" 340 128::[]) 5
def ajs:Obj:=⟨.none,none,.fields ⟨i3 24 4 126 <|[]⟩,⟨[]⟩⟩
def ajR:Obj:=wC "NoRoom" 321 22 117 324
def ajN:Obj:=wF 119 116 "chancehall.errors" 194
def ag2:Obj:=cO "__init__" "NoRoom.__init__" 331 24 2 3 121 336
def aiW:Obj:=fO "__init__" "NoRoom.__init__" (gJ 9 0) (.str "chancehall.errors" 194) 126
def agp(P:Params):Obj:=wD (dE P "__module__" 326 (.str "chancehall.errors" 194)::dE P "__firstlineno__" 330 (.int 22 329)::dR P "__init__" 338 127::dR P "__static_attributes__" 340 128::dE P "__doc__" 341 .none::[]) 2
def afU:Obj:=wK "NoRoom" [.ref 31] [.ref 130,.ref 31,.type "ValueError",.type "Exception",.type "BaseException",.type "object"] 129 [] (some (.ref 114)) 319 327 "ValueError.__new__"
def ajX:Obj:=wS 130
def akh:Obj:=wB 130
def ahm:Obj:=wT 31
def akD:Obj:=wA
def akM(P:Params):Obj:=wD (dE P "__module__" 351 (.str "chancehall.errors" 194)::dE P "__qualname__" 353 (.str "NoDoor" 352)::dE P "__firstlineno__" 355 (.int 27 354)::dR P "__init__" 363 146::dR P "__static_attributes__" 365 147::[]) 5
def ajH:Obj:=⟨.none,none,.fields ⟨i3 29 4 145 <|[]⟩,⟨[]⟩⟩
def akI:Obj:=wC "NoDoor" 346 27 136 349
def akQ:Obj:=wF 138 135 "chancehall.errors" 194
def ag4:Obj:=cO "__init__" "NoDoor.__init__" 356 29 2 3 140 361
def ahz:Obj:=fO "__init__" "NoDoor.__init__" (gJ 10 0) (.str "chancehall.errors" 194) 145
def af8(P:Params):Obj:=wD (dE P "__module__" 351 (.str "chancehall.errors" 194)::dE P "__firstlineno__" 355 (.int 27 354)::dR P "__init__" 363 146::dR P "__static_attributes__" 365 147::dE P "__doc__" 366 .none::[]) 2
def ah0:Obj:=wK "NoDoor" [.ref 31] [.ref 149,.ref 31,.type "ValueError",.type "Exception",.type "BaseException",.type "object"] 148 [] (some (.ref 133)) 344 352 "ValueError.__new__"
def akR:Obj:=wS 149
def aj3:Obj:=wB 149
def ahh:Obj:=wT 31
def ajY:Obj:=wA
def ajp(P:Params):Obj:=wD (dE P "__module__" 376 (.str "chancehall.errors" 194)::dE P "__qualname__" 378 (.str "NoPlan" 377)::dE P "__firstlineno__" 380 (.int 32 379)::dR P "__init__" 388 165::dR P "__static_attributes__" 390 166::[]) 5
def aj6:Obj:=⟨.none,none,.fields ⟨i3 34 4 164 <|[]⟩,⟨[]⟩⟩
def ajU:Obj:=wC "NoPlan" 371 32 155 374
def akN:Obj:=wF 157 154 "chancehall.errors" 194
def aiF:Obj:=cO "__init__" "NoPlan.__init__" 381 34 2 3 159 386
def agh:Obj:=fO "__init__" "NoPlan.__init__" (gJ 11 0) (.str "chancehall.errors" 194) 164
def ajc(P:Params):Obj:=wD (dE P "__module__" 376 (.str "chancehall.errors" 194)::dE P "__firstlineno__" 380 (.int 32 379)::dR P "__init__" 388 165::dR P "__static_attributes__" 390 166::dE P "__doc__" 391 .none::[]) 2
def agf:Obj:=wK "NoPlan" [.ref 31] [.ref 168,.ref 31,.type "ValueError",.type "Exception",.type "BaseException",.type "object"] 167 [] (some (.ref 152)) 369 377 "ValueError.__new__"
def akH:Obj:=wS 168
def akB:Obj:=wB 168
def aiS:Obj:=fO "is_whole" "is_whole" (top 13) (.str "chancehall.wholes" 394) 176
def aiA:Obj:=tN 406 ["one","other","left","right","rest"]
def ag9:Obj:=fO "divisor" "divisor" (top 14) (.str "chancehall.wholes" 394) 183
noncomputable def afV:Obj:=⟨.type "tuple",none,.seq ⟨.int 0 416::.int 1 417::[]⟩ 0,⟨[]⟩⟩
noncomputable def ag6:Obj:=⟨.type "tuple",none,.seq ⟨.int 1 419::.int 1 420::[]⟩ 0,⟨[]⟩⟩
def ahD:Obj:=fO "ratio" "ratio" (top 18) (.str "chancehall.ratios" 414) 192
def ahQ:Obj:=fO "is_ratio" "is_ratio" (top 19) (.str "chancehall.ratios" 414) 199
def afQ:Obj:=fO "plus" "plus" (top 20) (.str "chancehall.ratios" 414) 206
def ahH:Obj:=fO "minus" "minus" (top 21) (.str "chancehall.ratios" 414) 213
def ag0:Obj:=fO "times" "times" (top 22) (.str "chancehall.ratios" 414) 220
def aiz:Obj:=fO "over" "over" (top 23) (.str "chancehall.ratios" 414) 227
def ahr:Obj:=fO "under" "under" (top 24) (.str "chancehall.ratios" 414) 234
def afR:Obj:=fO "level" "level" (top 26) (.str "chancehall.levels" 480) 239
def aip:Obj:=fO "total" "total" (top 27) (.str "chancehall.levels" 480) 246
def aiV:Obj:=fO "greatest" "greatest" (top 28) (.str "chancehall.levels" 480) 253
def aiD:Obj:=fO "least" "least" (top 29) (.str "chancehall.levels" 480) 260
def ah7:Obj:=cP "first_plan" "first_plan" 516 100 1 3 262 519
def agP:Obj:=fO "first_plan" "first_plan" (top 31) (.str "chancehall.plans" 514) 265
def ah9:Obj:=fO "fits" "fits" (top 32) (.str "chancehall.plans" 514) 272
def ahB:Obj:=cO "check_plan" "check_plan" 530 106 2 3 274 537
def agZ:Obj:=fO "check_plan" "check_plan" (top 33) (.str "chancehall.plans" 514) 279
def aij:Obj:=cP "behind_door" "behind_door" 540 113 2 3 281 543
def agM:Obj:=fO "behind_door" "behind_door" (top 34) (.str "chancehall.plans" 514) 284
def ajl:Obj:=tN 549 ["hall","offer","leveled","behind"]
def ai5:Obj:=cO "raised_look" "raised_look" 546 116 3 3 286 553
def agU:Obj:=fO "raised_look" "raised_look" (top 35) (.str "chancehall.plans" 514) 291
def aht:Obj:=cO "better_door" "better_door" 558 120 2 3 293 564
def aik:Obj:=fO "better_door" "better_door" (top 37) (.str "chancehall.mending" 556) 298
def ahE:Obj:=fO "mended" "mended" (top 38) (.str "chancehall.mending" 556) 303
def af5:Obj:=cO "check_many" "check_many" 577 135 1 3 305 581
def agd:Obj:=fO "check_many" "check_many" (top 41) (.str "chancehall.rounds" 573) 310
def agj:Obj:=fO "lowered" "lowered" (top 42) (.str "chancehall.rounds" 573) 317
def ag7:Obj:=cP "best_round" "best_round" 592 140 2 3 319 595
def ahx:Obj:=fO "best_round" "best_round" (top 43) (.str "chancehall.rounds" 573) 322
def ahI:Obj:=cO "rounds_behind" "rounds_behind" 598 147 3 3 324 605
def agu:Obj:=fO "rounds_behind" "rounds_behind" (top 44) (.str "chancehall.rounds" 573) 329
def aiH:Obj:=cO "best_rounds" "best_rounds" 608 152 2 3 331 614
def aio:Obj:=fO "best_rounds" "best_rounds" (top 45) (.str "chancehall.rounds" 573) 336
def aiZ:Obj:=cO "check_behind" "check_behind" 619 156 1 3 338 623
def ajo:Obj:=fO "check_behind" "check_behind" (top 47) (.str "chancehall.bounds" 617) 343
def ahW:Obj:=fO "gains" "gains" (top 48) (.str "chancehall.bounds" 617) 348
def afS:Obj:=fO "to_come" "to_come" (top 49) (.str "chancehall.bounds" 617) 355
def ahq:Obj:=cP "bounds_of" "bounds_of" 640 163 2 3 357 643
def agx:Obj:=fO "bounds_of" "bounds_of" (top 50) (.str "chancehall.bounds" 617) 360
def afY:Obj:=cO "round_plan" "round_plan" 646 173 2 3 362 651
def agl:Obj:=fO "round_plan" "round_plan" (top 51) (.str "chancehall.bounds" 617) 367
def afN:Obj:=fO "is_word" "is_word" (top 54) (.str "chancehall.words" 654) 372
def ahY:Obj:=cO "check_head" "check_head" 666 183 2 3 374 671
def ahg:Obj:=fO "check_head" "check_head" (top 56) (.str "chancehall.doors" 664) 379
def aj8:Obj:=fT "check_room_name" "check_room_name" (top 57)
def ahL:Obj:=cO "check_room_name" "check_room_name" 674 188 1 3 381 678
def aiU:Obj:=fO "check_room_name" "check_room_name" (top 57) (.str "chancehall.doors" 664) 386
def ah1:Obj:=cO "check_chance" "check_chance" 681 191 1 3 388 685
def ahM:Obj:=fO "check_chance" "check_chance" (top 58) (.str "chancehall.doors" 664) 393
def ahX:Obj:=cP "check_pairs" "check_pairs" 688 194 1 3 395 691
def af3:Obj:=fO "check_pairs" "check_pairs" (top 59) (.str "chancehall.doors" 664) 398
def aix:Obj:=cP "joined_ways" "joined_ways" 694 200 1 3 400 697
def agz:Obj:=fO "joined_ways" "joined_ways" (top 60) (.str "chancehall.doors" 664) 403
def ajP:Obj:=wA
def aj5(P:Params):Obj:=wD (dE P "__module__" 707 (.str "chancehall.doors" 664)::dE P "__qualname__" 709 (.str "Door" 708)::dE P "__firstlineno__" 711 (.int 205 710)::dR P "__init__" 720 418::dR P "ways" 727 425::dR P "chance_to" 735 432::dR P "__static_attributes__" 739 433::[]) 7
def ake:Obj:=⟨.none,none,.fields ⟨i3 207 4 417 <|i3 213 4 424 <|i3 216 4 431 <|[]⟩,⟨[]⟩⟩
def ajv:Obj:=wC "Door" 702 205 408 705
def ajA:Obj:=wF 410 407 "chancehall.doors" 664
def ail:Obj:=cO "__init__" "Door.__init__" 712 207 3 3 412 718
def aiI:Obj:=fO "__init__" "Door.__init__" (gJ 61 0) (.str "chancehall.doors" 664) 417
def aiG:Obj:=fO "ways" "Door.ways" (gJ 61 1) (.str "chancehall.doors" 664) 424
def agB:Obj:=cO "chance_to" "Door.chance_to" 728 216 2 3 426 733
def af9:Obj:=fO "chance_to" "Door.chance_to" (gJ 61 2) (.str "chancehall.doors" 664) 431
def aho(P:Params):Obj:=wD (dE P "__module__" 707 (.str "chancehall.doors" 664)::dE P "__firstlineno__" 711 (.int 205 710)::dR P "__init__" 720 418::dR P "ways" 727 425::dR P "chance_to" 735 432::dR P "__static_attributes__" 739 433::dR P "__dict__" 741 436::dR P "__weakref__" 743 437::dE P "__doc__" 744 .none::[]) 4
def ajn:Obj:=wK "Door" [.type "object"] [.ref 435,.type "object"] 434 [.ref 456,.ref 475] none 700 708 "object.__new__"
noncomputable def aif:Obj:=⟨.type "getset_descriptor",none,.fields ⟨.str "__dict__" 740::.ref 435::.builtin "function.__dict__"::.builtin "function.__dict__#set"::[]⟩,⟨[]⟩⟩
def agt:Obj:=wG 742 435
def ajI:Obj:=wS 435
def akf:Obj:=wB 435
def agI:Obj:=wT 435
def ajK:Obj:=wA
def akL(P:Params):Obj:=wD (dE P "__module__" 754 (.str "chancehall.doors" 664)::dE P "__qualname__" 756 (.str "Sure" 755)::dE P "__firstlineno__" 758 (.int 218 757)::dR P "__init__" 768 453::dR P "__static_attributes__" 770 454::[]) 5
def ajr:Obj:=⟨.none,none,.fields ⟨i3 220 4 452 <|[]⟩,⟨[]⟩⟩
def ajQ:Obj:=wC "Sure" 749 218 443 752
def ajD:Obj:=wF 445 442 "chancehall.doors" 664
def aga:Obj:=cO "__init__" "Sure.__init__" 759 220 4 3 447 766
def ah8:Obj:=fO "__init__" "Sure.__init__" (gJ 62 0) (.str "chancehall.doors" 664) 452
def agv(P:Params):Obj:=wD (dE P "__module__" 754 (.str "chancehall.doors" 664)::dE P "__firstlineno__" 758 (.int 218 757)::dR P "__init__" 768 453::dR P "__static_attributes__" 770 454::dE P "__doc__" 771 .none::[]) 2
def ai9:Obj:=wK "Sure" [.ref 435] [.ref 456,.ref 435,.type "object"] 455 [] (some (.ref 440)) 747 755 "object.__new__"
def akl:Obj:=wS 456
def akv:Obj:=wB 456
def ai6:Obj:=wT 435
def ajG:Obj:=wA
def akO(P:Params):Obj:=wD (dE P "__module__" 781 (.str "chancehall.doors" 664)::dE P "__qualname__" 783 (.str "Mixed" 782)::dE P "__firstlineno__" 785 (.int 224 784)::dR P "__init__" 795 472::dR P "__static_attributes__" 797 473::[]) 5
def akA:Obj:=⟨.none,none,.fields ⟨i3 226 4 471 <|[]⟩,⟨[]⟩⟩
def akd:Obj:=wC "Mixed" 776 224 462 779
def ajw:Obj:=wF 464 461 "chancehall.doors" 664
def ajb:Obj:=cO "__init__" "Mixed.__init__" 786 226 4 3 466 793
def agW:Obj:=fO "__init__" "Mixed.__init__" (gJ 63 0) (.str "chancehall.doors" 664) 471
def ahv(P:Params):Obj:=wD (dE P "__module__" 781 (.str "chancehall.doors" 664)::dE P "__firstlineno__" 785 (.int 224 784)::dR P "__init__" 795 472::dR P "__static_attributes__" 797 473::dE P "__doc__" 798 .none::[]) 2
def agn:Obj:=wK "Mixed" [.ref 435] [.ref 475,.ref 435,.type "object"] 474 [.ref 494,.ref 511] (some (.ref 459)) 774 782 "object.__new__"
def akF:Obj:=wS 475
def ajL:Obj:=wB 475
def afK:Obj:=wT 475
def akr:Obj:=wA
def aks(P:Params):Obj:=wD (dE P "__module__" 808 (.str "chancehall.doors" 664)::dE P "__qualname__" 810 (.str "Toss" 809)::dE P "__firstlineno__" 812 (.int 230 811)::dR P "__init__" 824 491::dR P "__static_attributes__" 825 492::[]) 5
def aj0:Obj:=⟨.none,none,.fields ⟨i3 232 4 490 <|[]⟩,⟨[]⟩⟩
def ajW:Obj:=wC "Toss" 803 230 481 806
def akk:Obj:=wF 483 480 "chancehall.doors" 664
def agq:Obj:=tN 816 ["self","name","pay","chance","room","other"]
def ajd:Obj:=cO "__init__" "Toss.__init__" 813 232 6 3 485 822
def afJ:Obj:=fO "__init__" "Toss.__init__" (gJ 64 0) (.str "chancehall.doors" 664) 490
def ag8(P:Params):Obj:=wD (dE P "__module__" 808 (.str "chancehall.doors" 664)::dE P "__firstlineno__" 812 (.int 230 811)::dR P "__init__" 824 491::dR P "__static_attributes__" 825 492::dE P "__doc__" 826 .none::[]) 2
def afX:Obj:=wK "Toss" [.ref 475] [.ref 494,.ref 475,.ref 435,.type "object"] 493 [] (some (.ref 478)) 801 809 "object.__new__"
def akn:Obj:=wS 494
def ajM:Obj:=wB 494
def aic:Obj:=wT 475
def akx:Obj:=wA
def akm(P:Params):Obj:=wD (dE P "__module__" 836 (.str "chancehall.doors" 664)::dE P "__qualname__" 838 (.str "Even" 837)::dE P "__firstlineno__" 840 (.int 236 839)::dR P "__init__" 846 508::dR P "__static_attributes__" 847 509::[]) 5
def ajC:Obj:=⟨.none,none,.fields ⟨i3 238 4 507 <|[]⟩,⟨[]⟩⟩
def ajO:Obj:=wC "Even" 831 236 500 834
def akS:Obj:=wF 502 499 "chancehall.doors" 664
def ahn:Obj:=cP "__init__" "Even.__init__" 841 238 4 3 504 844
def agC:Obj:=fO "__init__" "Even.__init__" (gJ 65 0) (.str "chancehall.doors" 664) 507
def aiQ(P:Params):Obj:=wD (dE P "__module__" 836 (.str "chancehall.doors" 664)::dE P "__firstlineno__" 840 (.int 236 839)::dR P "__init__" 846 508::dR P "__static_attributes__" 847 509::dE P "__doc__" 848 .none::[]) 2
def agV:Obj:=wK "Even" [.ref 475] [.ref 511,.ref 475,.ref 435,.type "object"] 510 [] (some (.ref 497)) 829 837 "object.__new__"
def ajE:Obj:=wS 511
def aju:Obj:=wB 511
def ajh:Obj:=cO "check_share" "check_share" 853 241 1 3 514 857
def agG:Obj:=fO "check_share" "check_share" (top 67) (.str "chancehall.halls" 851) 519
def ahd:Obj:=cO "numbers_of" "numbers_of" 860 244 1 3 521 867
def ahi:Obj:=fO "numbers_of" "numbers_of" (top 68) (.str "chancehall.halls" 851) 526
def ahJ:Obj:=tN 873 ["door","numbers","numbered","name","chance"]
def ago:Obj:=cO "numbered_ways" "numbered_ways" 870 252 2 3 528 878
def agH:Obj:=fO "numbered_ways" "numbered_ways" (top 69) (.str "chancehall.halls" 851) 533
def aiJ:Obj:=tN 884 ["doors","numbers","taken","told","door"]
def af4:Obj:=cO "offers_of" "offers_of" 881 259 2 3 535 889
def ajm:Obj:=fO "offers_of" "offers_of" (top 70) (.str "chancehall.halls" 851) 540
def aku:Obj:=wA
def akz(P:Params):Obj:=wD (dE P "__module__" 899 (.str "chancehall.halls" 851)::dE P "__qualname__" 901 (.str "Hall" 900)::dE P "__firstlineno__" 903 (.int 268 902)::dR P "__init__" 909 553::dR P "size" 916 560::dR P "names" 923 567::dR P "place" 931 574::dR P "check_room" 939 581::dR P "door_at" 948 588::dR P "offers" 954 593::dR P "__static_attributes__" 958 594::[]) 11
def ajT:Obj:=⟨.none,none,.fields ⟨i3 270 4 552 <|i3 276 4 559 <|i3 279 4 566 <|i3 282 4 573 <|i3 287 4 580 <|i3 291 4 587 <|i3 294 4 592 <|[]⟩,⟨[]⟩⟩
def aki:Obj:=wC "Hall" 894 268 545 897
def ajZ:Obj:=wF 547 544 "chancehall.halls" 851
def ahe:Obj:=cP "__init__" "Hall.__init__" 904 270 3 3 549 907
def aiE:Obj:=fO "__init__" "Hall.__init__" (gJ 71 0) (.str "chancehall.halls" 851) 552
def ahS:Obj:=fO "size" "Hall.size" (gJ 71 1) (.str "chancehall.halls" 851) 559
def ai0:Obj:=fO "names" "Hall.names" (gJ 71 2) (.str "chancehall.halls" 851) 566
def afO:Obj:=fO "place" "Hall.place" (gJ 71 3) (.str "chancehall.halls" 851) 573
def akq:Obj:=fT "check_room" "Hall.check_room" (gJ 71 4)
def ai1:Obj:=cO "check_room" "Hall.check_room" 932 287 2 3 575 937
def ain:Obj:=fO "check_room" "Hall.check_room" (gJ 71 4) (.str "chancehall.halls" 851) 580
def agY:Obj:=cO "door_at" "Hall.door_at" 940 291 3 3 582 946
def aje:Obj:=fO "door_at" "Hall.door_at" (gJ 71 5) (.str "chancehall.halls" 851) 587
def ahf:Obj:=cP "offers" "Hall.offers" 949 294 2 3 589 952
def aiL:Obj:=fO "offers" "Hall.offers" (gJ 71 6) (.str "chancehall.halls" 851) 592
def ahN(P:Params):Obj:=wD (dE P "__module__" 899 (.str "chancehall.halls" 851)::dE P "__firstlineno__" 903 (.int 268 902)::dR P "__init__" 909 553::dR P "size" 916 560::dR P "names" 923 567::dR P "place" 931 574::dR P "check_room" 939 581::dR P "door_at" 948 588::dR P "offers" 954 593::dR P "__static_attributes__" 958 594::dR P "__dict__" 960 597::dR P "__weakref__" 962 598::dE P "__doc__" 963 .none::[]) 4
def afW:Obj:=wK "Hall" [.type "object"] [.ref 596,.type "object"] 595 [] none 892 900 "object.__new__"
noncomputable def ahC:Obj:=⟨.type "getset_descriptor",none,.fields ⟨.str "__dict__" 959::.ref 596::.builtin "function.__dict__"::.builtin "function.__dict__#set"::[]⟩,⟨[]⟩⟩
def aiC:Obj:=wG 961 596
def akC:Obj:=wS 596
def akb:Obj:=wB 596
def aiN:Obj:=cO "_law_cell" "_law_cell" 968 298 2 3 601 973
def agb:Obj:=fO "_law_cell" "_law_cell" (top 73) (.str "law_chancehall_k54_bounds" 966) 606
def ajj:Obj:=tN 979 ["_law_cell_here","_law_many","_law_found","_law_number","_law_digits","_law_k"]
def aiR:Obj:=cO "_law_stream" "_law_stream" 976 300 2 3 608 985
def ahZ:Obj:=fO "_law_stream" "_law_stream" (top 74) (.str "law_chancehall_k54_bounds" 966) 613
def agJ:Obj:=tN 991 ["_law_one","_law_other","_law_low","_law_high"]
def ahG:Obj:=cO "_law_gcd" "_law_gcd" 988 311 2 3 615 995
def agm:Obj:=fO "_law_gcd" "_law_gcd" (top 75) (.str "law_chancehall_k54_bounds" 966) 620
def ahy:Obj:=tN 1001 ["_law_top","_law_bottom","_law_common"]
def agE:Obj:=cO "_law_ratio" "_law_ratio" 998 316 2 3 622 1004
def agS:Obj:=fO "_law_ratio" "_law_ratio" (top 76) (.str "law_chancehall_k54_bounds" 966) 627
def aja:Obj:=cO "_law_is_ratio" "_law_is_ratio" 1007 319 1 3 629 1012
def ai4:Obj:=fO "_law_is_ratio" "_law_is_ratio" (top 77) (.str "law_chancehall_k54_bounds" 966) 634
def aj9:Obj:=fT "_law_are_ratios" "_law_are_ratios" (top 78)
def ahb:Obj:=cP "_law_are_ratios" "_law_are_ratios" 1015 326 2 3 636 1018
def agR:Obj:=fO "_law_are_ratios" "_law_are_ratios" (top 78) (.str "law_chancehall_k54_bounds" 966) 639
def ahl:Obj:=cO "_law_same" "_law_same" 1021 330 2 3 641 1026
def ah2:Obj:=fO "_law_same" "_law_same" (top 79) (.str "law_chancehall_k54_bounds" 966) 646
def ag5:Obj:=cP "_law_names" "_law_names" 1029 332 2 3 648 1032
def af0:Obj:=fO "_law_names" "_law_names" (top 80) (.str "law_chancehall_k54_bounds" 966) 651
def aii:Obj:=tN 1038 ["_law_cell_here","_law_small","_law_xs","_law_bottom"]
def ahu:Obj:=cO "_law_share" "_law_share" 1035 341 2 3 653 1042
def af6:Obj:=fO "_law_share" "_law_share" (top 81) (.str "law_chancehall_k54_bounds" 966) 658
def af7:Obj:=tN 1048 ["_law_cell_here","_law_x","_law_y","_law_small"]
def afZ:Obj:=cO "_law_pay" "_law_pay" 1045 345 4 3 660 1052
def ag3:Obj:=fO "_law_pay" "_law_pay" (top 82) (.str "law_chancehall_k54_bounds" 966) 665
def ajf:Obj:=cP "_law_door" "_law_door" 1055 353 3 3 667 1058
def ah4:Obj:=fO "_law_door" "_law_door" (top 83) (.str "law_chancehall_k54_bounds" 966) 670
def ahj:Obj:=cP "_law_doors" "_law_doors" 1061 370 4 3 672 1064
def ahF:Obj:=fO "_law_doors" "_law_doors" (top 84) (.str "law_chancehall_k54_bounds" 966) 675
def ai7:Obj:=cP "_law_built" "_law_built" 1067 380 3 3 677 1070
def aiw:Obj:=fO "_law_built" "_law_built" (top 85) (.str "law_chancehall_k54_bounds" 966) 680
def aiX:Obj:=cP "_law_hall" "_law_hall" 1073 390 3 3 682 1076
def aib:Obj:=fO "_law_hall" "_law_hall" (top 86) (.str "law_chancehall_k54_bounds" 966) 685
def ajF:Obj:=tN 1082 ["_law_cell_here","_law_rooms","_law_xs","_law_found","_law_k"]
def ajq:Obj:=cO "_law_chosen" "_law_chosen" 1079 397 2 3 687 1087
def aj7:Obj:=fO "_law_chosen" "_law_chosen" (top 87) (.str "law_chancehall_k54_bounds" 966) 692
def ah3:Obj:=tN 1093 ["_law_share_here","_law_door_here","_law_worths","_law_top","_law_bottom","_law_room","_law_chance","_law_part"]
def ai2:Obj:=cO "_law_look" "_law_look" 1090 406 3 3 694 1101
def agy:Obj:=fO "_law_look" "_law_look" (top 88) (.str "law_chancehall_k54_bounds" 966) 699
def aiK:Obj:=cO "_law_below" "_law_below" 1104 416 2 3 701 1109
def aiy:Obj:=fO "_law_below" "_law_below" (top 89) (.str "law_chancehall_k54_bounds" 966) 706
def ai3:Obj:=cO "_law_sizes" "_law_sizes" 1112 418 1 3 708 1117
def aiq:Obj:=fO "_law_sizes" "_law_sizes" (top 90) (.str "law_chancehall_k54_bounds" 966) 713
def akG:Obj:=fT "_law_are_rounds" "_law_are_rounds" (top 91)
def afP:Obj:=cP "_law_are_rounds" "_law_are_rounds" 1120 429 3 3 715 1123
def agg:Obj:=fO "_law_are_rounds" "_law_are_rounds" (top 91) (.str "law_chancehall_k54_bounds" 966) 718
def afM:Obj:=cP "_law_taken" "_law_taken" 1126 433 2 3 720 1129
def agX:Obj:=fO "_law_taken" "_law_taken" (top 92) (.str "law_chancehall_k54_bounds" 966) 723
def aiT:Obj:=cP "_law_steps" "_law_steps" 1132 441 2 3 725 1135
def aiM:Obj:=fO "_law_steps" "_law_steps" (top 93) (.str "law_chancehall_k54_bounds" 966) 728
def af2:Obj:=tN 1141 ["_law_share_here","_law_one","_law_step","_law_rest"]
def ahs:Obj:=cO "_law_bound" "_law_bound" 1138 443 3 3 730 1145
def aiv:Obj:=fO "_law_bound" "_law_bound" (top 94) (.str "law_chancehall_k54_bounds" 966) 735
def ahp:Obj:=tN 1151 ["_law_found","_law_share_here","_law_ahead","_law_behind","_law_steps_here","_law_least_one","_law_most_one","_law_step","_law_k"]
def aiu:Obj:=cO "_law_right" "_law_right" 1148 446 4 3 737 1160
def ah6:Obj:=fO "_law_right" "_law_right" (top 95) (.str "law_chancehall_k54_bounds" 966) 742
def ajV:Obj:=fT "_law_plan_right" "_law_plan_right" (top 96)
def agT:Obj:=cP "_law_plan_right" "_law_plan_right" 1163 465 4 3 744 1166
def agN:Obj:=fO "_law_plan_right" "_law_plan_right" (top 96) (.str "law_chancehall_k54_bounds" 966) 747
def tr1(P:Params):BT:=nd (boot_o_0 P) (nd (boot_o_1 P) (nd (aky P) (nd (boot_o_7 P) (nd tE (nd q31 (nd fE (nd aiW (n1 tE agV) (n1 (tN 677 ["room"]) ahb)) (nd (fT "ratio" "ratio" (top 18)) (n1 tE tE) (n1 tE (tN 1107 ["_law_one","_law_other"])))) (nd q95 (nd tE (n1 fE aku) (n1 tE ah4)) (nd fE (n1 fE agb) (n1 akr ahs)))) (nd q47 (nd (q79 P) (nd tE (n1 (fT "fits" "fits" (top 32)) ahi) (n1 af3 aii)) (nd afQ (n1 (fT "best_rounds" "best_rounds" (top 45)) (fT "offers" "Hall.offers" (gJ 71 6))) (n1 akA agg))) (nd aiB (nd (fT "is_whole" "is_whole" (top 13)) (n1 (cP "mended" "mended" 567 125 3 3 300 570) (cO "size" "Hall.size" 910 276 1 3 554 914)) (n1 agB tE)) (nd (cP "level" "level" 482 79 1 3 236 485) (n1 afY fE) (lf akn))))) (nd q23 (nd fE (nd q71 (nd (akM P) (n1 fE ajh) (n1 tE ah2)) (nd (cO "is_ratio" "is_ratio" 431 60 1 3 194 437) (n1 tE fE) (n1 (agv P) tE))) (nd fE (nd (ajc P) (n1 (tN 561 ["seen","door","most"]) (fT "__init__" "Hall.__init__" (gJ 71 0))) (n1 (fT "ways" "Door.ways" (gJ 61 1)) (fT "_law_built" "_law_built" (top 85)))) (nd (tN 475 ["one","other"]) (n1 (fT "bounds_of" "bounds_of" (top 50)) tE) (n1 agq ah6)))) (nd (q55 P) (nd fE (nd aj3 (n1 ahB tE) (n1 (aj5 P) tE)) (nd tE (n1 aiZ akC) (n1 ajb (fT "_law_steps" "_law_steps" (top 93))))) (nd ajR (nd (cO "divisor" "divisor" 403 40 2 3 178 411) (n1 agd ai0) (n1 akf fE)) (nd aip (n1 fE (tN 1010 ["_law_found","_law_number"])) (lf akS)))))) (nd o11 (nd (fT "_wall" "_wall" (top 0)) (nd q35 (nd (q67 P) (nd ajX (n1 (fT "least" "least" (top 29)) fE) (n1 aiU (tN 1024 ["_law_one","_law_other"]))) (nd fE (n1 ahx akq) (n1 (fT "__init__" "Sure.__init__" (gJ 62 0)) aiy))) (nd q99 (nd (fT "__init__" "NoPlan.__init__" (gJ 11 0)) (n1 ai5 aki) (n1 tE ahj)) (nd (cO "over" "over" 464 74 2 3 222 469) (n1 (cO "to_come" "to_come" 632 161 2 3 350 637) tE) (n1 ajW ahp)))) (nd fE (nd q83 (nd (tN 364 ["door"]) (n1 fE tE) (n1 aix af6)) (nd tE (n1 fE (ahN P)) (n1 fE afM))) (nd akT (nd fE (n1 (tN 580 ["many"]) (tN 920 ["self"])) (n1 ajn (fT "_law_chosen" "_law_chosen" (top 87)))) (nd (tN 491 ["fractions","leveled"]) (n1 (fT "is_word" "is_word" (top 54)) agE) (lf (akm P)))))) (nd q27 (nd (q43 P) (nd fE (nd akQ (n1 tE (tN 863 ["rooms","numbers","room","name"])) (n1 tE ag5)) (nd (tN 443 ["one","other"]) (n1 tE agY) (n1 ai6 tE))) (nd aiO (nd tE (n1 aik fE) (n1 fE fE)) (nd ahr (n1 fE (fT "_law_gcd" "_law_gcd" (top 75))) (n1 afJ agT)))) (nd q59 (nd (q91 P) (nd tE (n1 (fT "behind_door" "behind_door" (top 34)) (fT "offers_of" "offers_of" (top 70))) (n1 ajA tE)) (nd (fT "times" "times" (top 22)) (n1 (fT "gains" "gains" (top 48)) (tN 971 ["_law_script","_law_k"])) (n1 agn fE))) (nd (tN 334 ["self","room"]) (nd tE (n1 tE tE) (n1 tE ai2)) (nd tE (n1 ahY ai4) (lf ahn))))))) (nd (boot_o_5 P) (nd (boot_o_9 P) (nd (tN 190 ["k"]) (nd q33 (nd q65 (nd (agp P) (n1 (tN 508 ["fractions","found","one"]) aju) (n1 aj8 tE)) (nd ahD (n1 (fT "best_round" "best_round" (top 43)) (tN 935 ["self","room"])) (n1 (tN 762 ["self","name","pay","room"]) (fT "_law_below" "_law_below" (top 89))))) (nd (q97 P) (nd (tN 384 ["self","room"]) (n1 tE tE) (n1 ail fE)) (nd tE (n1 tE fE) (n1 tE tE)))) (nd (q49 P) (nd q81 (nd ag4 (n1 ah9 fE) (n1 fE (fT "_law_share" "_law_share" (top 81)))) (nd fE (n1 aio aiL) (n1 ajw fE))) (nd aj2 (nd aiS (n1 tE tE) (n1 (tN 736 ["leads","name","pay"]) ajF)) (nd tE (n1 tE tE) (lf aic))))) (nd tE (nd q41 (nd (q73 P) (nd ajH (n1 ah7 tE) (n1 ah1 fE)) (nd tE (n1 ahI tE) (n1 akl ai3))) (nd tE (nd akH (n1 (fT "better_door" "better_door" (top 37)) aiE) (n1 aiG aiw)) (nd (fT "under" "under" (top 24)) (n1 agx agJ) (n1 (fT "__init__" "Toss.__init__" (gJ 64 0)) fE)))) (nd q57 (nd q89 (nd ajY (n1 tE aiJ) (n1 ake afZ)) (nd (tN 459 ["one","other"]) (n1 tE tE) (n1 (tN 796 ["leads"]) aiM))) (nd tE (nd afV (n1 fE fE) (n1 ajK tE)) (nd fE (n1 tE (fT "_law_is_ratio" "_law_is_ratio" (top 77))) (lf fE)))))) (nd o13 (nd q21 (nd (q37 P) (nd q69 (nd ahm (n1 aiD tE) (n1 fE (fT "_law_same" "_law_same" (top 79)))) (nd tE (n1 fE ain) (n1 ah8 fE))) (nd akj (nd agh (n1 tE tE) (n1 (tN 724 ["self"]) tE)) (nd tE (n1 tE aiR) (n1 tE (fT "_law_right" "_law_right" (top 95)))))) (nd q53 (nd (q85 P) (nd ah0 (n1 tE ago) (n1 tE fE)) (nd (cO "minus" "minus" 448 70 2 3 208 453) (n1 tE ahC) (n1 tE tE))) (nd tE (nd tE (n1 (fT "check_many" "check_many" (top 41)) (fT "names" "Hall.names" (gJ 71 2))) (n1 agt aj7)) (nd (fT "total" "total" (top 27)) (n1 afN tE) (lf ajC))))) (nd tE (nd q45 (nd q77 (nd fE (n1 (tN 525 ["thing","many"]) (fT "numbers_of" "numbers_of" (top 68))) (n1 (fT "check_pairs" "check_pairs" (top 59)) tE)) (nd (fT "plus" "plus" (top 20)) (n1 (tN 611 ["hall","many"]) tE) (n1 (akO P) akG))) (nd (tN 314 ["row"]) (nd (tN 399 ["thing"]) (n1 fE tE) (n1 tE aiX)) (nd fE (n1 tE agm) (lf (ag8 P))))) (nd (q61 P) (nd q93 (nd ajU (n1 agM ajm) (n1 fE (fT "_law_door" "_law_door" (top 83)))) (nd ag0 (n1 ahW (fT "_law_cell" "_law_cell" (top 73))) (n1 ajL tE))) (nd (fT "__init__" "NoRoom.__init__" (gJ 9 0)) (nd (tN 425 ["top","bottom","common"]) (n1 (cO "lowered" "lowered" 584 138 2 3 312 589) (cO "place" "Hall.place" 924 282 2 3 568 929)) (n1 ajQ tE)) (nd (cO "greatest" "greatest" 496 87 1 3 248 502) (n1 tE fE) (lf tE)))))))) (nd (boot_o_2 P) (nd (boot_o_4 P) (nd (boot_o_8 P) (nd fE (nd q32 (nd q64 (nd (tN 339 ["room"]) (n1 fE ajE) (n1 tE agR)) (nd (cO "ratio" "ratio" 422 51 2 3 187 428) (n1 fE fE) (n1 fE tE))) (nd q96 (nd fE (n1 ajl (akz P)) (n1 (fT "__init__" "Door.__init__" (gJ 61 0)) tE)) (nd (tN 467 ["one","other"]) (n1 (tN 635 ["share","gain"]) tE) (n1 (aks P) aiv)))) (nd q48 (nd q80 (nd (fT "__init__" "NoDoor.__init__" (gJ 10 0)) (n1 (cO "fits" "fits" 522 102 2 3 267 527) tE) (n1 tE tE)) (nd tE (n1 aiH ahf) (n1 akd tE))) (nd akE (nd (cO "is_whole" "is_whole" 396 38 1 3 171 400) (n1 ahE ahS) (n1 af9 fE)) (nd afR (n1 agl ahy) (lf ajM))))) (nd (q24 P) (nd q40 (nd q72 (nd tE (n1 (fT "first_plan" "first_plan" (top 31)) agG) (n1 (fT "check_chance" "check_chance" (top 58)) tE)) (nd ahQ (n1 (fT "rounds_behind" "rounds_behind" (top 44)) (tN 943 ["self","room","name"])) (n1 ai9 (fT "_law_sizes" "_law_sizes" (top 90))))) (nd (tN 309 ["self","row"]) (nd agf (n1 tE ahe) (n1 (cO "ways" "Door.ways" 721 213 1 3 419 725) ai7)) (nd tE (n1 ahq fE) (n1 tE tE)))) (nd q56 (nd q88 (nd ahh (n1 agZ fE) (n1 tE (fT "_law_pay" "_law_pay" (top 82)))) (nd fE (n1 ajo akb) (n1 agW aiT))) (nd ajN (nd ag9 (n1 tE tE) (n1 agI ah3)) (nd tE (n1 (tN 669 ["name","pay"]) tE) (lf tE)))))) (nd ags (nd (cO "_wall" "_wall" 187 1 1 3 15 191) (nd q36 (nd q68 (nd akh (n1 (cO "least" "least" 505 93 1 3 255 511) (tN 856 ["share"])) (n1 tE tE)) (nd (tN 434 ["thing","top","bottom"]) (n1 tE ai1) (n1 aga tE))) (nd ajt (nd aiF (n1 agU ajZ) (n1 fE ahF)) (nd aiz (n1 afS (fT "_law_stream" "_law_stream" (top 74))) (n1 akk tE)))) (nd q52 (nd q84 (nd (af8 P) (n1 (tN 533 ["hall","plan","room","thing"]) (fT "numbered_ways" "numbered_ways" (top 69))) (n1 agz tE)) (nd (fT "minus" "minus" (top 21)) (n1 (tN 622 ["many"]) afW) (n1 (tN 789 ["self","name","pay","pairs"]) agX))) (nd (ajB P) (nd aiA (n1 tE tE) (n1 aif ajq)) (nd tE (n1 (cP "is_word" "is_word" 658 178 1 3 369 661) agS) (lf tE))))) (nd q28 (nd q44 (nd q76 (nd tE (n1 fE tE) (n1 fE af0)) (nd tE (n1 fE aje) (n1 ajG fE))) (nd ais (nd fE (n1 tE (tN 913 ["self"])) (n1 (tN 731 ["self","room"]) (fT "_law_hall" "_law_hall" (top 86)))) (nd tE (n1 (tN 649 ["hall","many"]) ahG) (n1 tE agN)))) (nd q60 (nd q92 (nd aj6 (n1 aij af4) (n1 tE fE)) (nd (cO "times" "times" 456 72 2 3 215 461) (n1 (cP "gains" "gains" 626 159 2 3 345 629) tE) (n1 akF af2))) (nd tE (nd fE (n1 (fT "lowered" "lowered" (top 42)) (fT "place" "Hall.place" (gJ 71 3))) (n1 ajr agy)) (nd (fT "greatest" "greatest" (top 28)) (n1 ahg tE) (lf agC))))))) (nd (boot_o_6 P) (nd (boot_o_10 P) (nd tE (nd q34 (nd tE (nd afU (n1 tE tE) (n1 ahL fE)) (nd tE (n1 ag7 tE) (n1 tE aiK))) (nd tE (nd tE (n1 (fT "raised_look" "raised_look" (top 35)) ajT) (n1 aiI (fT "_law_doors" "_law_doors" (top 84)))) (nd (fT "over" "over" (top 23)) (n1 (fT "to_come" "to_come" (top 49)) ajj) (n1 aj0 fE)))) (nd tE (nd q82 (nd ahz (n1 tE ahJ) (n1 (fT "joined_ways" "joined_ways" (top 60)) ahu)) (nd (tN 451 ["one","other"]) (n1 tE (tN 955 ["numbers","offered","share"])) (n1 tE (fT "_law_taken" "_law_taken" (top 92))))) (nd ag1 (nd tE (n1 fE fE) (n1 (aho P) tE)) (nd fE (n1 fE (fT "_law_ratio" "_law_ratio" (top 76))) (lf akx))))) (nd fE (nd tE (nd tE (nd akI (n1 agP fE) (n1 ahM (fT "_law_names" "_law_names" (top 80)))) (nd fE (n1 agu (fT "door_at" "Hall.door_at" (gJ 71 5))) (n1 akv aiq))) (nd (fT "__init__" "NoRow.__init__" (gJ 8 0)) (nd akB (n1 aht tE) (n1 tE tE)) (nd (cO "under" "under" 472 76 2 3 229 477) (n1 tE tE) (n1 ajd ajV)))) (nd q58 (nd tE (nd (ajp P) (n1 fE tE) (n1 ajv ag3)) (nd tE (n1 fE fE) (n1 (ahv P) tE))) (nd fE (nd ag6 (n1 (tN 587 ["raised","bottom"]) (tN 927 ["self","name"])) (n1 (akL P) (fT "_law_look" "_law_look" (top 88)))) (nd (tN 499 ["fractions","found","one"]) (n1 (fT "check_head" "check_head" (top 56)) aja) (lf (fT "__init__" "Even.__init__" (gJ 65 0)))))))) (nd o14 (nd q22 (nd tE (nd q70 (nd akD (n1 tE (fT "check_share" "check_share" (top 67))) (n1 (tN 684 ["chance"]) ahl)) (nd (fT "is_ratio" "is_ratio" (top 19)) (n1 (tN 601 ["first","many","follow","told"]) tE) (n1 (tN 769 ["leads"]) (tN 1115 ["_law_cell_here","_law_xs"])))) (nd tE (nd (tN 389 ["room"]) (n1 fE fE) (n1 tE fE)) (nd fE (n1 fE ahZ) (n1 fE aiu)))) (nd tE (nd tE (nd akR (n1 (fT "check_plan" "check_plan" (top 33)) agH) (n1 ajP af7)) (nd ahH (n1 (fT "check_behind" "check_behind" (top 47)) aiC) (n1 (fT "__init__" "Mixed.__init__" (gJ 63 0)) fE))) (nd ajs (nd (fT "divisor" "divisor" (top 14)) (n1 af5 (cO "names" "Hall.names" 917 279 1 3 561 921)) (n1 ajI tE)) (nd (cO "total" "total" 488 84 1 3 241 493) (n1 tE fE) (lf ajO))))) (nd (q30 P) (nd q46 (nd tE (nd (tN 359 ["self","door"]) (n1 tE ahd) (n1 ahX fE)) (nd (cO "plus" "plus" 440 68 2 3 201 445) (n1 (tN 613 ["hall"]) fE) (n1 tE afP))) (nd (aiY P) (nd tE (n1 (fT "mended" "mended" (top 38)) (fT "size" "Hall.size" (gJ 71 1))) (n1 (fT "chance_to" "Door.chance_to" (gJ 61 2)) aib)) (nd (fT "level" "level" (top 26)) (n1 (fT "round_plan" "round_plan" (top 51)) tE) (lf afX)))) (nd tE (nd q94 (nd akN (n1 tE tE) (n1 (tN 715 ["self","name","pay"]) ajf)) (nd tE (n1 tE aiN) (n1 afK (fT "_law_bound" "_law_bound" (top 94))))) (nd ag2 (nd tE (n1 agj afO) (n1 ajD fE)) (nd aiV (n1 fE aj9) (lf (aiQ P)))))))))
def S1(w:World)(os:OsState):SharedT:=⟨tr1 w.params,749,{},⟨[]⟩,{},1169,os⟩
noncomputable def e1:Pos:=⟨465,0,471,15⟩
def KH:Params->Frag:=λP=>(
 (nat_lit 2,boot_o_2 P)::(nat_lit 3,wD (dE P "__name__" 165 (.str "law_chancehall_k54_bounds" 966)::dE P "__doc__" 166 .none::dE P "__package__" 167 .none::dE P "__loader__" 168 (.builtin "__main__.__loader__#opaque")::dE P "__spec__" 169 .none::dR P "__annotations__" 170 6::dR P "__builtins__" 171 4::dE P "__file__" 173 (.str "/claim/cut.py" 172)::dE P "__cached__" 174 .none::dR P "_wall" 193 21::dR P "HallError" 213 31::dR P "NoNumber" 229 44::dR P "NoName" 245 56::dR P "NoChance" 261 68::dR P "NoShare" 277 80::dR P "NoText" 293 92::dR P "NoRow" 318 111::dR P "NoRoom" 343 130::dR P "NoDoor" 368 149::dR P "NoPlan" 393 168::dR P "is_whole" 402 177::dR P "divisor" 413 184::dR P "NOUGHT" 418 185::dR P "ONE" 421 186::dR P "ratio" 430 193::dR P "is_ratio" 439 200::dR P "plus" 447 207::dR P "minus" 455 214::dR P "times" 463 221::dR P "over" 471 228::dR P "under" 479 235::dR P "level" 487 240::dR P "total" 495 247::dR P "greatest" 504 254::dR P "least" 513 261::dR P "first_plan" 521 266::dR P "fits" 529 273::dR P "check_plan" 539 280::dR P "behind_door" 545 285::dR P "raised_look" 555 292::dR P "better_door" 566 299::dR P "mended" 572 304::dE P "MOST" 576 (.int 40 575)::dR P "check_many" 583 311::dR P "lowered" 591 318::dR P "best_round" 597 323::dR P "rounds_behind" 607 330::dR P "best_rounds" 616 337::dR P "check_behind" 625 344::dR P "gains" 631 349::dR P "to_come" 639 356::dR P "bounds_of" 645 361::dR P "round_plan" 653 368::dE P "LONGEST_WORD" 657 (.int 8 656)::dR P "is_word" 663 373::dR P "check_head" 673 380::dR P "check_room_name" 680 387::dR P "check_chance" 687 394::dR P "check_pairs" 693 399::dR P "joined_ways" 699 404::dR P "Door" 746 435::dR P "Sure" 773 456::dR P "Mixed" 800 475::dR P "Toss" 828 494::dR P "Even" 850 511::dR P "check_share" 859 520::dR P "numbers_of" 869 527::dR P "numbered_ways" 880 534::dR P "offers_of" 891 541::dR P "Hall" 965 596::dR P "_law_cell" 975 607::dR P "_law_stream" 987 614::dR P "_law_gcd" 997 621::dR P "_law_ratio" 1006 628::dR P "_law_is_ratio" 1014 635::dR P "_law_are_ratios" 1020 640::dR P "_law_same" 1028 647::dR P "_law_names" 1034 652::dR P "_law_share" 1044 659::dR P "_law_pay" 1054 666::dR P "_law_door" 1060 671::dR P "_law_doors" 1066 676::dR P "_law_built" 1072 681::dR P "_law_hall" 1078 686::dR P "_law_chosen" 1089 693::dR P "_law_look" 1103 700::dR P "_law_below" 1111 707::dR P "_law_sizes" 1119 714::dR P "_law_are_rounds" 1125 719::dR P "_law_taken" 1131 724::dR P "_law_steps" 1137 729::dR P "_law_bound" 1147 736::dR P "_law_right" 1162 743::dR P "_law_plan_right" 1168 748::dR P "_law_refused" 1179 755::dR P "law" 1199 762::[]) 96)::(nat_lit 15,tE)::(nat_lit 17,tN 190 ["k"])::(nat_lit 18,tE)::(nat_lit 20,cO "_wall" "_wall" 187 1 1 3 15 191)::(nat_lit 21,q21)::(nat_lit 22,q22)::(nat_lit 29,tE)::(nat_lit 30,q30 P)::(nat_lit 31,q31)::(nat_lit 32,q32)::(nat_lit 35,q35)::(nat_lit 42,tE)::(nat_lit 43,q43 P)::(nat_lit 44,q44)::(nat_lit 47,q47)::(nat_lit 54,tE)::(nat_lit 55,q55 P)::(nat_lit 56,q56)::(nat_lit 59,q59)::(nat_lit 66,tE)::(nat_lit 67,q67 P)::(nat_lit 68,q68)::(nat_lit 71,q71)::(nat_lit 78,tE)::(nat_lit 79,q79 P)::(nat_lit 80,q80)::(nat_lit 83,q83)::(nat_lit 90,tE)::(nat_lit 91,q91 P)::(nat_lit 92,q92)::(nat_lit 95,q95)::(nat_lit 102,tE)::(nat_lit 104,tN 309 ["self","row"])::(nat_lit 105,tE)::(nat_lit 107,aiO)::(nat_lit 108,ais)::(nat_lit 109,tN 314 ["row"])::(nat_lit 110,aiY P)::(nat_lit 111,aiB)::(nat_lit 114,ag1)::(nat_lit 121,tE)::(nat_lit 123,tN 334 ["self","room"])::(nat_lit 124,tE)::(nat_lit 126,ag2)::(nat_lit 127,aiW)::(nat_lit 128,tN 339 ["room"])::(nat_lit 129,agp P)::(nat_lit 130,afU)::(nat_lit 133,ahm)::(nat_lit 140,tE)::(nat_lit 142,tN 359 ["self","door"])::(nat_lit 143,tE)::(nat_lit 145,ag4)::(nat_lit 146,ahz)::(nat_lit 147,tN 364 ["door"])::(nat_lit 148,af8 P)::(nat_lit 149,ah0)::(nat_lit 152,ahh)::(nat_lit 159,tE)::(nat_lit 161,tN 384 ["self","room"])::(nat_lit 162,tE)::(nat_lit 164,aiF)::(nat_lit 165,agh)::(nat_lit 166,tN 389 ["room"])::(nat_lit 167,ajc P)::(nat_lit 168,agf)::(nat_lit 171,tE)::(nat_lit 173,tN 399 ["thing"])::(nat_lit 174,tE)::(nat_lit 176,cO "is_whole" "is_whole" 396 38 1 3 171 400)::(nat_lit 177,aiS)::(nat_lit 178,tE)::(nat_lit 180,aiA)::(nat_lit 181,tE)::(nat_lit 183,cO "divisor" "divisor" 403 40 2 3 178 411)::(nat_lit 184,ag9)::(nat_lit 185,afV)::(nat_lit 186,ag6)::(nat_lit 187,tE)::(nat_lit 189,tN 425 ["top","bottom","common"])::(nat_lit 190,tE)::(nat_lit 192,cO "ratio" "ratio" 422 51 2 3 187 428)::(nat_lit 193,ahD)::(nat_lit 194,tE)::(nat_lit 196,tN 434 ["thing","top","bottom"])::(nat_lit 197,tE)::(nat_lit 199,cO "is_ratio" "is_ratio" 431 60 1 3 194 437)::(nat_lit 200,ahQ)::(nat_lit 201,tE)::(nat_lit 203,tN 443 ["one","other"])::(nat_lit 204,tE)::(nat_lit 206,cO "plus" "plus" 440 68 2 3 201 445)::(nat_lit 207,afQ)::(nat_lit 208,tE)::(nat_lit 210,tN 451 ["one","other"])::(nat_lit 211,tE)::(nat_lit 213,cO "minus" "minus" 448 70 2 3 208 453)::(nat_lit 214,ahH)::(nat_lit 215,tE)::(nat_lit 217,tN 459 ["one","other"])::(nat_lit 218,tE)::(nat_lit 220,cO "times" "times" 456 72 2 3 215 461)::(nat_lit 221,ag0)::(nat_lit 222,tE)::(nat_lit 224,tN 467 ["one","other"])::(nat_lit 225,tE)::(nat_lit 227,cO "over" "over" 464 74 2 3 222 469)::(nat_lit 228,aiz)::(nat_lit 229,tE)::(nat_lit 231,tN 475 ["one","other"])::(nat_lit 232,tE)::(nat_lit 234,cO "under" "under" 472 76 2 3 229 477)::(nat_lit 235,ahr)::(nat_lit 236,tE)::(nat_lit 239,cP "level" "level" 482 79 1 3 236 485)::(nat_lit 240,afR)::(nat_lit 241,tE)::(nat_lit 243,tN 491 ["fractions","leveled"])::(nat_lit 244,tE)::(nat_lit 246,cO "total" "total" 488 84 1 3 241 493)::(nat_lit 247,aip)::(nat_lit 248,tE)::(nat_lit 250,tN 499 ["fractions","found","one"])::(nat_lit 251,tE)::(nat_lit 253,cO "greatest" "greatest" 496 87 1 3 248 502)::(nat_lit 254,aiV)::(nat_lit 255,tE)::(nat_lit 257,tN 508 ["fractions","found","one"])::(nat_lit 258,tE)::(nat_lit 260,cO "least" "least" 505 93 1 3 255 511)::(nat_lit 261,aiD)::(nat_lit 262,tE)::(nat_lit 265,ah7)::(nat_lit 266,agP)::(nat_lit 267,tE)::(nat_lit 269,tN 525 ["thing","many"])::(nat_lit 270,tE)::(nat_lit 272,cO "fits" "fits" 522 102 2 3 267 527)::(nat_lit 273,ah9)::(nat_lit 274,tE)::(nat_lit 276,tN 533 ["hall","plan","room","thing"])::(nat_lit 277,tE)::(nat_lit 279,ahB)::(nat_lit 280,agZ)::(nat_lit 281,tE)::(nat_lit 284,aij)::(nat_lit 285,agM)::(nat_lit 286,tE)::(nat_lit 288,ajl)::(nat_lit 289,tE)::(nat_lit 291,ai5)::(nat_lit 292,agU)::(nat_lit 293,tE)::(nat_lit 295,tN 561 ["seen","door","most"])::(nat_lit 296,tE)::(nat_lit 298,aht)::(nat_lit 299,aik)::(nat_lit 300,tE)::(nat_lit 303,cP "mended" "mended" 567 125 3 3 300 570)::(nat_lit 304,ahE)::(nat_lit 305,tE)::(nat_lit 307,tN 580 ["many"])::(nat_lit 308,tE)::(nat_lit 310,af5)::(nat_lit 311,agd)::(nat_lit 312,tE)::(nat_lit 314,tN 587 ["raised","bottom"])::(nat_lit 315,tE)::(nat_lit 317,cO "lowered" "lowered" 584 138 2 3 312 589)::(nat_lit 318,agj)::(nat_lit 319,tE)::(nat_lit 322,ag7)::(nat_lit 323,ahx)::(nat_lit 324,tE)::(nat_lit 326,tN 601 ["first","many","follow","told"])::(nat_lit 327,tE)::(nat_lit 329,ahI)::(nat_lit 330,agu)::(nat_lit 331,tE)::(nat_lit 333,tN 611 ["hall","many"])::(nat_lit 334,tN 613 ["hall"])::(nat_lit 336,aiH)::(nat_lit 337,aio)::(nat_lit 338,tE)::(nat_lit 340,tN 622 ["many"])::(nat_lit 341,tE)::(nat_lit 343,aiZ)::(nat_lit 344,ajo)::(nat_lit 345,tE)::(nat_lit 348,cP "gains" "gains" 626 159 2 3 345 629)::(nat_lit 349,ahW)::(nat_lit 350,tE)::(nat_lit 352,tN 635 ["share","gain"])::(nat_lit 353,tE)::(nat_lit 355,cO "to_come" "to_come" 632 161 2 3 350 637)::(nat_lit 356,afS)::(nat_lit 357,tE)::(nat_lit 360,ahq)::(nat_lit 361,agx)::(nat_lit 362,tE)::(nat_lit 364,tN 649 ["hall","many"])::(nat_lit 365,tE)::(nat_lit 367,afY)::(nat_lit 368,agl)::(nat_lit 369,tE)::(nat_lit 372,cP "is_word" "is_word" 658 178 1 3 369 661)::(nat_lit 373,afN)::(nat_lit 374,tE)::(nat_lit 376,tN 669 ["name","pay"])::(nat_lit 377,tE)::(nat_lit 379,ahY)::(nat_lit 380,ahg)::(nat_lit 381,tE)::(nat_lit 383,tN 677 ["room"])::(nat_lit 384,tE)::(nat_lit 386,ahL)::(nat_lit 387,aiU)::(nat_lit 388,tE)::(nat_lit 390,tN 684 ["chance"])::(nat_lit 391,tE)::(nat_lit 393,ah1)::(nat_lit 394,ahM)::(nat_lit 395,tE)::(nat_lit 398,ahX)::(nat_lit 399,af3)::(nat_lit 400,tE)::(nat_lit 403,aix)::(nat_lit 404,agz)::(nat_lit 412,tE)::(nat_lit 414,tN 715 ["self","name","pay"])::(nat_lit 415,tE)::(nat_lit 417,ail)::(nat_lit 418,aiI)::(nat_lit 419,tE)::(nat_lit 421,tN 724 ["self"])::(nat_lit 422,tE)::(nat_lit 424,cO "ways" "Door.ways" 721 213 1 3 419 725)::(nat_lit 425,aiG)::(nat_lit 426,tE)::(nat_lit 428,tN 731 ["self","room"])::(nat_lit 429,tE)::(nat_lit 431,agB)::(nat_lit 432,af9)::(nat_lit 433,tN 736 ["leads","name","pay"])::(nat_lit 434,aho P)::(nat_lit 435,ajn)::(nat_lit 436,aif)::(nat_lit 437,agt)::(nat_lit 440,agI)::(nat_lit 447,tE)::(nat_lit 449,tN 762 ["self","name","pay","room"])::(nat_lit 450,tE)::(nat_lit 452,aga)::(nat_lit 453,ah8)::(nat_lit 454,tN 769 ["leads"])::(nat_lit 455,agv P)::(nat_lit 456,ai9)::(nat_lit 459,ai6)::(nat_lit 466,tE)::(nat_lit 468,tN 789 ["self","name","pay","pairs"])::(nat_lit 469,tE)::(nat_lit 471,ajb)::(nat_lit 472,agW)::(nat_lit 473,tN 796 ["leads"])::(nat_lit 474,ahv P)::(nat_lit 475,agn)::(nat_lit 478,afK)::(nat_lit 485,tE)::(nat_lit 487,agq)::(nat_lit 488,tE)::(nat_lit 490,ajd)::(nat_lit 491,afJ)::(nat_lit 492,tE)::(nat_lit 493,ag8 P)::(nat_lit 494,afX)::(nat_lit 497,aic)::(nat_lit 504,tE)::(nat_lit 507,ahn)::(nat_lit 508,agC)::(nat_lit 509,tE)::(nat_lit 510,aiQ P)::(nat_lit 511,agV)::(nat_lit 514,tE)::(nat_lit 516,tN 856 ["share"])::(nat_lit 517,tE)::(nat_lit 519,ajh)::(nat_lit 520,agG)::(nat_lit 521,tE)::(nat_lit 523,tN 863 ["rooms","numbers","room","name"])::(nat_lit 524,tE)::(nat_lit 526,ahd)::(nat_lit 527,ahi)::(nat_lit 528,tE)::(nat_lit 530,ahJ)::(nat_lit 531,tE)::(nat_lit 533,ago)::(nat_lit 534,agH)::(nat_lit 535,tE)::(nat_lit 537,aiJ)::(nat_lit 538,tE)::(nat_lit 540,af4)::(nat_lit 541,ajm)::(nat_lit 549,tE)::(nat_lit 552,ahe)::(nat_lit 553,aiE)::(nat_lit 554,tE)::(nat_lit 556,tN 913 ["self"])::(nat_lit 557,tE)::(nat_lit 559,cO "size" "Hall.size" 910 276 1 3 554 914)::(nat_lit 560,ahS)::(nat_lit 561,tE)::(nat_lit 563,tN 920 ["self"])::(nat_lit 564,tE)::(nat_lit 566,cO "names" "Hall.names" 917 279 1 3 561 921)::(nat_lit 567,ai0)::(nat_lit 568,tE)::(nat_lit 570,tN 927 ["self","name"])::(nat_lit 571,tE)::(nat_lit 573,cO "place" "Hall.place" 924 282 2 3 568 929)::(nat_lit 574,afO)::(nat_lit 575,tE)::(nat_lit 577,tN 935 ["self","room"])::(nat_lit 578,tE)::(nat_lit 580,ai1)::(nat_lit 581,ain)::(nat_lit 582,tE)::(nat_lit 584,tN 943 ["self","room","name"])::(nat_lit 585,tE)::(nat_lit 587,agY)::(nat_lit 588,aje)::(nat_lit 589,tE)::(nat_lit 592,ahf)::(nat_lit 593,aiL)::(nat_lit 594,tN 955 ["numbers","offered","share"])::(nat_lit 595,ahN P)::(nat_lit 596,afW)::(nat_lit 597,ahC)::(nat_lit 598,aiC)::(nat_lit 601,tE)::(nat_lit 603,tN 971 ["_law_script","_law_k"])::(nat_lit 604,tE)::(nat_lit 606,aiN)::(nat_lit 607,agb)::(nat_lit 608,tE)::(nat_lit 610,ajj)::(nat_lit 611,tE)::(nat_lit 613,aiR)::(nat_lit 614,ahZ)::(nat_lit 615,tE)::(nat_lit 617,agJ)::(nat_lit 618,tE)::(nat_lit 620,ahG)::(nat_lit 621,agm)::(nat_lit 622,tE)::(nat_lit 624,ahy)::(nat_lit 625,tE)::(nat_lit 627,agE)::(nat_lit 628,agS)::(nat_lit 629,tE)::(nat_lit 631,tN 1010 ["_law_found","_law_number"])::(nat_lit 632,tE)::(nat_lit 634,aja)::(nat_lit 635,ai4)::(nat_lit 636,tE)::(nat_lit 639,ahb)::(nat_lit 640,agR)::(nat_lit 641,tE)::(nat_lit 643,tN 1024 ["_law_one","_law_other"])::(nat_lit 644,tE)::(nat_lit 646,ahl)::(nat_lit 647,ah2)::(nat_lit 648,tE)::(nat_lit 651,ag5)::(nat_lit 652,af0)::(nat_lit 653,tE)::(nat_lit 655,aii)::(nat_lit 656,tE)::(nat_lit 658,ahu)::(nat_lit 659,af6)::(nat_lit 660,tE)::(nat_lit 662,af7)::(nat_lit 663,tE)::(nat_lit 665,afZ)::(nat_lit 666,ag3)::(nat_lit 667,tE)::(nat_lit 670,ajf)::(nat_lit 671,ah4)::(nat_lit 672,tE)::(nat_lit 675,ahj)::(nat_lit 676,ahF)::(nat_lit 677,tE)::(nat_lit 680,ai7)::(nat_lit 681,aiw)::(nat_lit 682,tE)::(nat_lit 685,aiX)::(nat_lit 686,aib)::(nat_lit 694,tE)::(nat_lit 696,ah3)::(nat_lit 697,tE)::(nat_lit 699,ai2)::(nat_lit 700,agy)::(nat_lit 701,tE)::(nat_lit 703,tN 1107 ["_law_one","_law_other"])::(nat_lit 704,tE)::(nat_lit 706,aiK)::(nat_lit 707,aiy)::(nat_lit 708,tE)::(nat_lit 710,tN 1115 ["_law_cell_here","_law_xs"])::(nat_lit 711,tE)::(nat_lit 713,ai3)::(nat_lit 714,aiq)::(nat_lit 715,tE)::(nat_lit 718,afP)::(nat_lit 719,agg)::(nat_lit 720,tE)::(nat_lit 723,afM)::(nat_lit 724,agX)::(nat_lit 725,tE)::(nat_lit 728,aiT)::(nat_lit 729,aiM)::(nat_lit 730,tE)::(nat_lit 732,af2)::(nat_lit 733,tE)::(nat_lit 735,ahs)::(nat_lit 736,aiv)::(nat_lit 737,tE)::(nat_lit 739,ahp)::(nat_lit 740,tE)::(nat_lit 742,aiu)::(nat_lit 743,ah6)::(nat_lit 744,tE)::(nat_lit 747,agT)::(nat_lit 748,agN)::(nat_lit 749,tE)::(nat_lit 751,tN 1172 ["_law_hall_here","_law_many","_law_word","e","_law_others"])::(nat_lit 752,tE)::(nat_lit 754,cO "_law_refused" "_law_refused" 1169 472 3 3 749 1177)::(nat_lit 755,fO "_law_refused" "_law_refused" (top 97) (.str "law_chancehall_k54_bounds" 966) 754)::(nat_lit 756,tE)::(nat_lit 758,tN 1183 ["_law_script","_law_size","_law_many","_law_small","_law_share_here","_law_rooms","_law_hall_here","_law_xs","_law_fewer","_law_some","_law_odd","_law_held","_law_found","_law_asked"])::(nat_lit 759,tE)::(nat_lit 761,cO "law" "law" 1180 483 1 3 756 1197)::(nat_lit 762,fO "law" "law" (top 98) (.str "law_chancehall_k54_bounds" 966) 761)::([] : List (Nat×Obj)))
noncomputable abbrev asH:List Nat:=[2,3,15,17,18,20,21,22,29,30,31,32,35,42,43,44,47,54,55,56,59,66,67,68,71,78,79,80,83,90,91,92,95,102,104,105,107,108,109,110,111,114,121,123,124,126,127,128,129,130,133,140,142,143,145,146,147,148,149,152,159,161,162,164,165,166,167,168,171,173,174,176,177,178,180,181,183,184,185,186,187,189,190,192,193,194,196,197,199,200,201,203,204,206,207,208,210,211,213,214,215,217,218,220,221,222,224,225,227,228,229,231,232,234,235,236,239,240,241,243,244,246,247,248,250,251,253,254,255,257,258,260,261,262,265,266,267,269,270,272,273,274,276,277,279,280,281,284,285,286,288,289,291,292,293,295,296,298,299,300,303,304,305,307,308,310,311,312,314,315,317,318,319,322,323,324,326,327,329,330,331,333,334,336,337,338,340,341,343,344,345,348,349,350,352,353,355,356,357,360,361,362,364,365,367,368,369,372,373,374,376,377,379,380,381,383,384,386,387,388,390,391,393,394,395,398,399,400,403,404,412,414,415,417,418,419,421,422,424,425,426,428,429,431,432,433,434,435,436,437,440,447,449,450,452,453,454,455,456,459,466,468,469,471,472,473,474,475,478,485,487,488,490,491,492,493,494,497,504,507,508,509,510,511,514,516,517,519,520,521,523,524,526,527,528,530,531,533,534,535,537,538,540,541,549,552,553,554,556,557,559,560,561,563,564,566,567,568,570,571,573,574,575,577,578,580,581,582,584,585,587,588,589,592,593,594,595,596,597,598,601,603,604,606,607,608,610,611,613,614,615,617,618,620,621,622,624,625,627,628,629,631,632,634,635,636,639,640,641,643,644,646,647,648,651,652,653,655,656,658,659,660,662,663,665,666,667,670,671,672,675,676,677,680,681,682,685,686,694,696,697,699,700,701,703,704,706,707,708,710,711,713,714,715,718,719,720,723,724,725,728,729,730,732,733,735,736,737,739,740,742,743,744,747,748,749,751,752,754,755,756,758,759,761,762]
def KHT(P:Params):Frag:=KH P++[(nat_lit 332,fE)]
abbrev asT:List Nat:=asH++[332]
end
def qv:Program:=view p [0,2,3,4,5,6,7,8,9,10,11,13,14,16,17,18,19,20,21,22,23,24,26,27,28,29,31,32,33,34,35,37,38,40,41,42,43,44,45,47,48,49,50,51,53,54,56,57,58,59,60,61,62,63,64,65,67,68,69,70,71,73,74,75,76,77,78,79,80,81,82,83,84,85,86,87,88,89,90,91,92,93,94,95,96,97,98]
noncomputable abbrev R:RowW:=PySem.Challenge.rw_chancehall_k54_bounds.row.toRowW
def Xt(s:Shared):Bool:=xlAt qv [] s&&recOk R.records s
noncomputable def e:Pos:=⟨483,0,510,120⟩
set_option maxHeartbeats 0
theorem wsd:PySem.Challenge.rw_chancehall_k54_bounds.wellSaid=true:=by kernel_rfl
theorem asK:∀P,asT=(KHT P).map (·.1):=λ_=>by kernel_rfl
theorem pre(w:World):(λos=>topGo treeTable p w 11 ann 12 (S0 w os) (topStub p))=λos=>some (Sa w os,⟨denote treeTable (cE p),cE p,z,B⟩):=by
 rw[Fast.te15667345088766844465,Fast.te14364793385576792824,Fast.te11892475500146522536];kernel_rfl
theorem block(w:World):(λos=>segRun treeTable p w 11 ann 1 1 (Sa w os) (blockOf (behindTheImports p) (env p) (cE p) z B))=λos=>some (.next,(Sb w os).abs,cE p,z):=by
 rw[Fast.te14374325043358763698,Fast.te14364793385576792824];kernel_rfl
theorem ahw(w:World):(λos=>segRunT treeTable p w 11 ann 1 30000 (Sb w os) (piecesOf ((behindTheImports p).take 97) (env p) (cE p) z B))=λos=>some (.next,S1 w os,cE p,e1):=by
 rw[Fast.te10110043849684766642,Fast.te14364793385576792824];kernel_rfl
theorem comb{R S A B C X Y Z:Type _}{o:Option R}{f:R->A}{g:R->B}{k:R->C}{h:R->Option S}{f1:S->X}{f2:S->Y}{f3:S->Z}{a:A}{b:B}{c:C}{x:X}{y:Y}{z:Z}(h1:(o.map λr=>(f r,g r,k r,(h r).map f1))=some (a,b,c,some x))(h2:(o.map λr=>(f r,g r,k r,(h r).map f2))=some (a,b,c,some y))(h3:(o.map λr=>(f r,g r,k r,(h r).map f3))=some (a,b,c,some z)):(o.map λr=>(f r,g r,k r,(h r).map λs=>(f1 s,f2 s,f3 s)))=some (a,b,c,some (x,y,z)):=by
 cases o with
 |none=>cases h1
 |some r =>
  simp only[Option.map_some,Option.some.injEq,Prod.mk.injEq]at h1 h2 h3 ⊢;obtain⟨a1,a2,a3,a4⟩:=h1;obtain⟨_,_,_,b4⟩:=h2;obtain⟨_,_,_,c4⟩:=h3;cases hr:h r with
  |none=>rw[hr]at a4;cases a4
  |some s =>
   rw[hr]at a4 b4 c4;refine⟨a1,a2,a3,?_⟩;simp only[Option.map_some,Option.some.injEq]at a4 b4 c4 ⊢;rw[a4,b4,c4]
theorem akK(w:World):(λos=>(segRunT treeTable p w 11 ann 1 50000 (S1 w os) (piecesOf ((behindTheImports p).drop 97) (env p) (cE p) e1 B)).map λr=>(r.1,r.2.2.1,r.2.2.2,(topRun treeTable p w 11 ann 2 r.2.1.abs ⟨doneF .next,cE p,e,B⟩).map λs=>openSeen qv [] (importedModules p.main.body) Xt true s))=λ_=>some (.next,cE p,e,some (openGood qv [])):=by
 rw[Fast.te10110043849684766642,Fast.te14364793385576792824,Fast.te14082659384304107361,Fast.te4187177175401517315,Fast.te5923862056798008813];kernel_rfl
theorem ako(w:World):(λos=>(segRunT treeTable p w 11 ann 1 50000 (S1 w os) (piecesOf ((behindTheImports p).drop 97) (env p) (cE p) e1 B)).map λr=>(r.1,r.2.2.1,r.2.2.2,(topRun treeTable p w 11 ann 2 r.2.1.abs ⟨doneF .next,cE p,e,B⟩).map λs=>staticsOk (importedModules p.main.body) (boot_heap w.params) s.heap&&namesBound p s.heap&&gensDone s&&laidKept (boot_heap w.params) s.heap))=λ_=>some (.next,cE p,e,some (true)):=by
 rw[Fast.te10110043849684766642,Fast.te14364793385576792824,Fast.te14082659384304107361];kernel_rfl
theorem akg(w:World):(λos=>(segRunT treeTable p w 11 ann 1 50000 (S1 w os) (piecesOf ((behindTheImports p).drop 97) (env p) (cE p) e1 B)).map λr=>(r.1,r.2.2.1,r.2.2.2,(topRun treeTable p w 11 ann 2 r.2.1.abs ⟨doneF .next,cE p,e,B⟩).map λs=>asT.map s.heap.get?))=λ_=>some (.next,cE p,e,some ((KHT w.params).map λp=>some p.2)):=by
 rw[Fast.te10110043849684766642,Fast.te14364793385576792824,Fast.te14082659384304107361];kernel_rfl
theorem big(w:World):(λos=>(segRunT treeTable p w 11 ann 1 50000 (S1 w os) (piecesOf ((behindTheImports p).drop 97) (env p) (cE p) e1 B)).map λr=>(r.1,r.2.2.1,r.2.2.2,(topRun treeTable p w 11 ann 2 r.2.1.abs ⟨doneF .next,cE p,e,B⟩).map λs=>(staticsOk (importedModules p.main.body) (boot_heap w.params) s.heap&&namesBound p s.heap&&gensDone s&&laidKept (boot_heap w.params) s.heap,openSeen qv [] (importedModules p.main.body) Xt true s,asT.map s.heap.get?)))=λ_=>some (.next,cE p,e,some (true,openGood qv [],(KHT w.params).map λp=>some p.2)):=funext λos=>comb (congrFun (ako w) os) (congrFun (akK w) os) (congrFun (akg w) os)
theorem left:LeftO p qv [] Xt (λs=>asT.map s.heap.get?) (λw=>(KHT w.params).map λp=>some p.2) 200000 :=
 Xm (boot_open rfl rfl λ_=>rfl) pre block (λw os=>qp.cutAt (congrFun (ahw w) os) (qp.last (congrFun (big w) os))) rfl
theorem hX(s:Shared)(h:Xt s=true):XL qv [] (s.heap.nsMap mainGlobals) s.heap:=xl_of s (Bool.and_eq_true_iff.mp h).1
theorem hR(s:Shared)(h:Xt s=true):RecFacts R.records s.heap:=recFacts_of (Bool.and_eq_true_iff.mp h).2
end
end H54
noncomputable section
namespace L2
open PySem PySem.Spec PyProof.Rows
noncomputable abbrev Key:=Sum Int Str
noncomputable def Dk:Key->Value->Bool
 |.inl k,v=>Value.isInt k v
 |.inr x,v=>Value.isStrOf x v
noncomputable def ajS(w:World):Key->Int
 |.inl k=>hashInt k
 |.inr x=>hashStr w x
theorem h_:∀{k:Key}{v:Value},Dk k v=true->(∃i t,k=Sum.inl i/\v=Value.int i t)\/(∃x t,k=Sum.inr x/\v=Value.str x t)
 |.inl i,v,h=>by
  obtain⟨t,e⟩:=Value.isInt_shape (k:=i) (v:=v) h;exact .inl ⟨i,t,rfl,e⟩
 |.inr x,v,h=>by
  obtain⟨t,e⟩:=Value.isStrOf_shape (x:=x) (v:=v) h;exact .inr ⟨x,t,rfl,e⟩
theorem Yu(i:Int)(t:Tok):Dk (.inl i) (.int i t)=true:=by simp[Dk,Value.isInt]
theorem Yx(x:Str)(t:Tok):Dk (.inr x) (.str x t)=true:=by simp[Dk,Value.isStrOf]
theorem ae5(a b:Int):decide ((Sum.inl a:Key)=Sum.inl b)=(a==b):=by
 by_cases e:a=b
 .subst e;simp
 .have h:¬(Sum.inl a:Key)=Sum.inl b:=λq=>e (Sum.inl.inj q);rw[Zp h];exact(beq_eq_false_iff_ne.mpr e).symm
theorem afB(a b:Str):decide ((Sum.inr a:Key)=Sum.inr b)=decide (a=b):=by
 by_cases e:a=b
 .subst e;simp
 .have h:¬(Sum.inr a:Key)=Sum.inr b:=λq=>e (Sum.inr.inj q);rw[Zp h,Zp e]
theorem aep(a:Int)(b:Str):decide ((Sum.inl a:Key)=Sum.inr b)=false:=Zp (λq=>nomatch q)
theorem afe(a:Str)(b:Int):decide ((Sum.inr a:Key)=Sum.inl b)=false:=Zp (λq=>nomatch q)
def mH(prog:Program)(w:World):PySem.KeyKind prog w Key where
 is:=Dk
 hash:=ajS w
 inj:=λv a b ha hb=>by
  rcases h_ ha with⟨i,t,rfl,rfl⟩|⟨x,t,rfl,rfl⟩
  .rcases h_ hb with⟨j,u,rfl,e⟩|⟨y,u,rfl,e⟩
   .injection e with e1 _;rw[e1]
   .exact nomatch e
  .rcases h_ hb with⟨j,u,rfl,e⟩|⟨y,u,rfl,e⟩
   .exact nomatch e
   .injection e with e1 _;rw[e1]
 byValue:=λk v h=>by
  rcases h_ h with⟨i,t,rfl,rfl⟩|⟨x,t,rfl,rfl⟩<;>rfl
 pyHash:=λhv h=>by
  rcases h_ hv with⟨i,t,rfl,rfl⟩|⟨x,t,rfl,rfl⟩
  .exact wpAny_pyHash_int h
  .exact wpAny_pyHash_str h
 eqBool:=λhu hv h=>by
  rcases h_ hu with⟨i,t,rfl,rfl⟩|⟨x,t,rfl,rfl⟩
  .rcases h_ hv with⟨j,u,rfl,rfl⟩|⟨y,u,rfl,rfl⟩
   .rw[ae5]at h;exact wpAny_eqBool_int h
   .rw[aep]at h;exact SeqAt.EqAt.int_str i t y u _ _ _ _ h
  .rcases h_ hv with⟨j,u,rfl,rfl⟩|⟨y,u,rfl,rfl⟩
   .rw[afe]at h;exact SeqAt.EqAt.str_int x t j u _ _ _ _ h
   .rw[afB]at h;exact wpAny_eqBool_str h
 «strs»:=λk x t v h=>by
  rcases h_ h with⟨i,u,rfl,e⟩|⟨y,u,rfl,e⟩
  .exact nomatch e
  .injection e with e1 _;subst e1;cases v<;>rfl
theorem RP(prog:Program)(w:World)(i:Int)(t:Tok):(mH prog w).is (.inl i) (.int i t)=true:=Yu i t
theorem Tc(prog:Program)(w:World)(x:Str)(t:Tok):(mH prog w).is (.inr x) (.str x t)=true:=Yx x t
inductive V where
 |non|bl (b:Bool)|int (i:Int)|str (x:Str)|byt (b:Array UInt8)|flt (b:UInt64)|ref (a:Addr)|ty (n:String)
 deriving DecidableEq
noncomputable abbrev Μ:=List V
def RelV:V->Value->Prop
 |.non,u=>u=Value.none
 |.bl b,u=>u=Value.bool b
 |.int i,u=>∃t,u=Value.int i t
 |.str x,u=>∃t,u=Value.str x t
 |.byt b,u=>∃t,u=Value.bytes b t
 |.flt b,u=>∃t,u=Value.float b t
 |.ref a,u=>u=Value.ref a
 |.ty n,u=>u=Value.type n
abbrev Vals:Μ->Ξ->Prop:=Paired RelV
theorem Vals.length{xs:Μ}{us:Ξ}(r:Vals xs us):xs.length=us.length:=Paired.length r
theorem Vals.get:∀{xs:Μ}{us:Ξ}{i:Nat}{x:V},Vals xs us->xs[i]?=some x->∃u,us[i]?=some u/\RelV x u
 |_,_,_,_,.nil,e=>by simp at e
 |_,_,0,_,.cons r _,e=>by simp at e;subst e;exact⟨_,rfl,r⟩
 |_,_,i+1,x,.cons _ t,e=>by
  obtain⟨u,h1,h2⟩:=Vals.get (i:=i) (x:=x) t (by simpa using e);exact⟨u,by simpa using h1,h2⟩
theorem Vals.set{x:V}{u:Value}(r:RelV x u):∀{xs:Μ}{us:Ξ}(i:Nat),Vals xs us->Vals (xs.set i x) (us.set i u)
 |_,_,_,.nil=>.nil
 |_,_,0,.cons _ t=>.cons r t
 |_,_,i+1,.cons q t=>.cons q (Vals.set r i t)
theorem Vals.append:∀{xs ys:Μ}{us ws:Ξ},Vals xs us->Vals ys ws->Vals (xs++ys) (us++ws)
 |_,_,_,_,.nil,s=>s
 |_,_,_,_,.cons r t,s=>.cons r (Vals.append t s)
theorem Vals.take:∀{xs:Μ}{us:Ξ}(n:Nat),Vals xs us->Vals (xs.take n) (us.take n)
 |_,_,0,_=>.nil
 |_,_,_+1,.nil=>.nil
 |_,_,n+1,.cons r t=>.cons r (Vals.take n t)
theorem Vals.drop:∀{xs:Μ}{us:Ξ}(n:Nat),Vals xs us->Vals (xs.drop n) (us.drop n)
 |_,_,0,r=>r
 |_,_,_+1,.nil=>.nil
 |_,_,n+1,.cons _ t=>Vals.drop n t
def zB:Option V->Ζ->Prop
 |some v,some u=>RelV v u
 |none,none=>True
 |_,_=>False
def KV{κ:Type} : List (κ×V)->List (κ×Value)->Prop:=Paired λ(p:κ×V)(q:κ×Value)=>p.1=q.1/\RelV p.2 q.2
noncomputable def kV:Key->V
 |.inl i=>.int i
 |.inr x=>.str x
inductive HO where
  |lst (xs:Μ)
  |tup (xs:Μ)
  |dK (kvs:List (Key×V))
  |set (S:Int->Bool) (n:Nat)
  |ins (C dx:Addr) (fs:List (Str×V))
  |own (x:Addr)
  |xd (fs:List (Str×V))
  |met (f x:Addr)
  |rng (lo hi:Int)
  |frz (o:Obj) (u:HO)
  |tbl (ps:Array Value)
  |ext (φ:Heap->Prop)
noncomputable abbrev Hp:=Addr->Option HO
noncomputable def upd(H:Hp)(a:Addr)(o:HO):Hp:=λb=>if b=a then some o else H b
theorem bI{H:Hp}{a:Addr}{o:HO} : upd H a o a=some o:=by unfold upd;rw[ZY rfl]
theorem bK{H:Hp}{a b:Addr}{o:HO}(h:b≠a):upd H a o b=H b:=by unfold upd;rw[ZZ h]
theorem yZ{H:Hp}{a:Addr}{o u:HO} : upd (upd H a o) a u=upd H a u:=by
 funext b;unfold upd;split<;>rfl
theorem i_{H:Hp}{a b:Addr}{o u:HO}(h:H a=some o)(h':H b=some u)(d:o≠u):a≠b:=by
 intro e;subst e;rw[h]at h';exact d (Option.some.inj h')
theorem bH{H:Hp}{a b:Addr}{o:HO}(h:H a=some o)(h':H b=none):a≠b:=by
 intro e;subst e;rw[h]at h';cases h'
section
variable(P:Program)(w:World)
def eF(H:Hp)(h:Heap)(a:Addr):HO->Prop
 |.lst xs=>xs.length<=sizeLine/\∃(its:Ξ)(n:Nat),Vals xs its/\h.get? a=some { cls:=.type "list",data:=.seq its.toArray n }
 |.tup xs=>xs.length<=sizeLine/\∃its:Ξ,Vals xs its/\IsTup h a its.toArray
 |.dK kvs=>kvs.length<=sizeLine/\(a==sysModules)=false/\∃vs,KV kvs vs/\h.DictOf (mH P w) a vs
 |.set S n=>h.SetOf (intKind P w) a S n
 |.ins C dx fs=>H dx=some (.own a)/\fs.length<=1000/\dx≠a/\h.get? a=some (instObj C dx) /\
   ∃mA,h.Ns1 dx mA/\(∀f,zB (fs.lookup f) (mA f))/\PySem.Within mA (fs.map (·.1))
 |.own _=>∃o,h.get? a=some o
 |.xd fs=>∃mA,h.Ns1 a mA/\∀f,zB (fs.lookup f) (mA f)
 |.rng lo hi=>∃t u v,h.get? a=some { cls:=.type "range",data:=.fields #[.int lo t,.int hi u,.int 1 v] }
 |.frz o u=>h.get? a=some o/\eF H h a u
 |.tbl ps=>h.get? a=some { cls:=.none,data:=.fields ps }
 |.met f x=>h.get? a=some (methodObj (.ref f) (.ref x))
 |.ext φ=>φ h/\(∃o,h.get? a=some o)/\∀h1 h2:Heap,φ h1->(∀o,h1.get? a=some o->h2.get? a=some o)->φ h2
def HOk(H:Hp)(h:Heap):Prop:=∀a o,H a=some o->eF P w H h a o
end
section
variable{P:Program}{w:World}{H H':Hp}{h h':Heap}{a:Addr}{o:HO}
theorem eF.lt(x:eF P w H h a o):a<h.objs.size:=by
 cases o with
 |lst xs=>obtain⟨_,_,_,_,e⟩:=x;exact aJ e
 |tup xs=>obtain⟨_,_,_,p⟩:=x;exact p.lt
 |dK kvs=>obtain⟨_,_,_,_,o,_,_,e,_⟩:=x;exact aJ e
 |set S n=>obtain⟨o,_,_,_,e,_⟩:=x;exact aJ e
 |ins C dx fs=>obtain⟨_,_,_,e,_⟩:=x;exact aJ e
 |own y=>obtain⟨_,e⟩:=x;exact aJ e
 |xd fs=>obtain⟨_,⟨_,_,_,e,_⟩,_⟩:=x;exact aJ e
 |rng lo hi=>obtain⟨_,_,_,e⟩:=x;exact aJ e
 |frz ob u=>obtain⟨e,_⟩:=x;exact aJ e
 |tbl ps=>exact aJ (show h.get? a=some _ from x)
 |met f y=>exact aJ (show h.get? a=some _ from x)
 |ext φ=>obtain⟨_,⟨_,e⟩,_⟩:=x;exact aJ e
theorem eF.stay(x:eF P w H h a o)(k:∀b u,(b=a\/H b=some (.own a))->h.get? b=some u->h'.get? b=some u)
 (ho:∀b,H b=some (.own a)->H' b=some (.own a))(ht:∀b xs,H b=some (.tup xs)->H' b=some (.tup xs)):eF P w H' h' a o:=by
 induction o with
 |lst xs=>obtain⟨z,its,n,r,e⟩:=x;exact⟨z,its,n,r,k _ _ (.inl rfl) e⟩
 |tup xs=>obtain⟨z,its,r,ob,e,c⟩:=x;exact⟨z,its,r,ob,k _ _ (.inl rfl) e,c⟩
 |dK kvs=>obtain⟨z,y,vs,r,ob,es,ep,e,c⟩:=x;exact⟨z,y,vs,r,ob,es,ep,k _ _ (.inl rfl) e,c⟩
 |set S n=>obtain⟨ob,es,ep,t,e,c⟩:=x;exact⟨ob,es,ep,t,k _ _ (.inl rfl) e,c⟩
 |ins C dx fs =>
  obtain⟨d,z,ne,e,mA,⟨od,es,ep,e2,c⟩,r⟩:=x;exact⟨ho _ d,z,ne,k _ _ (.inl rfl) e,mA,⟨od,es,ep,k _ _ (.inr d) e2,c⟩,r⟩
 |own y=>obtain⟨ob,e⟩:=x;exact⟨ob,k _ _ (.inl rfl) e⟩
 |xd fs=>obtain⟨mA,⟨od,es,ep,e,c⟩,r⟩:=x;exact⟨mA,⟨od,es,ep,k _ _ (.inl rfl) e,c⟩,r⟩
 |rng lo hi=>obtain⟨t,u,v,e⟩:=x;exact⟨t,u,v,k _ _ (.inl rfl) e⟩
 |frz ob u ih=>obtain⟨e,q⟩:=x;exact⟨k _ _ (.inl rfl) e,ih q⟩
 |tbl ps =>
  have e:h.get? a=some { cls:=.none,data:=.fields ps }:=x;show h'.get? a=some { cls:=.none,data:=.fields ps };exact k a _ (.inl rfl) e
 |met f y =>
  have e:h.get? a=some (methodObj (.ref f) (.ref y)):=x;show h'.get? a=some (methodObj (.ref f) (.ref y));exact k a _ (.inl rfl) e
 |ext φ=>obtain⟨p,⟨o,e⟩,st⟩:=x;exact⟨st _ _ p λo q=>k _ _ (.inl rfl) q,⟨o,k _ _ (.inl rfl) e⟩,st⟩
theorem HOk.lt(x:HOk P w H h)(e:H a=some o):a<h.objs.size:=(x a o e).lt
theorem HOk.fresh(x:HOk P w H h)(e:h.objs.size<=a):H a=none:=by
 cases q:H a with
 |none=>rfl
 |some u=>exact absurd (aU (x.lt q) e) (X9 _)
theorem HOk.kept(x:HOk P w H h)(k:∀b u,h.get? b=some u->h'.get? b=some u):HOk P w H h':=λa o e =>
 (x a o e).stay (λb u _ q=>k b u q) (λ_ q=>q) λ_ _ q=>q
theorem HOk.laid(x:HOk P w H h)(k:∀b u,h.get? b=some u->h'.get? b=some u)(hp:h.objs.size<=a)(new:eF P w (upd H a o) h' a o):HOk P w (upd H a o) h':=λb u e=>by
 have hn:=x.fresh hp;by_cases hb:b=a
 .subst hb;rw[bI]at e;cases e;exact new
 .rw[bK hb]at e;exact(x b u e).stay (λc v _ q=>k c v q) (λc q=>by rw[bK (bH q hn)];exact q) λc xs q=>by rw[bK (bH q hn)];exact q
end
def Rd(H:Hp)(a:Addr)(u:HO):Prop:=H a=some u\/∃o,H a=some (.frz o u)
theorem Rd.ok{P:Program}{w:World}{H:Hp}{h:Heap}{a:Addr}{u:HO}(r:Rd H a u)(x:HOk P w H h):eF P w H h a u:=by
 rcases r with r|⟨o,r⟩
 .exact x a u r
 .obtain⟨_,q⟩:=x a _ r;exact q
def Mut:Option HO->Prop
 |some (.lst _)=>True
 |some (.dK _)=>True
 |some (.set _ _)=>True
 |some (.ins _ _ _)=>True
 |some (.ext _)=>True
 |_=>False
section
variable{P:Program}{w:World}{H:Hp}{h h':Heap}{x e:Addr}{o':HO}
theorem HOk.write(ok:HOk P w H h)(mu:Mut (H x))(he:e=x\/H e=some (.own x))(k:∀b u,b≠e->h.get? b=some u->h'.get? b=some u)(heo:∃u,h'.get? e=some u)
 (new:eF P w (upd H x o') h' x o'):HOk P w (upd H x o') h':=λb u q=>by
 have nown:∀c y,H c=some (.own y)->c≠x:=λc y r z=>by subst z;rw[r]at mu;exact mu
 have ntup:∀c xs,H c=some (.tup xs)->c≠x:=λc xs r z=>by subst z;rw[r]at mu;exact mu
 by_cases hb:b=x
 .subst hb;rw[bI]at q;cases q;exact new
 .rw[bK hb]at q;by_cases hbe:b=e
  .have q':H b=some (.own x):=by
    rcases he with z|z
    .exact absurd (hbe.trans z) hb
    .rw[hbe];exact z
   rw[q]at q';cases q';obtain⟨v,hv⟩:=heo;exact⟨v,by rw[hbe];exact hv⟩
  .refine(ok b u q).stay (λc v hc r=>k c v ?_ r) (λc r=>by rw[bK (nown c b r)];exact r) λc xs r=>by rw[bK (ntup c xs r)];exact r
   rcases hc with rfl|hc
   .exact hbe
   .rintro rfl;rcases he with z|z
    .exact nown c b hc z
    .rw[hc]at z;cases z;exact hb rfl
end
structure Un(fs ex:Ε)(H H':Hp)(h h':Heap):Prop where
 keep:∀b o,h.get? b=some o->H b=none->b∉fs->b∉ex->h'.get? b=some o
 slot:∀b o,h.get? b=some o->H b=none->b∈fs->b∉ex->∃sl,h'.get? b=some { o with slots:=sl }
 free:∀b o,h.get? b=some o->H b=none->b∉ex->H' b=none
 there:∀b o,h.get? b=some o->b∉ex->∃o',h'.get? b=some o'
 tups:∀b xs,H b=some (.tup xs)->H' b=some (.tup xs)
 frzs:∀b o u,H b=some (.frz o u)->H' b=some (.frz o u)
 tbls:∀b ps,H b=some (.tbl ps)->∃more,H' b=some (.tbl (ps++more))
section
variable{fs fs' ex ex':Ε}{H H1 H2:Hp}{h h1 h2 h':Heap}{a x e:Addr}{o:HO}
theorem Un.any(u:Un fs ex H H1 h h1){b:Addr}{ob:Obj}(q:h.get? b=some ob)(n:H b=none)(hx:b∉ex):∃sl,h1.get? b=some { ob with slots:=sl }:=by
 by_cases hb:b∈fs
 .exact u.slot b ob q n hb hx
 .exact⟨ob.slots,u.keep b ob q n hb hx⟩
theorem Un.kept(k:∀b u,h.get? b=some u->h'.get? b=some u):Un fs ex H H h h' :=
 ⟨λb ob q _ _ _=>k b ob q,λb ob q _ _ _=>⟨ob.slots,k b ob q⟩,λ_ _ _ n _=>n,λb ob q _=>⟨ob,k b ob q⟩,λ_ _ q=>q,λ_ _ _ q=>q,λ_ ps q=>⟨#[],by rw[q];simp⟩⟩
theorem Un.refl:Un fs ex H H h h:=Un.kept λ_ _ q=>q
theorem Un.laid(k:∀b u,h.get? b=some u->h'.get? b=some u)(hp:h.objs.size<=a)(hn:H a=none):Un fs ex H (upd H a o) h h' where
 keep:=λb u q _ _ _=>k b u q
 slot:=λb u q _ _ _=>⟨u.slots,k b u q⟩
 free:=λb u q n _=>by rw[bK (aR (aU (aJ q) hp))];exact n
 there:=λb u q _=>⟨u,k b u q⟩
 tups:=λb xs q=>by rw[bK (bH q hn)];exact q
 frzs:=λb u xs q=>by rw[bK (bH q hn)];exact q
 tbls:=λb ps q=>⟨#[],by rw[bK (bH q hn),q];simp⟩
theorem Un.write(mu:Mut (H x))(he:e=x\/H e=some (.own x))(k:∀b u,b≠e->h.get? b=some u->h'.get? b=some u)(heo:∃u,h'.get? e=some u):Un fs ex H (upd H x o) h h':=by
 have hx:∀b,H b=none->b≠x:=λb n z=>by subst z;rw[n]at mu;exact mu
 have hb:∀b,H b=none->b≠e:=λb n z=>by
  subst z;rcases he with r|r
  .exact hx b n r
  .rw[n]at r;cases r
 have hm:∀b u,H b=some u->¬Mut (some u)->b≠x:=λb u q nm z=>by subst z;rw[q]at mu;exact nm mu
 refine⟨λb u q n _ _=>k b u (hb b n) q,λb u q n _ _=>⟨u.slots,k b u (hb b n) q⟩,λb u q n _=>by rw[bK (hx b n)];exact n,λb u q _=>?_,
  λb xs q=>by rw[bK (hm b _ q λz=>z)];exact q,λb u xs q=>by rw[bK (hm b _ q λz=>z)];exact q,λb ps q=>⟨#[],by rw[bK (hm b _ q λz=>z),q];simp⟩⟩
 by_cases hbe:b=e
 .subst hbe;exact heo
 .exact⟨u,k b u hbe q⟩
end
noncomputable def trk(h:Heap)(H:Hp):Ε:=(List.range h.objs.size).filter λa=>(H a).isSome
def Af(h:Heap)(H:Hp):Heap:=hideAll h (trk h H)
theorem Lb(h:Heap)(H:Hp):(Af h H).objs.size=h.objs.size:=hideAll_size _ _
theorem Rj{h:Heap}{H:Hp}{b:Addr}{o:Obj}(e:h.get? b=some o)(n:H b=none):(Af h H).get? b=some o :=
 hideAll_get _ e λhm=>by
  have q:(H b).isSome=true:=(List.mem_filter.mp hm).2;rw[n]at q;simp at q
theorem WY{h:Heap}{H:Hp}{b:Addr}{o:Obj}(e:(Af h H).get? b=some o):h.get? b=some o/\H b=none:=by
 have e':h.get? b=some o:=of_hideAll (trk h H) e;refine⟨e',?_⟩;cases q:H b with
 |none=>rfl
 |some x =>
  have hm:b∈trk h H:=List.mem_filter.mpr ⟨List.mem_range.mpr (aJ e'),by simp[q]⟩;have z:(Af h H).get? b=none:=hideAll_none (trk h H) hm;rw[z]at e;cases e
noncomputable def adu(g h:Heap)(L:Addr):Ω:=(List.range h.objs.size).filterMap λa=>if a=L\/(g.get? a).isSome=true then none else(h.get? a).map λo=>(a,o)
def rest(g h:Heap)(L d:Addr):Ω:=(adu g h L).filter λp=>decide (p.1≠d)
structure Mod(K:Frag)(mg:Str->Ζ)(base:Heap):Prop where
 kin:K.In base
 glob:base.Ns mainGlobals mg
 blt:∃mb,base.Ns builtinsNs mb/\∀x:Str,x≠"__name__"->mb x=bootBuiltins x
 nolimit:base.NoLimit
structure Cx where
 prog:Program
 w:World
 K:Frag
 mg:Str->Ζ
 base:Heap
 A:Around
 N:Β
 s₀:Shared
 H₀:Hp
 env:Env
 outer:List Env
 stack:List Env
 ex:Ε
 fn:Str->Bool
 calm:Bool
 pn:Ω
 xe:Κ
noncomputable def frs(l:List Env):Ε:=l.filterMap (·.frame)
abbrev Cx.fs(X:Cx):Ε:=frs X.outer
def Vis(sc:Scope)(x:Str):Prop:=sc.names.lookup x=some .local\/sc.names.lookup x=some .cell\/sc.names.lookup x=some .free
def Loc(sc:Scope)(x:Str):Prop:=sc.names.lookup x=some .local\/sc.names.lookup x=some .cell
def Look(env:Env)(h:Heap)(m:Str->Ζ)(x:Str)(u:Value):Prop :=
 (env.kindOf x=some .local/\m x=some u)\/((env.kindOf x=some .cell\/env.kindOf x=some .free)/\∃c,env.cells.lookup x=some c/\h.IsCell c (some u))
structure Cx.Ok(X:Cx):Prop where
 mod:Mod X.K X.mg X.base
 kind:X.env.scope.kind=.function
 glob:X.env.globals=mainGlobals
 blt:X.env.builtins=builtinsNs
 above:X.s₀.heap.objs.size<=X.env.locals
 inj:∀x y c,X.env.cells.lookup x=some c->X.env.cells.lookup y=some c->x=y
 has:∀x,(X.env.kindOf x=some .cell\/X.env.kindOf x=some .free)->∃c,X.env.cells.lookup x=some c
 cab:∀x c,X.fn x=true->X.env.cells.lookup x=some c->X.s₀.heap.objs.size<=c
 hd:X.calm=true->X.A.handled=none
 frames:X.A.frames=some X.stack
 stk:X.stack=X.outer\/(X.stack=X.env::X.outer/\X.env.frame=some X.env.locals)
 exf:∀b∈X.ex,b≠X.env.locals/\∀x c,X.env.cells.lookup x=some c->c≠b
 bs:∀b o,X.base.get? b=some o->X.s₀.heap.get? b=some o/\X.H₀ b=none
 bsz:X.base.objs.size<=X.s₀.heap.objs.size
 noex:∀b o,X.base.get? b=some o->b∉X.ex
 exfs:∀b∈X.ex,b∉X.fs
 funs:X.s₀.heap.FunFrames X.base X.outer
 frf:∀b∈X.fs,X.H₀ b=none
structure Inv(X:Cx)(pins:Ω)(σ:List (Option V))(H:Hp)(s:Shared):Prop where
 ok:X.Ok
 os:s.os=X.s₀.os
 bare:AllBare s.gens
 base:Un X.fs X.ex X.H₀ H X.s₀.heap s.heap
 loc:∃m,s.heap.Ns X.env.locals m/\∀(i:Nat)(x:Str)(v:V),X.N[i]?=some x->σ[i]?=some (some v)->Vis X.env.scope x->∃u,RelV v u/\Look X.env s.heap m x u
 cell:∀x c,X.env.cells.lookup x=some c->∃v,s.heap.IsCell c v
 free:H X.env.locals=none
 freeC:∀x c,X.env.cells.lookup x=some c->H c=none
 pin:∀p∈X.pn++pins,s.heap.get? p.1=some p.2/\H p.1=none/\p.1≠X.env.locals/\p.1∉X.fs/\∀v,p.2.data≠.cell v
 hok:HOk X.prog X.w H s.heap
 len:σ.length=X.N.length
section
variable{X:Cx}{pins:Ω}{σ:List (Option V)}{H H':Hp}{s:Shared}{h':Heap}
theorem Cx.Ok.nofr(ok:X.Ok){b:Addr}{o:Obj}(e:X.base.get? b=some o):b∉X.fs:=λhb=>by
 have:=(ok.funs.mem hb).1;rw[e]at this;cases this
theorem Inv.bs(I:Inv X pins σ H s):∀b o,X.base.get? b=some o->s.heap.get? b=some o/\H b=none:=λb o e =>
 ⟨I.base.keep b o (I.ok.bs b o e).1 (I.ok.bs b o e).2 (I.ok.nofr e) (I.ok.noex b o e),I.base.free b o (I.ok.bs b o e).1 (I.ok.bs b o e).2 (I.ok.noex b o e)⟩
theorem Inv.bk(I:Inv X pins σ H s):∀b o,X.base.get? b=some o->s.heap.get? b=some o:=λb o e=>(I.bs b o e).1
theorem Inv.mod(I:Inv X pins σ H s):Mod X.K X.mg X.base:=I.ok.mod
theorem Inv.kIn(I:Inv X pins σ H s):X.K.In s.heap:=I.ok.mod.kin.keeps I.bk
theorem Inv.fr(I:Inv X pins σ H s):∃m,Fr X.base X.env.locals s.heap m :=
 let⟨m,hn,_⟩:=I.loc
 ⟨m,hn,I.bk,aM I.ok.bsz I.ok.above⟩
theorem Inv.lt(I:Inv X pins σ H s):X.env.locals<s.heap.objs.size:=by obtain⟨_,hn,_⟩:=I.loc;exact hn.lt
theorem Inv.sz(I:Inv X pins σ H s):X.s₀.heap.objs.size<=s.heap.objs.size:=aM I.ok.above (Nat.le_of_lt I.lt)
theorem Inv.nofs(I:Inv X pins σ H s){a:Addr}(h:s.heap.objs.size<=a):a∉X.fs:=λhb=>by
 obtain⟨_,o,ho,_⟩:=I.ok.funs.mem hb;exact absurd (aU (aJ ho) (aM I.sz h)) (X9 _)
theorem Inv.cne(I:Inv X pins σ H s):∀x c,X.env.cells.lookup x=some c->c≠X.env.locals:=λx c e z=>by
 obtain⟨v,o,ho,hd⟩:=I.cell x c e;obtain⟨m,⟨o',es,ep,ho',hd',_⟩,_⟩:=I.loc;rw[z,ho']at ho;cases ho;rw[hd']at hd;cases hd
theorem Inv.funs(I:Inv X pins σ H s):s.heap.FunFrames X.base X.outer:=by
 have all:∀(l:List Env),(∀b∈frs l,b∈X.fs)->X.s₀.heap.FunFrames X.base l->s.heap.FunFrames X.base l:=by
  intro l
  induction l with
  |nil=>intro _ _;trivial
  |cons env r ih =>
   intro hs hl;obtain⟨hk,⟨L,o,hf,hn,ho,hd⟩,hr⟩:=hl;have hL:L∈X.fs:=hs L (by unfold frs;rw[List.filterMap_cons,hf];exact aO);obtain⟨sl,e⟩:=I.base.slot L o ho (I.ok.frf L hL) hL λz=>I.ok.exfs L z hL;exact⟨hk,⟨L,_,hf,hn,e,hd⟩,ih (λb hb=>hs b (by unfold frs;rw[List.filterMap_cons,hf];exact aH _ hb)) hr⟩
 exact all X.outer (λ_ hb=>hb) I.ok.funs
theorem Inv.stack(I:Inv X pins σ H s):s.heap.FunFrames X.base X.stack:=by
 rcases I.ok.stk with e|⟨e,hf⟩
 .rw[e];exact I.funs
 .rw[e];obtain⟨m,hn,_⟩:=I.loc;refine .cons (by rw[I.ok.kind];decide) hf hn ?_ I.funs;exact Heap.get?_none_of_le (aM I.ok.bsz I.ok.above)
theorem Inv.stkSub(I:Inv X pins σ H s):∀b∈frs X.stack,b∈X.env.locals::X.fs:=λb hb=>by
 rcases I.ok.stk with e|⟨e,hf⟩
 .rw[e]at hb;exact aH _ hb
 .rw[e]at hb;unfold frs at hb;rw[List.filterMap_cons,hf]at hb;exact hb
theorem Inv.stkFree(I:Inv X pins σ H s):∀b∈frs X.stack,H b=none:=λb hb=>by
 rcases YU.mp (I.stkSub b hb)with e|hb
 .rw[e];exact I.free
 .obtain⟨_,o,ho,_⟩:=I.ok.funs.mem hb;exact I.base.free b o ho (I.ok.frf b hb) λz=>I.ok.exfs b z hb
theorem Inv.step{g':Array GenState}{t':Nat}{d':Drawn}{ch:Ε}(I:Inv X pins σ H s)
 (hch:∀b∈ch,(b∈X.ex\/X.s₀.heap.objs.size<=b)/\b≠X.env.locals/\(∀x c,X.env.cells.lookup x=some c->c≠b)/\∀p∈X.pn++pins,p.1≠b)
 (keep:∀b o,b≠X.env.locals->b∉X.fs->b∉ch->s.heap.get? b=some o->H b=none->h'.get? b=some o)
 (slot:∀b o,b≠X.env.locals->b∈X.fs->b∉ch->s.heap.get? b=some o->H b=none->∃sl,h'.get? b=some { o with slots:=sl })(free:∀b o,b∉ch->s.heap.get? b=some o->H b=none->H' b=none)
 (there:∀b o,b∉ch->s.heap.get? b=some o->∃o',h'.get? b=some o')
 (tups:∀b xs,H b=some (.tup xs)->H' b=some (.tup xs))(frzs:∀b o u,H b=some (.frz o u)->H' b=some (.frz o u))(tbls:∀b ps,H b=some (.tbl ps)->∃more,H' b=some (.tbl (ps++more)))
 (ns:∀m,s.heap.Ns X.env.locals m->h'.Ns X.env.locals m)(hok:HOk X.prog X.w H' h')(hg:AllBare g') :
  Inv X pins σ H' { s with heap:=h',gens:=g',drawn:=d',toks:=t' }:=by
 have neL:∀b o,X.s₀.heap.get? b=some o->b≠X.env.locals:=λb o e=>aR (aU (aJ e) I.ok.above);have neC:∀b o,X.s₀.heap.get? b=some o->b∉X.ex->b∉ch:=λb o e hx hb=>by
  rcases(hch b hb).1 with z|z
  .exact hx z
  .exact absurd (aU (aJ e) z) (X9 _)
 have cellK:∀x c,X.env.cells.lookup x=some c->∀v,s.heap.IsCell c v->h'.IsCell c v:=λx c e v ⟨o,ho,hd⟩=>by
  have nch:c∉ch:=λz=>(hch c z).2.2.1 x c e rfl;by_cases hc:c∈X.fs
  .obtain⟨sl,q⟩:=slot c o (I.cne x c e) hc nch ho (I.freeC x c e);exact⟨_,q,hd⟩
  .exact⟨o,keep c o (I.cne x c e) hc nch ho (I.freeC x c e),hd⟩
 refine⟨I.ok,I.os,hg,⟨λb o e n hb hx=>?_,λb o e n hb hx=>?_,λb o e n hx=>?_,λb o e hx=>?_,λb xs e=>tups b xs (I.base.tups b xs e),λb o xs e=>frzs b o xs (I.base.frzs b o xs e),λb ps e=>?_⟩,?_,λx c e=>?_,?_,λx c e=>?_,λp hp=>?_,hok,I.len⟩
 .exact keep b o (neL b o e) hb (neC b o e hx) (I.base.keep b o e n hb hx) (I.base.free b o e n hx)
 .obtain⟨sl,e1⟩:=I.base.slot b o e n hb hx;obtain⟨sl',e2⟩:=slot b _ (neL b o e) hb (neC b o e hx) e1 (I.base.free b o e n hx);exact⟨sl',e2⟩
 .obtain⟨o',e1⟩:=I.base.there b o e hx;exact free b o' (neC b o e hx) e1 (I.base.free b o e n hx)
 .obtain⟨o',e1⟩:=I.base.there b o e hx;exact there b o' (neC b o e hx) e1
 .obtain⟨m1,e1⟩:=I.base.tbls b ps e;obtain⟨m2,e2⟩:=tbls b _ e1;exact⟨m1++m2,by rw[e2,Array.append_assoc]⟩
 .obtain⟨m,hn,hl⟩:=I.loc;refine⟨m,ns m hn,λi x v e1 e2 e3=>?_⟩;obtain⟨u,r,l⟩:=hl i x v e1 e2 e3;refine⟨u,r,?_⟩;rcases l with l|⟨k,c,e,z⟩
  .exact .inl l
  .exact .inr ⟨k,c,e,cellK x c e _ z⟩
 .obtain⟨v,z⟩:=I.cell x c e;exact⟨v,cellK x c e v z⟩
 .obtain⟨m,⟨o,_,_,ho,_⟩,_⟩:=I.loc;exact free _ o (λz=>(hch _ z).2.1 rfl) ho I.free
 .obtain⟨v,o,ho,hd⟩:=I.cell x c e;exact free c o (λz=>(hch c z).2.2.1 x c e rfl) ho (I.freeC x c e)
 .obtain⟨e,n,ne,nf,d⟩:=I.pin p hp;have nch:p.1∉ch:=λz=>(hch p.1 z).2.2.2 p hp rfl;exact⟨keep p.1 p.2 ne nf nch e n,free p.1 p.2 nch e n,ne,nf,d⟩
theorem Inv.un{t':Nat}(I:Inv X pins σ H s)(u:Un X.fs [] H H' s.heap h')(hok:HOk X.prog X.w H' h'):Inv X pins σ H' { s with heap:=h',toks:=t' }:=by
 obtain⟨m,⟨o,es,ep,ho,r⟩,_⟩:=id I.loc;obtain⟨sl,hL⟩:=u.any ho I.free (by simp);exact I.step (g':=s.gens) (d':=s.drawn) (ch:=[]) (λ_ z=>nomatch z) (λb o _ hb _ e n=>u.keep b o e n hb (by simp)) (λb o _ hb _ e n=>u.slot b o e n hb (by simp)) (λb o _ e n=>u.free b o e n (by simp)) (λb o _ e=>u.there b o e (by simp)) u.tups u.frzs u.tbls (λm' hm=>by
  obtain⟨o',es',ep',ho',r'⟩:=hm;rw[ho]at ho';cases ho';exact⟨_,es',ep',hL,r'⟩) hok I.bare
theorem Inv.call{g':Array GenState}{t':Nat}{d':Drawn}{ch:Ε}(I:Inv X pins σ H s)(u:Un (frs X.stack) ch H H' s.heap h')(hok:HOk X.prog X.w H' h')(hg:AllBare g')
 (hch:∀b∈ch,(b∈X.ex\/X.s₀.heap.objs.size<=b)/\b≠X.env.locals/\(∀x c,X.env.cells.lookup x=some c->c≠b)/\∀p∈X.pn++pins,p.1≠b) :
  Inv X pins σ H' { s with heap:=h',gens:=g',drawn:=d',toks:=t' }:=by
 obtain⟨m,⟨o,es,ep,ho,r⟩,_⟩:=id I.loc;obtain⟨sl,hL⟩:=u.any ho I.free λz=>(hch _ z).2.1 rfl;exact I.step (ch:=ch) hch (λb o hL hb hc e n=>u.keep b o e n (λz=>(YU.mp (I.stkSub b z)).elim hL hb) hc) (λb o _ _ hc e n=>u.any e n hc) (λb o hc e n=>u.free b o e n hc) (λb o hc e=>u.there b o e hc) u.tups u.frzs u.tbls (λm' hm=>by
  obtain⟨o',es',ep',ho',r'⟩:=hm;rw[ho]at ho';cases ho';exact⟨_,es',ep',hL,r'⟩) hok hg
theorem Inv.turned{t':Nat}{it:Addr}(I:Inv X pins σ H s)(k:∀b o,b≠it->s.heap.get? b=some o->h'.get? b=some o)(hn:H it=none)(hL:it≠X.env.locals)
 (h1:it∈X.ex\/X.s₀.heap.objs.size<=it)(h2:∀x c,X.env.cells.lookup x=some c->c≠it)(h3:∀p∈X.pn++pins,p.1≠it):Inv X pins σ H { s with heap:=h',toks:=t' }:=by
 have nit:∀b u,H b=some u->b≠it:=λb u e z=>by rw[z,hn]at e;cases e
 refine I.step (g':=s.gens) (d':=s.drawn) (ch:=[it]) (λb hb=>?_) (λb o _ _ hc e _=>k b o (λz=>hc (by simp[z])) e) (λb o _ _ hc e _=>⟨o.slots,k b o (λz=>hc (by simp[z])) e⟩) (λ_ _ _ _ n=>n)
  (λb o hc e=>⟨o,k b o (λz=>hc (by simp[z])) e⟩) (λ_ _ e=>e) (λ_ _ _ e=>e) (λb ps e=>⟨#[],by rw[e];simp⟩) (λm hm=>?_) (λb u e=>?_) I.bare
 .have e:b=it:=by simpa using hb
  subst e;exact⟨h1,hL,h2,h3⟩
 .obtain⟨o,es,ep,ho,r⟩:=hm;exact⟨o,es,ep,k _ o (Ne.symm hL) ho,r⟩
 .refine(I.hok b u e).stay (λc v hc q=>k c v ?_ q) (λ_ q=>q) λ_ _ q=>q;rcases hc with z|z
  .rw[z];exact nit b u e
  .exact nit c _ z
theorem Inv.tok(I:Inv X pins σ H s)(t:Nat):Inv X pins σ H { s with toks:=t }:=I.un (h':=s.heap) (t':=t) Un.refl I.hok
theorem Inv.kept{t':Nat}(I:Inv X pins σ H s)(k:∀b u,s.heap.get? b=some u->h'.get? b=some u):Inv X pins σ H { s with heap:=h',toks:=t' }:=I.un (Un.kept k) (I.hok.kept k)
theorem Inv.laid{a:Addr}{o:HO}{t':Nat}(I:Inv X pins σ H s)(k:∀b u,s.heap.get? b=some u->h'.get? b=some u)(hp:s.heap.objs.size<=a)(new:eF X.prog X.w (upd H a o) h' a o) :
  Inv X pins σ (upd H a o) { s with heap:=h',toks:=t' }:=I.un (Un.laid k hp (I.hok.fresh hp)) (I.hok.laid k hp new)
theorem Inv.write{x e:Addr}{o:HO}{t':Nat}(I:Inv X pins σ H s)(mu:Mut (H x))(he:e=x\/H e=some (.own x))(k:∀b u,b≠e->s.heap.get? b=some u->h'.get? b=some u)(heo:∃u,h'.get? e=some u)
 (new:eF X.prog X.w (upd H x o) h' x o):Inv X pins σ (upd H x o) { s with heap:=h',toks:=t' }:=I.un (Un.write mu he k heo) (I.hok.write mu he k heo new)
theorem Inv.pins_of{pins':Ω}(I:Inv X pins σ H s)(h:∀p∈pins',s.heap.get? p.1=some p.2/\H p.1=none/\p.1≠X.env.locals/\p.1∉X.fs/\∀v,p.2.data≠.cell v):Inv X pins' σ H s :=
 ⟨I.ok,I.os,I.bare,I.base,I.loc,I.cell,I.free,I.freeC,λp hp=>(Y1.mp hp).elim (λz=>I.pin p (List.mem_append_left _ z)) (h p),I.hok,I.len⟩
theorem uz{N:Β}(hN:N.Nodup){i j:Nat}{x:Str}(a:N[i]?=some x)(b:N[j]?=some x):i=j:=by
 obtain⟨h1,e1⟩:=ao.mp a;obtain⟨h2,e2⟩:=ao.mp b;exact(List.getElem_inj hN).mp (e1.trans e2.symm)
theorem Xh{M:Model}{A:Around}{E:Κ}{i:Nat}{x:Str}{v:V}{u:Value}{Q:Unit->Shared->Prop}(I:Inv X pins σ H s)(hN:X.N.Nodup)(hi:X.N[i]?=some x)(hx:Loc X.env.scope x)(r:RelV v u)
 (h:∀s',Inv X pins (σ.set i (some v)) H s'->(∃a,Heap.SameBut a s.heap s'.heap/\(a=X.env.locals\/X.env.cells.lookup x=some a))->Q () s')(hf:X.fn x=true\/X.env.scope.names.lookup x=some .local):wpAny M A (storeName X.env x u) Q E s:=by
 obtain⟨m,hn,hl⟩:=id I.loc;have hcls:(X.env.scope.kind == .class || (X.env.scope.kind == .module&&X.env.locals != X.env.globals))=false:=by rw[I.ok.kind];rfl
 have hiσ:i<σ.length:=by rw[I.len];exact(ao.mp hi).1
 have cne:=I.cne;have tracked:∀{a:Addr}{h':Heap},(∃o,s.heap.get? a=some o/\H a=none)->Heap.SameBut a s.heap h'->HOk X.prog X.w H h':=λ{a h'}ha hs b ob e=>by
  obtain⟨_,_,hfree⟩:=ha;refine(I.hok b ob e).stay (λc w' hc q=>(hs.2 c ?_).trans q) (λ_ q=>q) λ_ _ q=>q;rintro rfl;rcases hc with rfl|hc
  .rw[hfree]at e;cases e
  .rw[hfree]at hc;cases hc
 rcases hx with hk|hk
 .refine wpAny_storeName_local hk hn (λh' hn' hs=>?_) hcls;obtain⟨oL,_,_,hoL,_⟩:=id hn;refine h _ ⟨I.ok,I.os,I.bare,⟨λb o e n hb hx=>?_,λb o e n hb hx=>?_,I.base.free,λb o e hx=>?_,I.base.tups,I.base.frzs,I.base.tbls⟩,⟨_,hn',λj y v' e1 e2 e3=>?_⟩,λy c e=>?_,I.free,I.freeC,λp hp=>?_,tracked ⟨oL,hoL,I.free⟩ hs,by simpa using I.len⟩ ⟨_,hs,.inl rfl⟩
  .exact(hs.2 b (aR (aU (aJ e) I.ok.above))).trans (I.base.keep b o e n hb hx)
  .obtain⟨sl,e1⟩:=I.base.slot b o e n hb hx;exact⟨sl,(hs.2 b (aR (aU (aJ e) I.ok.above))).trans e1⟩
  .obtain⟨o',e1⟩:=I.base.there b o e hx;exact⟨o',(hs.2 b (aR (aU (aJ e) I.ok.above))).trans e1⟩
  .by_cases hj:j=i
   .subst hj;rw[hi]at e1;cases e1;rw[List.getElem?_set_self hiσ]at e2;cases e2;exact⟨u,r,.inl ⟨hk,by simp⟩⟩
   .rw[List.getElem?_set_ne (Ne.symm hj)]at e2;obtain⟨u',r',q⟩:=hl j y v' e1 e2 e3;refine⟨u',r',?_⟩;rcases q with⟨k,e⟩|⟨k,c,e,z⟩
    .refine .inl ⟨k,?_⟩;have:y≠x:=λe=>hj (uz hN e1 (e ▸ hi));simp[this,e]
    .exact .inr ⟨k,c,e,z.sameBut hs (cne y c e)⟩
  .obtain⟨w',z⟩:=I.cell y c e;exact⟨w',z.sameBut hs (cne y c e)⟩
  .obtain⟨e,n,ne,nf,d⟩:=I.pin p hp;exact⟨(hs.2 p.1 ne).trans e,n,ne,nf,d⟩
 .have hfn:X.fn x=true:=by
   rcases hf with z|z
   .exact z
   .rw[z]at hk;cases hk
  obtain⟨c,hc⟩:=I.ok.has x (.inl hk);obtain⟨w',z⟩:=I.cell x c hc;refine wpAny_storeName_cell I.ok.kind hk hc z (λh' hc' hs=>?_);obtain⟨oc,hoc,hocd⟩:=id z;refine h { s with heap:=h' } ⟨I.ok,I.os,I.bare,⟨λb o e n hb hx=>?_,λb o e n hb hx=>?_,I.base.free,λb o e hx=>?_,I.base.tups,I.base.frzs,I.base.tbls⟩,⟨m,hn.sameBut hs (Ne.symm (cne x c hc)),λj y v' e1 e2 e3=>?_⟩,λy c' e=>?_,I.free,I.freeC,λp hp=>?_,tracked ⟨oc,hoc,I.freeC x c hc⟩ hs,by simpa using I.len⟩ ⟨c,hs,.inr hc⟩
  .exact(hs.2 b (aR (aU (aJ e) (I.ok.cab x c hfn hc)))).trans (I.base.keep b o e n hb hx)
  .obtain⟨sl,e1⟩:=I.base.slot b o e n hb hx;exact⟨sl,(hs.2 b (aR (aU (aJ e) (I.ok.cab x c hfn hc)))).trans e1⟩
  .obtain⟨o',e1⟩:=I.base.there b o e hx;exact⟨o',(hs.2 b (aR (aU (aJ e) (I.ok.cab x c hfn hc)))).trans e1⟩
  .by_cases hj:j=i
   .subst hj;rw[hi]at e1;cases e1;rw[List.getElem?_set_self hiσ]at e2;cases e2;exact⟨u,r,.inr ⟨.inl hk,c,hc,hc'⟩⟩
   .rw[List.getElem?_set_ne (Ne.symm hj)]at e2;obtain⟨u',r',q⟩:=hl j y v' e1 e2 e3;refine⟨u',r',?_⟩;rcases q with q|⟨k,c',e,z'⟩
    .exact .inl q
    .refine .inr ⟨k,c',e,z'.sameBut hs ?_⟩;rintro rfl;exact hj (uz hN e1 (I.ok.inj _ _ _ e hc ▸ hi))
  .by_cases hcc:c'=c
   .subst hcc;exact⟨_,hc'⟩
   .obtain⟨w2,z2⟩:=I.cell y c' e;exact⟨w2,z2.sameBut hs hcc⟩
  .obtain⟨e,n,ne,nf,d⟩:=I.pin p hp;refine⟨(hs.2 p.1 ?_).trans e,n,ne,nf,d⟩;intro q;rw[q,hoc]at e;have q':oc=p.2:=Option.some.inj e;exact d w' (by rw[<- q'];exact hocd)
theorem vV{M:Model}{A:Around}{E:Κ}{i:Nat}{x:Str}{v:V}{u:Value}{Q:Unit->Shared->Prop}(I:Inv X pins σ H s)(hN:X.N.Nodup)(hi:X.N[i]?=some x)(hx:Loc X.env.scope x)(r:RelV v u)
 (h:∀s',Inv X pins (σ.set i (some v)) H s'->Q () s')(hf:X.fn x=true\/X.env.scope.names.lookup x=some .local:=by first|exact .inl rfl|exact .inr rfl|assumption):wpAny M A (storeName X.env x u) Q E s :=
 Xh I hN hi hx r (λs' I' _=>h s' I') hf
theorem Inv.call'{s':Shared}{ch:Ε}(I:Inv X pins σ H s)(ho:s'.os=s.os)(u:Un (frs X.stack) ch H H' s.heap s'.heap)(hok:HOk X.prog X.w H' s'.heap)(hg:AllBare s'.gens)
 (hch:∀b∈ch,(b∈X.ex\/X.s₀.heap.objs.size<=b)/\b≠X.env.locals/\(∀x c,X.env.cells.lookup x=some c->c≠b)/\∀p∈X.pn++pins,p.1≠b):Inv X pins σ H' s':=by
 obtain⟨h',g',d',t',o'⟩:=s';have e:o'=s.os:=ho;subst e;exact I.call (g':=g') (t':=t') (d':=d') u hok hg hch
end
abbrev XK:=Value->Η->Hp->Prop
noncomputable abbrev St:=List (Option V)
abbrev VK:=V->Hp->Prop
abbrev TE:=St->Hp->VK->Prop
abbrev TT:=St->Hp->(Bool->Hp->Prop)->Prop
abbrev TA:=St->Hp->(Μ->Hp->Prop)->Prop
structure Ends where
 nx:St->Hp->Prop
 rt:VK
 bk:St->Hp->Prop:=λ_ _=>False
 ct:St->Hp->Prop:=λ_ _=>False
abbrev TS:=Ends->St->Hp->Prop
def EP(X:Cx)(pins:Ω)(σ:St)(Q:VK)(u:Value)(s':Shared):Prop:=∃v H',Inv X pins σ H' s'/\RelV v u/\Q v H'
def TP(X:Cx)(pins:Ω)(σ:St)(Q:Bool->Hp->Prop)(b:Bool)(s':Shared):Prop:=∃H',Inv X pins σ H' s'/\Q b H'
def AP(X:Cx)(pins:Ω)(σ:St)(Q:Μ->Hp->Prop)(us:Ξ)(s':Shared):Prop:=∃vs H',Inv X pins σ H' s'/\Vals vs us/\Q vs H'
def SP(X:Cx)(pins:Ω)(D:Ends)(f:Flow)(s':Shared):Prop :=
 match f with
 |.next=>∃σ' H',Inv X pins σ' H' s'/\D.nx σ' H'
 |.brk=>∃σ' H',Inv X pins σ' H' s'/\D.bk σ' H'
 |.cont=>∃σ' H',Inv X pins σ' H' s'/\D.ct σ' H'
 |.ret u=>∃v σ' H',Inv X pins σ' H' s'/\RelV v u/\D.rt v H'
def PE(X:Cx)(e:Expr)(t:TE):Prop :=
 ∀(pins:Ω)(s:Shared)(σ:St)(H:Hp)(Q:VK),Inv X pins σ H s->t σ H Q->wpAny (model X.prog X.w) X.A (eval e X.env) (EP X pins σ Q) X.xe s
def PT(X:Cx)(e:Expr)(t:TT):Prop :=
 ∀(pins:Ω)(s:Shared)(σ:St)(H:Hp)(Q:Bool->Hp->Prop),Inv X pins σ H s->t σ H Q->wpAny (model X.prog X.w) X.A (isTrue e X.env (eval e X.env)) (TP X pins σ Q) X.xe s
def PW(X:Cx)(e:Expr)(t:TT):Prop :=
 ∀(whole:Sem Value)(pins:Ω)(s:Shared)(σ:St)(H:Hp)(Q:Bool->Hp->Prop),Inv X pins σ H s->t σ H Q->wpAny (model X.prog X.w) X.A (isTrue e X.env whole) (TP X pins σ Q) X.xe s
theorem PW.pt{X:Cx}{e:Expr}{t:TT}(h:PW X e t):PT X e t:=h _
def PA(X:Cx)(es:List Expr)(t:TA):Prop :=
 ∀(pos:Pos)(pins:Ω)(s:Shared)(σ:St)(H:Hp)(Q:Μ->Hp->Prop),Inv X pins σ H s->t σ H Q->wpAny (model X.prog X.w) X.A (spliced (backTo pos (starEach es X.env))) (AP X pins σ Q) X.xe s
def PS(X:Cx)(st:Stmt)(t:TS):Prop :=
 ∀(pins:Ω)(s:Shared)(σ:St)(H:Hp)(D:Ends),Inv X pins σ H s->t D σ H->wpAny (model X.prog X.w) X.A (exec st X.env) (SP X pins D) X.xe s
def PSs(X:Cx)(st:List Stmt)(t:TS):Prop :=
 ∀(pins:Ω)(s:Shared)(σ:St)(H:Hp)(D:Ends),Inv X pins σ H s->t D σ H->wpAny (model X.prog X.w) X.A (execs st X.env) (SP X pins D) X.xe s
theorem thn{α:Type}{t:Sem α}{Q Q':α->Shared->Prop}{M:Model}{A:Around}{E:Κ}{s:Shared}(h:wpAny M A t Q E s)(hQ:∀a s,Q a s->Q' a s):wpAny M A t Q' E s:=wpAny_mono h hQ λ_ _ x=>x
section
variable{X:Cx}
def Jd(i:Nat):TE:=λσ H Q=>∃v,σ[i]?=some (some v)/\Q v H
def tC(v:V):TE:=λ_ H Q=>Q v H
theorem ae8{i:Nat}{x:Str}{pos:Pos}(hN:X.N[i]?=some x)(hv:Vis X.env.scope x)(hd:(x==("__debug__":Str))=false:=by decide)(hcd:(x==("__classdict__":Str))=false:=by decide):PE X (.Name x pos) (Jd i):=by
 intro pins s σ H Q I h;obtain⟨v,e,h⟩:=h;obtain⟨m,hn,hl⟩:=I.loc;obtain⟨u,r,l⟩:=hl i x v hN e hv;have fin:EP X pins σ Q u s:=⟨v,H,I,r,h⟩;rcases l with⟨hk,hm⟩|⟨hk,c,hc,hcell⟩
 .exact wpAny_Name (wpAny_loadName_local I.ok.kind hk hn hm fin) hd
 .rcases hk with hk|hk
  .exact wpAny_Name (wpAny_loadName_cell I.ok.kind hk hc hcell fin) hd
  .exact wpAny_Name (wpAny_loadName_free I.ok.kind hk hc hcell fin hcd) hd
theorem bG{i j pos} : PE X (.Constant (.int i) j pos) (tC (.int i)):=λ_ _ _ H _ I h=>wpAny_Constant_int ⟨.int i,H,I.tok _,⟨_,rfl⟩,h⟩
theorem fU{b j pos} : PE X (.Constant (.bool b) j pos) (tC (.bl b)):=λ_ _ _ H _ I h=>Constant_bool ⟨.bl b,H,I,rfl,h⟩
theorem mX{j pos} : PE X (.Constant .none j pos) (tC .non):=λ_ _ _ H _ I h=>Constant_none ⟨.non,H,I,rfl,h⟩
theorem mQ{x j pos} : PE X (.Constant (.str x) j pos) (tC (.str x)):=λ_ _ _ H _ I h=>Calls.Constant_str ⟨.str x,H,I.tok _,⟨_,rfl⟩,h⟩
def Gl(X:Cx)(x:Str):Prop:=X.env.kindOf x=some .globalImplicit
theorem sG{E:Κ}{pins:Ω}{s:Shared}{σ:St}{H:Hp}{x:Str}{u:Value}{pos:Pos}{Q:Κ}(I:Inv X pins σ H s)(hg:Gl X x)(hm:X.mg x=some u)(h:Q u s)
 (hd:(x==("__debug__":Str))=false:=by decide):wpAny (model X.prog X.w) X.A (eval (.Name x pos) X.env) Q E s :=
 Calls.Name_function_global I.ok.kind hg (Calls.loadGlobal_global (by rw[I.ok.glob];exact I.mod.glob.keeps I.bk) hm h) hd
theorem D_{E:Κ}{pins:Ω}{s:Shared}{σ:St}{H:Hp}{x:Str}{u:Value}{pos:Pos}{Q:Κ}(I:Inv X pins σ H s)(hg:Gl X x)(hm:X.mg x=none)(hv:bootBuiltins x=some u)(h:Q u s)
 (hn:x≠"__name__":=by decide)(hd:(x==("__debug__":Str))=false:=by decide):wpAny (model X.prog X.w) X.A (eval (.Name x pos) X.env) Q E s:=by
 obtain⟨mb,h1,h2⟩:=I.mod.blt;exact Calls.Name_function_global I.ok.kind hg (Calls.loadGlobal_builtin (by rw[I.ok.glob];exact I.mod.glob.keeps I.bk) hm (by rw[I.ok.blt];exact h1.keeps I.bk) ((h2 x hn).trans hv) h) hd
theorem MF{x:Str}{v:V}{u:Value}{pos:Pos}(hg:Gl X x)(hm:X.mg x=some u)(r:RelV v u)(hd:(x==("__debug__":Str))=false:=by decide):PE X (.Name x pos) (tC v) :=
 λ_ _ _ H _ I h=>sG I hg hm ⟨v,H,I,r,h⟩ hd
theorem je{x:Str}{v:V}{u:Value}{pos:Pos}(hg:Gl X x)(hm:X.mg x=none)(hv:bootBuiltins x=some u)(r:RelV v u)(hn:x≠"__name__":=by decide)(hd:(x==("__debug__":Str))=false:=by decide):PE X (.Name x pos) (tC v) :=
 λ_ _ _ H _ I h=>D_ I hg hm hv ⟨v,H,I,r,h⟩ hn hd
variable{a b:Expr}{ta tb:TE}{pos:Pos}
def PC(X:Cx)(op:CmpOp)(a b:Expr)(t:TE):Prop :=
 ∀(pins:Ω)(s:Shared)(σ:St)(H:Hp)(Q:VK),Inv X pins σ H s->t σ H Q ->
  wpAny (model X.prog X.w) X.A (eval a X.env) (λv s₁=>wpAny (model X.prog X.w) X.A (eval b X.env) (λu s₂=>wpAny (model X.prog X.w) X.A (compareOp op v u) (EP X pins σ Q) X.xe s₂) X.xe s₁) X.xe s
def tB(t:TE):TT:=λσ H Q=>t σ H λx H1=>∃c,x=.bl c/\Q c H1
theorem Tv{op:CmpOp}{t:TE}(h:PC X op a b t)(h1:behindInMarks op b=false:=by rfl):PT X (.Compare a [op] [b] pos) (tB t):=by
 intro pins s σ H Q I hw;refine wpAny_isTrue_Compare1 (thn (h pins s σ H _ I hw) λv s1 h1=>thn h1 λu s2 h2=>thn h2 λc s3 hP=>?_) h1;obtain⟨x,H1,I1,r1,q1⟩:=hP;obtain⟨d,rfl,q⟩:=q1;cases r1;exact wpAny_truthy_bool ⟨H1,I1,q⟩
variable{tA tB':TT}{rest:List Expr}
def abl(t u:TT):TT:=λσ H Q=>t σ H λc H1=>if c=true then u σ H1 Q else Q false H1
def tOr(t u:TT):TT:=λσ H Q=>t σ H λc H1=>if c=true then Q true H1 else u σ H1 Q
def aay(t:TT):TT:=λσ H Q=>t σ H λc H1=>Q (!c) H1
theorem pw_and1(ha:PT X a tA):PW X (.BoolOp .And [a] pos) tA:=by
 intro wh pins s σ H Q I h;refine isTrue_and (thn (ha pins s σ H Q I h) λc s1 e=>?_);cases c with
 |true=>exact isTrue_and_nil e
 |false=>exact e
theorem pw_or1(ha:PT X a tA):PW X (.BoolOp .Or [a] pos) tA:=by
 intro wh pins s σ H Q I h;refine isTrue_or (thn (ha pins s σ H Q I h) λc s1 e=>?_);cases c with
 |false=>exact isTrue_or_nil e
 |true=>exact e
theorem pw_and(ha:PT X a tA)(hb:PW X (.BoolOp .And (b::rest) pos) tB'):PW X (.BoolOp .And (a::b::rest) pos) (abl tA tB'):=by
 intro wh pins s σ H Q I h;refine isTrue_and (thn (ha pins s σ H _ I h) λc s1 hP=>?_);obtain⟨H1,I1,q1⟩:=hP;cases c with
 |true=>exact hb wh pins s1 σ H1 Q I1 q1
 |false=>exact⟨H1,I1,q1⟩
theorem pw_or(ha:PT X a tA)(hb:PW X (.BoolOp .Or (b::rest) pos) tB'):PW X (.BoolOp .Or (a::b::rest) pos) (tOr tA tB'):=by
 intro wh pins s σ H Q I h;refine isTrue_or (thn (ha pins s σ H _ I h) λc s1 hP=>?_);obtain⟨H1,I1,q1⟩:=hP;cases c with
 |true=>exact⟨H1,I1,q1⟩
 |false=>exact hb wh pins s1 σ H1 Q I1 q1
theorem dh(ha:PT X a tA):PT X (.UnaryOp .Not a pos) (aay tA):=by
 intro pins s σ H Q I h;exact isTrue_not (ha pins s σ H (λc H1=>Q (!c) H1) I h)
def V9(ta tb:TE):TE:=λσ H Q=>ta σ H λx H1=>∃c,x=.bl c/\if c=true then tb σ H1 Q else Q (.bl false) H1
def aer(ta tb:TE):TE:=λσ H Q=>ta σ H λx H1=>∃c,x=.bl c/\if c=true then Q (.bl true) H1 else tb σ H1 Q
def Wh(ta:TE):TE:=λσ H Q=>ta σ H λx H1=>∃c,x=.bl c/\Q (.bl (!c)) H1
theorem Ir{op}{t:TE}(h:PE X a t):PE X (.BoolOp op [a] pos) t:=λpins s σ H Q I hw=>BoolOp_one (h pins s σ H Q I hw)
theorem Ds(ha:PE X a ta)(hb:PE X (.BoolOp .And (b::rest) pos) tb):PE X (.BoolOp .And (a::b::rest) pos) (V9 ta tb):=by
 intro pins s σ H Q I h;refine BoolOp_and (thn (ha pins s σ H _ I h) λv s1 hP=>?_);obtain⟨x,H1,I1,r1,q1⟩:=hP;obtain⟨c,rfl,q1⟩:=q1;cases r1;refine wpAny_truthy_bool ?_;cases c with
 |true=>exact hb pins s1 σ H1 Q I1 q1
 |false=>exact⟨.bl false,H1,I1,rfl,q1⟩
theorem Vn(ha:PE X a ta):PE X (.UnaryOp .Not a pos) (Wh ta):=by
 intro pins s σ H Q I h;refine UnaryOp_ (thn (ha pins s σ H _ I h) λv s1 hP=>?_);obtain⟨x,H1,I1,r1,q1⟩:=hP;obtain⟨c,rfl,q1⟩:=q1;cases r1;exact not_of (wpAny_truthy_bool ⟨.bl (!c),H1,I1,rfl,q1⟩)
def tIf(t:TT)(ta tb:TE):TE:=λσ H Q=>t σ H λc H1=>if c=true then ta σ H1 Q else tb σ H1 Q
theorem Ig{c:Expr}(hc:PT X c tA)(ha:PE X a ta)(hb:PE X b tb):PE X (.IfExp c a b pos) (tIf tA ta tb):=by
 intro pins s σ H Q I h;refine wpAny_IfExp (thn (hc pins s σ H _ I h) λd s1 hP=>?_);obtain⟨H1,I1,q1⟩:=hP;cases d with
 |true=>exact ha pins s1 σ H1 Q I1 q1
 |false=>exact hb pins s1 σ H1 Q I1 q1
end
def SqL(K:Frag)(H:Hp)(a:Addr)(xs:Μ):Prop :=
 Rd H a (.lst xs) \/
  ∃(o:Obj)(its:Array Value)(n:Nat),K.lookup a=some o/\o.cls=.type "list"/\o.dict=none/\o.data=.seq its n/\its.size<=sizeLine/\Vals xs its.toList
def SqT(K:Frag)(H:Hp)(a:Addr)(xs:Μ):Prop :=
 Rd H a (.tup xs) \/
  ∃(o:Obj)(its:Array Value)(n:Nat),K.lookup a=some o/\o.cls=.type "tuple"/\o.data=.seq its n/\its.size<=sizeLine/\Vals xs its.toList
noncomputable def ajx:Value->Option V
 |.none=>some .non
 |.bool b=>some (.bl b)
 |.int i _=>some (.int i)
 |.str x _=>some (.str x)
 |.bytes b _=>some (.byt b)
 |.float b _=>some (.flt b)
 |.ref a=>some (.ref a)
 |.type n=>some (.ty n)
 |_=>none
theorem RelV.abs{x:V}{u:Value}(r:RelV x u):ajx u=some x:=by
 cases x with
 |non=>cases r;rfl
 |bl _=>cases r;rfl
 |int _=>obtain⟨t,rfl⟩:=r;rfl
 |str _=>obtain⟨t,rfl⟩:=r;rfl
 |byt _=>obtain⟨t,rfl⟩:=r;rfl
 |flt _=>obtain⟨t,rfl⟩:=r;rfl
 |ref _=>cases r;rfl
 |ty _=>cases r;rfl
theorem RelV.inj{x y:V}{u:Value}(r:RelV x u)(q:RelV y u):x=y:=Option.some.inj (r.abs.symm.trans q.abs)
theorem Vals.inj:∀{xs ys:Μ}{us:Ξ},Vals xs us->Vals ys us->xs=ys
 |_,_,_,.nil,.nil=>rfl
 |_,_,_,.cons r t,.cons r' t'=>by rw[r.inj r',Vals.inj t t']
section
variable{X:Cx}{pins:Ω}{σ:St}{H:Hp}{s:Shared}{a:Addr}{xs ys:Μ}
theorem SqL.of{K:Frag}(h:H a=some (.lst xs)):SqL K H a xs:=.inl (.inl h)
theorem SqT.of{K:Frag}(h:H a=some (.tup xs)):SqT K H a xs:=.inl (.inl h)
theorem Inv.list(I:Inv X pins σ H s)(h:SqL X.K H a xs):∃its:Ξ,Vals xs its/\PlainL s.heap a its.toArray/\xs.length<=sizeLine:=by
 rcases h with h|⟨o,its,n,hk,hc,hd,hs,hz,r⟩
 .obtain⟨z,its,n,r,e⟩:=h.ok I.hok;exact⟨its,r,⟨_,n,e,rfl,rfl,rfl⟩,z⟩
 .refine⟨its.toList,r,⟨o,n,I.kIn a o hk,hc,hd,by simpa using hs⟩,?_⟩;have e:=r.length;simp only[Array.length_toList]at e;exact aM (Nat.le_of_eq e) hz
theorem Inv.tuple(I:Inv X pins σ H s)(h:SqT X.K H a xs):∃its:Ξ,Vals xs its/\IsTup s.heap a its.toArray/\xs.length<=sizeLine:=by
 rcases h with h|⟨o,its,n,hk,hc,hs,hz,r⟩
 .obtain⟨z,its,r,p⟩:=h.ok I.hok;exact⟨its,r,p,z⟩
 .refine⟨its.toList,r,⟨o,I.kIn a o hk,hc,n,by simpa using hs⟩,?_⟩;have e:=r.length;simp only[Array.length_toList]at e;exact aM (Nat.le_of_eq e) hz
theorem Inv.list_inj(I:Inv X pins σ H s)(h:SqL X.K H a xs)(h':SqL X.K H a ys):xs=ys:=by
 obtain⟨its,r,⟨o,n,e,_,_,d⟩,_⟩:=I.list h;obtain⟨its',r',⟨o',n',e',_,_,d'⟩,_⟩:=I.list h';rw[e]at e';cases e';rw[d]at d';injection d' with d1 _;have:its=its':=by simpa using ZH Array.toList d1
 subst this;exact r.inj r'
theorem Inv.tuple_inj(I:Inv X pins σ H s)(h:SqT X.K H a xs)(h':SqT X.K H a ys):xs=ys:=by
 obtain⟨its,r,⟨o,e,_,n,d⟩,_⟩:=I.tuple h;obtain⟨its',r',⟨o',e',_,n',d'⟩,_⟩:=I.tuple h';rw[e]at e';cases e';rw[d]at d';injection d' with d1 _;have:its=its':=by simpa using ZH Array.toList d1
 subst this;exact r.inj r'
end
noncomputable abbrev Cx.wish(X:Cx)(E:Κ):Cx:={ X with xe:=E }
noncomputable abbrev Cx.nox(X:Cx):Cx:=X.wish λ_ _=>False
theorem Cx.Ok.wish{X:Cx}(ok:X.Ok)(E:Κ):(X.wish E).Ok :=
 ⟨ok.mod,ok.kind,ok.glob,ok.blt,ok.above,ok.inj,ok.has,ok.cab,ok.hd,ok.frames,ok.stk,ok.exf,ok.bs,ok.bsz,ok.noex,ok.exfs,ok.funs,ok.frf⟩
theorem Cx.Ok.unwish{X:Cx}{E:Κ}(ok:(X.wish E).Ok):X.Ok :=
 ⟨ok.mod,ok.kind,ok.glob,ok.blt,ok.above,ok.inj,ok.has,ok.cab,ok.hd,ok.frames,ok.stk,ok.exf,ok.bs,ok.bsz,ok.noex,ok.exfs,ok.funs,ok.frf⟩
section
variable{X:Cx}{pins:Ω}{σ:St}{H:Hp}{s:Shared}{E:Κ}
theorem Inv.wish(I:Inv X pins σ H s)(E:Κ):Inv (X.wish E) pins σ H s:=⟨I.ok.wish E,I.os,I.bare,I.base,I.loc,I.cell,I.free,I.freeC,I.pin,I.hok,I.len⟩
theorem Inv.unwish(I:Inv (X.wish E) pins σ H s):Inv X pins σ H s:=⟨I.ok.unwish,I.os,I.bare,I.base,I.loc,I.cell,I.free,I.freeC,I.pin,I.hok,I.len⟩
theorem SP.unwish{D:Ends}{f:Flow}{s':Shared}(h:SP (X.wish E) pins D f s'):SP X pins D f s':=by
 cases f with
 |next=>obtain⟨σ',H',I,q⟩:=h;exact⟨σ',H',I.unwish,q⟩
 |brk=>obtain⟨σ',H',I,q⟩:=h;exact⟨σ',H',I.unwish,q⟩
 |cont=>obtain⟨σ',H',I,q⟩:=h;exact⟨σ',H',I.unwish,q⟩
 |ret u=>obtain⟨v,σ',H',I,r,q⟩:=h;exact⟨v,σ',H',I.unwish,r,q⟩
theorem PSs.nox{st:List Stmt}{t:TS}(h:PSs X.nox st t):PSs X st t:=λpins s σ H D I hw =>
 wpAny_mono (h pins s σ H D (I.wish _) hw) (λ_ _ q=>q.unwish) λ_ _ z=>False.elim z
end
section
variable{X:Cx}{st:Stmt}{rest:List Stmt}{t u:TS}{e:Expr}{te:TE}{pos:Pos}
def Bq:TS:=λD σ H=>D.nx σ H
def um(t u:TS):TS:=λD σ H=>t { D with nx:=u D } σ H
theorem cA:PSs X [] Bq:=λ_ _ σ H _ I h=>wpAny_execs_nil ⟨σ,H,I,h⟩
theorem bL(h1:PS X st t)(h2:PSs X rest u):PSs X (st::rest) (um t u):=by
 intro pins s σ H D I h;refine wpAny_execs_cons (thn (h1 pins s σ H { D with nx:=u D } I h) λf s1 q=>?_);cases f with
 |next =>
  obtain⟨σ',H',I',q⟩:=q;exact h2 pins s1 σ' H' D I' q
 |ret v=>exact q
 |brk=>exact q
 |cont=>exact q
theorem bM(h1:PS X st t):PSs X [st] t:=by
 intro pins s σ H D I h;refine wpAny_execs_cons (thn (h1 pins s σ H D I h) λf s1 q=>?_);cases f with
 |next=>exact wpAny_execs_nil q
 |ret v=>exact q
 |brk=>exact q
 |cont=>exact q
theorem Inv.quiet{pins:Ω}{σ:St}{H:Hp}{s:Shared}(I:Inv X pins σ H s):interactive X.env=false:=by simp[interactive,I.ok.kind]
def Wg(te:TE):TS:=λD σ H=>te σ H λ_ H1=>D.nx σ H1
theorem dD(he:PE X e te)(hs:swapsWith e none pos.line X.env=pure false:=by rfl):PS X (.Expr e pos) (Wg te):=by
 intro pins s σ H D I h;exact wpAny_Expr_any (thn (he pins s σ H _ I h) λv s1 hP=>by obtain⟨x,H1,I1,r1,q1⟩:=hP;exact⟨σ,H1,I1,q1⟩) I.quiet hs
def Xy(te:TE):TS:=λD σ H=>te σ H D.rt
theorem cg(he:PE X e te):PS X (.Return (some e) pos) (Xy te):=by
 intro pins s σ H D I h;exact wpAny_Return_some (thn (he pins s σ H _ I h) λv s1 hP=>by obtain⟨x,H1,I1,r1,q1⟩:=hP;exact⟨x,σ,H1,I1,r1,q1⟩)
def aaw:TS:=λD _ H=>D.rt .non H
def Ks(c:TT)(t u:TS):TS:=λD σ H=>c σ H λb H1=>if b=true then t D σ H1 else u D σ H1
theorem cW{c:Expr}{a b:List Stmt}{tc:TT}(hc:PT X c tc)(ha:PSs X a t)(hb:PSs X b u):PS X (.If c a b pos) (Ks tc t u):=by
 intro pins s σ H D I h;refine wpAny_If (thn (hc pins s σ H _ I h) λd s1 hP=>?_);obtain⟨H1,I1,q1⟩:=hP;cases d with
 |true=>exact ha pins s1 σ H1 D I1 q1
 |false=>exact hb pins s1 σ H1 D I1 q1
def afC:TS:=λ_ _ _=>False
theorem oH:PS X st afC:=λ_ _ _ _ _ _ h=>h.elim
end
abbrev TG:=V->St->Hp->(St->Hp->Prop)->Prop
abbrev TGs:=Μ->St->Hp->(St->Hp->Prop)->Prop
def PG(X:Cx)(target:Expr)(t:TG):Prop :=
 ∀(pins:Ω)(s:Shared)(σ:St)(H:Hp)(v:V)(u:Value)(Q:St->Hp->Prop),Inv X pins σ H s->RelV v u->t v σ H Q ->
  wpAny (model X.prog X.w) X.A (assign target X.env u) (λ_ s'=>∃σ' H',Inv X pins σ' H' s'/\Q σ' H') X.xe s
def PGs(X:Cx)(ts:List Expr)(t:TGs):Prop :=
 ∀(pins:Ω)(s:Shared)(σ:St)(H:Hp)(vs:Μ)(us:Ξ)(Q:St->Hp->Prop),Inv X pins σ H s->Vals vs us->t vs σ H Q ->
  wpAny (model X.prog X.w) X.A (assignInOrder ((assignEach ts X.env).map (·.2)) us) (λ_ s'=>∃σ' H',Inv X pins σ' H' s'/\Q σ' H') X.xe s
abbrev afx:=V->V->V->Hp->(Hp->Prop)->Prop
def ah5(X:Cx)(t:afx):Prop :=
 ∀(pins:Ω)(s:Shared)(σ:St)(H:Hp)(o i v:V)(ov iv u:Value)(Q:Hp->Prop),Inv X pins σ H s->RelV o ov->RelV i iv->RelV v u->t o i v H Q ->
  wpAny (model X.prog X.w) X.A (setItem ov iv u) (λ_ s'=>∃H',Inv X pins σ H' s'/\Q H') X.xe s
section
variable{X:Cx}{pos:Pos}
def cN(i:Nat):TG:=λv σ H Q=>Q (σ.set i (some v)) H
theorem cM{i:Nat}{x:Str}(hN:X.N.Nodup)(hi:X.N[i]?=some x)(hx:Loc X.env.scope x)(hf:X.fn x=true\/X.env.scope.names.lookup x=some .local:=by first|exact .inl rfl|exact .inr rfl|assumption):PG X (.Name x pos) (cN i):=by
 intro pins s σ H v u Q I r h;exact wpAny_assign_Name (vV I hN hi hx r (λs' I'=>⟨_,H,I',h⟩) hf)
def ac5:TGs:=λvs σ H Q=>vs=[]/\Q σ H
def Wk(t:TG)(u:TGs):TGs:=λvs σ H Q=>∃v r,vs=v::r/\t v σ H λσ' H'=>u r σ' H' Q
theorem fL:PGs X [] ac5:=by
 intro pins s σ H vs us Q I r h;obtain⟨e,h⟩:=h;subst e;cases r;exact assignInOrder_nil ⟨σ,H,I,h⟩
theorem cD{e:Expr}{es:List Expr}{t:TG}{u:TGs}(h1:PG X e t)(h2:PGs X es u)
 (hs:(assignEach (e::es) X.env).map (·.2)=assign e X.env::(assignEach es X.env).map (·.2):=by rfl):PGs X (e::es) (Wk t u):=by
 intro pins s σ H vs us Q I r h;obtain⟨v,vr,e1,h⟩:=h;subst e1;cases r with
 |cons r rr =>
  rw[hs];refine assignInOrder_cons (thn (h1 pins s σ H _ _ _ I r h) λ_ s1 hP=>?_);obtain⟨σ1,H1,I1,q1⟩:=hP;exact h2 pins s1 σ1 H1 _ _ Q I1 rr q1
def adN(K:Frag)(n:Nat)(t:TGs):TG:=λv σ H Q=>∃a xs,v=.ref a/\SqT K H a xs/\xs.length=n/\t xs σ H Q
theorem afu{es:List Expr}{k:Nat}{t:TGs}{n:Nat}(hc:X.calm=true)(h:PGs X es t)
 (hn:(assignEach es X.env).length=n:=by rfl)(hst:(assignEach es X.env).findIdx? (·.1)=none:=by rfl):PG X (.Tuple es k pos) (adN X.K n t):=by
 intro pins s σ H v u Q I r hw;obtain⟨a,xs,e1,hq,hl,hw⟩:=hw;subst e1;cases r;obtain⟨its,rv,ht,hz⟩:=I.tuple hq;refine assign_Tuple_tuple (I.ok.hd hc) ht (by simp[hn,<- hl,rv.length]) hst λh' hx=>?_;have I1:Inv X pins σ H { s with heap:=h' }:=I.kept (t':=s.toks) λb o e=>hx b o (aR (aJ e)) e;exact h pins _ σ H xs _ Q I1 (by simpa using rv) hw
def ad2(to ti:TE)(t:afx):TG:=λv σ H Q=>to σ H λo H1=>ti σ H1 λi H2=>t o i v H2 λH3=>Q σ H3
theorem ae7{o i:Expr}{to ti:TE}{t:afx}(ho:PE X o to)(hi:PE X i ti)(hs:ah5 X t)
 (ha:∀v,assign (.Subscript o i pos) X.env v=(do
   let ov <- holding [v] (eval o X.env)
   let iv <- holding [v,ov] (eval i X.env)
   standAt pos
   holding [v,ov,iv] (setItem ov iv v)
   release [v,ov,iv] []):=by intro _;rfl):PG X (.Subscript o i pos) (ad2 to ti t):=by
 intro pins s σ H v u Q I r h;rw[ha];refine ZU (wpAny_holding (thn (ho pins s σ H _ I h) λov s1 hP=>?_));obtain⟨x,H1,I1,r1,q1⟩:=hP;refine ZU (wpAny_holding (thn (hi pins s1 σ H1 _ I1 q1) λiv s2 hP=>?_));obtain⟨y,H2,I2,r2,q2⟩:=hP;refine ZU (wpAny_standAt (ZU (wpAny_holding (thn (hs pins s2 σ H2 x y v ov iv u _ I2 r1 r2 r q2) λ_ s3 hP=>?_))));obtain⟨H3,I3,q3⟩:=hP;exact wpAny_release ⟨σ,H3,I3,q3⟩
def Ke(te:TE)(g:TG):TS:=λD σ H=>te σ H λx H1=>g x σ H1 D.nx
theorem Ho{tg e:Expr}{te:TE}{g:TG}(he:PE X e te)(hg:PG X tg g)(hs:swapsWithSole [tg] e pos.line X.env=pure false:=by rfl)(hw:swappedStores [tg] e X.env=pure none:=by rfl)
 (h1:(assignEach [tg] X.env).map (·.2)=[assign tg X.env]:=by rfl):PS X (.Assign [tg] e pos) (Ke te g):=by
 intro pins s σ H D I h;refine wpAny_Assign_stores (thn (he pins s σ H _ I h) λv s1 hP=>?_) hs hw;obtain⟨x,H1,I1,r1,q1⟩:=hP;rw[h1];exact thn (hg pins s1 σ H1 x v _ I1 r1 q1) λ_ s2 q=>q
theorem cj{i:Nat}{x:Str}{e:Expr}{te:TE}{pos':Pos}(hN:X.N.Nodup)(hi:X.N[i]?=some x)(hx:Loc X.env.scope x)(he:PE X e te)(hs:swapsWith e (some (.Name x pos')) pos.line X.env=pure false:=by rfl)(hf:X.fn x=true\/X.env.scope.names.lookup x=some .local:=by first|exact .inl rfl|exact .inr rfl|assumption) :
  PS X (.Assign [.Name x pos'] e pos) (Ke te (cN i)):=by
 intro pins s σ H D I h;refine wpAny_Assign_Name (thn (he pins s σ H _ I h) λv s1 hP=>?_) hs;obtain⟨y,H1,I1,r1,q1⟩:=hP;exact vV I1 hN hi hx r1 (λs2 I2=>⟨_,H1,I2,q1⟩) hf
def acP(i j:Nat)(ta:TA):TS:=λD σ H=>ta σ H λvs H1=>∃v w,vs=[v,w]/\D.nx ((σ.set i (some v)).set j (some w)) H1
theorem aeH{i j:Nat}{x y:Str}{a b:Expr}{ta:TA}{px py pt:Pos}{kt k2 pt2}(hc:X.calm=true)(hN:X.N.Nodup)(hi:X.N[i]?=some x)(hj:X.N[j]?=some y)(hij:i≠j)
 (hx:X.env.scope.names.lookup x=some .local)(hy:X.env.scope.names.lookup y=some .local)(ha:PA X [a,b] ta)
 (hw:swappedStores [.Tuple [.Name x px,.Name y py] kt pt] (.Tuple [a,b] k2 pt2) X.env=pure (some [x,y]))
 (hs:swapsWithSole [.Tuple [.Name x px,.Name y py] kt pt] (.Tuple [a,b] k2 pt2) pos.line X.env=pure false:=by rfl) :
  PS X (.Assign [.Tuple [.Name x px,.Name y py] kt pt] (.Tuple [a,b] k2 pt2) pos) (acP i j ta):=by
 intro pins s σ H D I h;rw[exec_Assign_arm];refine ZU (wpAny_standAt ?_);rw[hs];refine ZU (ZT ?_);rw[ZZ (by decide)];refine ZU (Tuple_ (thn (ha _ pins s σ H _ I h) λus s1 hP=>?_));obtain⟨vs,H1,I1,r1,q1⟩:=hP;obtain⟨v,w,e1,q1⟩:=q1;subst e1;obtain⟨u1,u2,rfl,rv,rw'⟩ : ∃u1 u2,us=[u1,u2]/\RelV v u1/\RelV w u2:=by
  cases r1 with
  |cons p q =>
   cases q with
   |cons p' q' =>
    cases q';exact⟨_,_,rfl,p,p'⟩
 refine wpAny_newObj_type ?_ (by show 2<=sizeLine;decide);have I2:Inv X pins σ H1 { s1 with heap:=s1.heap.push { cls:=.type "tuple",data:=.seq [u1,u2].toArray } }:=I1.kept (t':=s1.toks) λb o e=>aG _ e;rw[hw];refine ZU (ZT ?_);show wpAny (model X.prog X.w) X.A (do rule "assign.swapped-stores"; let items <- unpackItems (.ref s1.heap.objs.size) 2 none;assignInOrder [λv=>bindName X.env y v,λv=>bindName X.env x v] items.reverse;pure Flow.next) _ _ _;refine ZU (wpAny_rule (ZU (unpackItems_tuple (items:=#[u1,u2]) (I.ok.hd hc) (IsTup.new s1.heap _) λh' hx'=>?_)));have I3:=I2.kept (h':=h') (t':=s1.toks) λb o e=>hx' b o (aR (aJ e)) e;show wpAny _ _ (assignInOrder [λv=>bindName X.env y v,λv=>bindName X.env x v] [u2,u1] >>= λ_=>pure Flow.next) _ _ _;refine ZU (assignInOrder_cons (wpAny_bindName (vV I3 hN hj (.inl hy) rw' (λs2 I4=>?_) (.inr hy))));refine assignInOrder_cons (wpAny_bindName (vV I4 hN hi (.inl hx) rv (λs3 I5=>assignInOrder_nil (ZT ?_)) (.inr hx)));rw[List.set_comm _ _ (Ne.symm hij)]at I5;exact⟨_,H1,I5,q1⟩
end
section
variable{X:Cx}{pos:Pos}
def abV(c:TT)(tb:TS):TS:=λD σ H=>∃W:Nat->St->Hp->Prop,(∃m,W m σ H)/\∀m σ H,W m σ H ->
 c σ H λb H1=>if b=true then ∃N:St->Hp->Prop,(∀σ' H',N σ' H'->∃m',m'<m/\W m' σ' H')/\tb { D with nx:=N,ct:=N,bk:=D.nx } σ H1 else D.nx σ H1
theorem I9{c:Expr}{body:List Stmt}{tc:TT}{tb:TS}(hp:PassesOwn (model X.prog X.w) X.A X.env X.xe)(hc:PT X c tc)(hb:PSs X body tb):PS X (.While c body [] pos) (abV tc tb):=by
 intro pins s σ H D I h;obtain⟨W,⟨m0,w0⟩,turn⟩:=h;refine wpAny_While (codeAny_whileLoop (λn s'=>∃σ' H',Inv X pins σ' H' s'/\W n σ' H') ?_ m0 ⟨σ,H,I,w0⟩);rintro n s1 ⟨σ1,H1,I1,w1⟩;refine wpAny_passesOwn hp (thn (hc pins s1 σ1 H1 _ I1 (turn n σ1 H1 w1)) λb s2 hP=>?_);obtain⟨H2,I2,q2⟩:=hP;cases b with
 |true =>
  obtain⟨N,hN,q2⟩:=q2;rw[ZY rfl];refine wpAny_passesOwn hp (thn (hb pins s2 σ1 H2 _ I2 q2) λf s3 q3=>?_);cases f with
  |next =>
   obtain⟨σ3,H3,I3,n3⟩:=q3;obtain⟨m',hm,w3⟩:=hN σ3 H3 n3;exact⟨m',hm,σ3,H3,I3,w3⟩
  |cont =>
   obtain⟨σ3,H3,I3,n3⟩:=q3;obtain⟨m',hm,w3⟩:=hN σ3 H3 n3;exact⟨m',hm,σ3,H3,I3,w3⟩
  |brk=>exact q3
  |ret v=>exact q3
 |false =>
  rw[ZZ bC];exact wpAny_execs_nil ⟨σ1,H2,I2,q2⟩
end
structure It where
 go:Nat->Hp->Prop
 yld:Nat->Hp->V->Hp->Prop
 stop:Nat->Hp->Prop
def FQ(X:Cx)(pins:Ω)(H:Hp)(b:Addr):Prop :=
 H b=none/\b≠X.env.locals/\b∉X.fs/\(b∈X.ex\/X.s₀.heap.objs.size<=b)/\(∀x c,X.env.cells.lookup x=some c->c≠b)/\∀p∈X.pn++pins,p.1≠b
theorem Inv.fpOk{X:Cx}{pins:Ω}{σ:St}{H H':Hp}{s:Shared}{b:Addr}(I:Inv X pins σ H s)(hb:s.heap.objs.size<=b)(hn:H' b=none):FQ X pins H' b:=by
 refine⟨hn,Nat.ne_of_gt (aU I.lt hb),I.nofs hb,.inr (aM I.sz hb),λx c e z=>?_,λp hp z=>?_⟩
 .obtain⟨v,q⟩:=I.cell x c e;exact absurd (aU q.lt (by rw[z];exact hb)) (X9 _)
 .exact absurd (aU (aJ (I.pin p hp).1) (by rw[z];exact hb)) (X9 _)
structure Turn(P:Program)(w:World)(K:Frag)(tg:Expr)(J:It)(fp:Ε)(it:Addr)(tn:Nat->Heap->Prop):Prop where
 mem:it∈fp
 obj:∀i h,tn i h->∀b∈fp,∃o,h.get? b=some o/\∀v,o.data≠.cell v
 keep:∀i h h',tn i h->(∀b∈fp,∀o,h.get? b=some o->h'.get? b=some o)->tn i h'
 item:∀(X:Cx),X.prog=P->X.w=w->X.K=K->X.calm=true->∀(i:Nat)(pins:Ω)(s:Shared)(σ:St)(H:Hp)(E:Κ),Inv X pins σ H s->(∀b∈fp,FQ X pins H b)->tn i s.heap->J.go i H ->
  wpAny (model P w) X.A (pyNext (.ref it)) (λr s1=>∃u,r=some u /\
   wpAny (model P w) X.A (letOwnedTupleGo tg (.ref it) u) (λ_ s2=>∃x H',Inv X pins σ H' s2/\RelV x u/\J.yld i H x H'/\tn (i+1) s2.heap/\∀b∈fp,H' b=none) E s1) E s
 done:∀(X:Cx),X.prog=P->X.w=w->X.K=K->X.calm=true->∀(i:Nat)(pins:Ω)(s:Shared)(σ:St)(H:Hp)(E:Κ),Inv X pins σ H s->(∀b∈fp,FQ X pins H b)->tn i s.heap->J.stop i H ->
  wpAny (model P w) X.A (pyNext (.ref it)) (λr s1=>r=none/\Inv X pins σ H s1) E s
 self:∀(A:Around)(i:Nat)(s:Shared)(Q:Κ)(E:Κ),tn i s.heap->Q (.ref it) s->wpAny (model P w) A (pyIter (.ref it)) Q E s
abbrev TI:=St->Hp->(It->Hp->Prop)->Prop
def PIE(X:Cx)(pins:Ω)(σ:St)(tg:Expr)(R:It->Hp->Prop)(itv:Value)(s2:Shared):Prop :=
 ∃(it:Addr)(fp:Ε)(tn:Nat->Heap->Prop)(J:It)(H':Hp),itv=.ref it/\Inv X pins σ H' s2/\Turn X.prog X.w X.K tg J fp it tn/\tn 0 s2.heap/\(∀b∈fp,FQ X pins H' b)/\R J H'
def PI(X:Cx)(tg iter:Expr)(wi:TI):Prop :=
 ∀(pins:Ω)(s:Shared)(σ:St)(H:Hp)(R:It->Hp->Prop),Inv X pins σ H s->wi σ H R ->
  wpAny (model X.prog X.w) X.A (eval iter X.env) (λv s1=>wpAny (model X.prog X.w) X.A (pyIter v) (PIE X pins σ tg R) X.xe s1) X.xe s
theorem QD{M:Model}{A:Around}{E:Κ}{s:Shared}{tg:Expr}{it:Addr}{u:Value}{o:Obj}{n:String}{vs:Array Value}{Q:Unit->Shared->Prop}(ho:s.heap.get? it=some o)(hc:o.cls=.type n)(hd:o.data=.fields vs)
   (hn : ["enumerate","zip","dict_itemiterator","dict_reverseitemiterator","odict_iterator","itertools.zip_longest","itertools.pairwise"].contains n=false)(hQ:Q () s):wpAny M A (letOwnedTupleGo tg (.ref it) u) Q E s:=by
  unfold letOwnedTupleGo;cases tg<;>first
    |exact ZT hQ
    |(cases u<;>first
        |exact ZT hQ
        | (refine ZU (wpAny_load ho ?_)
           rw[hc,hd];show wpAny M A (if(["enumerate","zip","dict_itemiterator","dict_reverseitemiterator","odict_iterator","itertools.zip_longest","itertools.pairwise"].contains n&&vs[0]?==some (rawInt _))=true then _ else _) Q E s;rw[ZZ (by intro h;rw[hn,Bool.false_and]at h;cases h)];exact ZT hQ))
noncomputable def Itl(K:Frag)(a:Addr):It :=
 ⟨λi H=>∃xs x,SqL K H a xs/\xs[i]?=some x,λi H x H'=>H'=H/\∀xs,SqL K H a xs->xs[i]?=some x,λi H=>∃xs,SqL K H a xs/\xs.length<=i⟩
noncomputable def Itt(K:Frag)(a:Addr):It :=
 ⟨λi H=>∃xs x,SqT K H a xs/\xs[i]?=some x,λi H x H'=>H'=H/\∀xs,SqT K H a xs->xs[i]?=some x,λi H=>∃xs,SqT K H a xs/\xs.length<=i⟩
noncomputable def Itr(lo:Int)(n:Nat):It:=⟨λi _=>i<n,λi H x H'=>H'=H/\x=.int (lo+i),λi _=>n<=i⟩
theorem Xg{P:Program}{w:World}{K:Frag}{tg:Expr}(a it:Addr):Turn P w K tg (Itl K a) [it] it (λi h=>h.IsListIter it a i) where
 mem:=by simp
 obj:=λi h st b hb=>by
  have e:b=it:=by simpa using hb
  subst e;obtain⟨o,e,c,d⟩:=st;exact⟨o,e,λv z=>by rw[d]at z;cases z⟩
 keep:=λi h h' st k=>st.at λo e=>k it (by simp) o e
 item:=by
  intro X hP hw hK hc i pins s σ H E I hf st hg;subst hP hw hK;obtain⟨xs,x,hq,hx⟩:=hg;obtain⟨its,rv,p,hz⟩:=I.list hq;obtain⟨u,hu,ru⟩:=rv.get hx;obtain⟨f0,f1,f2,f3,f4,f5⟩:=hf it (by simp);refine wpAny_pyNext_list_item st p.isList (x:=u) (by simpa using hu) λh' st' sb=>?_;have I1:Inv X pins σ H { s with heap:=h' }:=I.turned (t':=s.toks) (λb o hb e=>(sb.2 b hb).trans e) f0 f1 f3 f4 f5;obtain⟨o,e,c,d⟩:=id st';exact⟨u,rfl,QD (s:={ s with heap:=h' }) e c d (by decide) ⟨x,H,I1,ru,⟨rfl,λys hy=>by rw[I.list_inj hy hq];exact hx⟩,st',λb hb=>(hf b hb).1⟩⟩
 done:=by
  intro X hP hw hK hc i pins s σ H E I hf st hg;subst hP hw hK;obtain⟨xs,hq,hx⟩:=hg;obtain⟨its,rv,p,hz⟩:=I.list hq;obtain⟨f0,f1,f2,f3,f4,f5⟩:=hf it (by simp);have hl:=rv.length;exact wpAny_pyNext_list_end (I.ok.hd hc) st p.isList (by simp;lia) λh' eb=>⟨rfl,I.turned (t':=s.toks) (λb o hb e=>eb b o hb e) f0 f1 f3 f4 f5⟩
 self:=λ_ _ _ _ _ st h=>wpAny_pyIter_listiter st h
theorem Tw{P:Program}{w:World}{K:Frag}{tg:Expr}(a it:Addr):Turn P w K tg (Itt K a) [it] it (λi h=>h.IsTupleIter it a i) where
 mem:=by simp
 obj:=λi h st b hb=>by
  have e:b=it:=by simpa using hb
  subst e;obtain⟨o,e,c,d⟩:=st;exact⟨o,e,λv z=>by rw[d]at z;cases z⟩
 keep:=λi h h' st k=>st.at λo e=>k it (by simp) o e
 item:=by
  intro X hP hw hK hc i pins s σ H E I hf st hg;subst hP hw hK;obtain⟨xs,x,hq,hx⟩:=hg;obtain⟨its,rv,p,hz⟩:=I.tuple hq;obtain⟨u,hu,ru⟩:=rv.get hx;obtain⟨f0,f1,f2,f3,f4,f5⟩:=hf it (by simp);refine wpAny_pyNext_tuple_item st (show s.heap.IsTuple a its.toArray from p) (x:=u) (by simpa using hu) λh' st' sb=>?_;have I1:Inv X pins σ H { s with heap:=h' }:=I.turned (t':=s.toks) (λb o hb e=>(sb.2 b hb).trans e) f0 f1 f3 f4 f5;obtain⟨o,e,c,d⟩:=id st';exact⟨u,rfl,QD (s:={ s with heap:=h' }) e c d (by decide) ⟨x,H,I1,ru,⟨rfl,λys hy=>by rw[I.tuple_inj hy hq];exact hx⟩,st',λb hb=>(hf b hb).1⟩⟩
 done:=by
  intro X hP hw hK hc i pins s σ H E I hf st hg;subst hP hw hK;obtain⟨xs,hq,hx⟩:=hg;obtain⟨its,rv,p,hz⟩:=I.tuple hq;obtain⟨f0,f1,f2,f3,f4,f5⟩:=hf it (by simp);have hl:=rv.length;exact wpAny_pyNext_tuple_end (I.ok.hd hc) st (show s.heap.IsTuple a its.toArray from p) (by simp;lia) λh' eb=>⟨rfl,I.turned (t':=s.toks) (λb o hb e=>eb b o hb e) f0 f1 f3 f4 f5⟩
 self:=λ_ _ _ _ _ st h=>wpAny_pyIter_tupleiter st h
theorem Uq{P:Program}{w:World}{K:Frag}{tg:Expr}(it:Addr)(lo:Int)(n:Nat):Turn P w K tg (Itr lo n) [it] it (λi h=>IsRangeIter h it (lo+(i:Nat)*1) ((n:Int)-(i:Nat)) 1) where
 mem:=by simp
 obj:=λi h st b hb=>by
  have e:b=it:=by simpa using hb
  subst e;exact⟨_,st,λv z=>by
   have z':Data.fields _=Data.cell v:=z;cases z'⟩
 keep:=λi h h' st k=>k it (by simp) _ st
 item:=by
  intro X hP hw hK hc i pins s σ H E I hf st hg;subst hP hw hK;obtain⟨f0,f1,f2,f3,f4,f5⟩:=hf it (by simp);have W:=Walks.range (prog:=X.prog) (w:=X.w) (I.ok.hd hc) it lo 1 n;refine W.item i s _ _ hg st λv h' tk hv st' kk=>?_;obtain⟨t,rfl⟩:=hv;have I1:Inv X pins σ H { s with heap:=h',toks:=tk }:=I.turned (λb o hb e=>kk b o (by simpa using hb) e) f0 f1 f3 f4 f5;refine⟨_,rfl,QD (s:={ s with heap:=h',toks:=tk }) (n:="range_iterator") st' rfl rfl (by decide) ⟨.int (lo+i),H,I1,⟨t,?_⟩,⟨rfl,rfl⟩,st',λb hb=>(hf b hb).1⟩⟩;rw[Int.mul_one]
 done:=by
  intro X hP hw hK hc i pins s σ H E I hf st hg;subst hP hw hK;obtain⟨f0,f1,f2,f3,f4,f5⟩:=hf it (by simp);exact wpAny_pyNext_range_end (I.ok.hd hc) st (by have:n<=i:=hg;lia) λh' eb=>⟨rfl,I.turned (t':=s.toks) (λb o hb e=>eb b o hb e) f0 f1 f3 f4 f5⟩
 self:=λ_ _ _ _ _ st h=>wpAny_pyIter_rangeiter st h
section
variable{X:Cx}{tg:Expr}
def Fd(K:Frag)(tl:TE):TI:=λσ H R=>tl σ H λx H1=>∃a,x=.ref a/\(∃xs,SqL K H1 a xs)/\R (Itl K a) H1
def aia(K:Frag)(tl:TE):TI:=λσ H R=>tl σ H λx H1=>∃a,x=.ref a/\(∃xs,SqT K H1 a xs)/\R (Itt K a) H1
theorem cZ{l:Expr}{tl:TE}(hl:PE X l tl):PI X tg l (Fd X.K tl):=by
 intro pins s σ H R I h;refine thn (hl pins s σ H _ I h) λv s1 hP=>?_;obtain⟨x,H1,I1,r1,q1⟩:=hP;obtain⟨a,e,⟨xs,hq⟩,q⟩:=q1;subst e;cases r1;obtain⟨its,rv,p,hz⟩:=I1.list hq;refine wpAny_pyIter_list p.isList ?_;refine⟨s1.heap.objs.size,[s1.heap.objs.size],_,_,H1,rfl,I1.kept (t':=s1.toks) λb o e=>aG _ e,Xg a _,⟨_,aY _ rfl,rfl,rfl⟩,λb hb=>?_,q⟩;have e:b=s1.heap.objs.size:=by simpa using hb
 subst e;exact I1.fpOk (aF _) (I1.hok.fresh (aF _))
theorem afa{l:Expr}{tl:TE}(hl:PE X l tl):PI X tg l (aia X.K tl):=by
 intro pins s σ H R I h;refine thn (hl pins s σ H _ I h) λv s1 hP=>?_;obtain⟨x,H1,I1,r1,q1⟩:=hP;obtain⟨a,e,⟨xs,hq⟩,q⟩:=q1;subst e;cases r1;obtain⟨its,rv,p,hz⟩:=I1.tuple hq;refine wpAny_pyIter_tuple (show s1.heap.IsTuple a its.toArray from p) ?_;refine⟨s1.heap.objs.size,[s1.heap.objs.size],_,_,H1,rfl,I1.kept (t':=s1.toks) λb o e=>aG _ e,Tw a _,⟨_,aY _ rfl,rfl,rfl⟩,λb hb=>?_,q⟩;have e:b=s1.heap.objs.size:=by simpa using hb
 subst e;exact I1.fpOk (aF _) (I1.hok.fresh (aF _))
theorem aah{pins:Ω}{σ:St}{H:Hp}{s:Shared}{R:It->Hp->Prop}{E:Κ}{lo hi:Int}{t u v:Tok}{tk:Nat}(I:Inv X pins σ H s)(h1 : -(2^62)<=lo)(h2:lo<2^62)(h3 : -(2^62)<=hi)(h4:hi<2^62)
 (q:R (Itr lo (hi-lo).toNat) H):wpAny (model X.prog X.w) X.A (pyIter (.ref s.heap.objs.size)) (PIE X pins σ tg R) E { s with heap:=s.heap.push { cls:=.type "range",data:=.fields #[.int lo t,.int hi u,.int 1 v] },toks:=tk }:=by
 refine wpAny_pyIter_range (IsRange.new ..) (small_one h1 h2 h3 h4) ?_;have I1:Inv X pins σ H { s with heap:=s.heap.push { cls:=.type "range",data:=.fields #[.int lo t,.int hi u,.int 1 v] },toks:=tk }:=I.kept λb o e=>aG _ e;refine⟨(s.heap.push { cls:=.type "range",data:=.fields #[.int lo t,.int hi u,.int 1 v] }).objs.size,[(s.heap.push { cls:=.type "range",data:=.fields #[.int lo t,.int hi u,.int 1 v] }).objs.size],_,_,H,rfl,
  I1.kept (t':=tk) λb o e=>aG _ e,Uq _ lo (hi-lo).toNat,?_,λb hb=>?_,q⟩
 .have e1:lo+((0:Nat):Int)*1=lo:=by simp
  have e2:(((hi-lo).toNat:Nat):Int)-((0:Nat):Int)=Builtin.Range.rangeSize lo hi 1:=by rw[rangeSize_one];split<;>lia
  show IsRangeIter _ _ (lo+((0:Nat):Int)*1) ((((hi-lo).toNat:Nat):Int)-((0:Nat):Int)) 1;rw[e1,e2];exact aY _ rfl
 .have e:b=(s.heap.push { cls:=.type "range",data:=.fields #[.int lo t,.int hi u,.int 1 v] }).objs.size:=by simpa using hb
  subst e;exact I1.fpOk (aF _) (I1.hok.fresh (aF _))
def V1(ta:TA):TI:=λσ H R=>ta σ H λvs H1=>∃j:Int,vs=[.int j]/\-(2^62)<=j/\j<2^62/\R (Itr 0 j.toNat) H1
theorem j_{a:Expr}{ta:TA}{p pos:Pos}(hg:Gl X "range")(hm:X.mg "range"=none)(ha:PA X [a] ta)(hs:starEach [a] X.env=[(false,eval a X.env)]:=by rfl):PI X tg (.Call (.Name "range" p) [a] [] pos) (V1 ta):=by
 intro pins s σ H R I h;refine Call_ (D_ I hg hm boot_range (PyProof.Rows.callWith_type1 (thn (ha pos pins s σ H _ I h) λus s1 hP=>?_) hs rfl));obtain⟨vs,H1,I1,r1,q1⟩:=hP;obtain⟨j,e,q1,q2,q⟩:=q1;subst e;cases r1 with
 |cons r rr =>
  cases rr;obtain⟨t,rfl⟩:=r;exact call_range_1 (aah I1 (XZ (by decide)) (Int.lt_of_not_ge (by decide)) q1 q2 (by simpa using q))
def Rz(wi:TI)(g:TG)(tb:TS):TS:=λD σ H=>wi σ H λJ H1=>∃W:Nat->Nat->St->Hp->Prop,(∃m,W 0 m σ H1)/\∀i m σ H,W i m σ H ->
 (J.stop i H/\D.nx σ H)\/(J.go i H/\∃N:St->Hp->Prop,(∀σ' H',N σ' H'->∃m',m'<m/\W (i+1) m' σ' H')/\∀x H',J.yld i H x H'->g x σ H' λσ2 H2=>tb { D with nx:=N,ct:=N,bk:=D.nx } σ2 H2)
noncomputable def Hh(fp:Ε)(h:Heap):Ω:=fp.filterMap λb=>(h.get? b).map λo=>(b,o)
theorem rQ{fp:Ε}{h:Heap}{b:Addr}{o:Obj}(hb:b∈fp)(e:h.get? b=some o):(b,o)∈Hh fp h:=List.mem_filterMap.mpr ⟨b,hb,by rw[e];rfl⟩
theorem Yv{fp:Ε}{h:Heap}{p:Addr×Obj}(hp:p∈Hh fp h):p.1∈fp/\h.get? p.1=some p.2:=by
 obtain⟨b,hb,e⟩:=List.mem_filterMap.mp hp;cases q:h.get? b with
 |none=>rw[q]at e;cases e
 |some o =>
  rw[q]at e;have e':(b,o)=p:=Option.some.inj e;subst e';exact⟨hb,q⟩
theorem Inv.pinned{pins:Ω}{σ:St}{H:Hp}{s:Shared}{fp:Ε}(I:Inv X pins σ H s)(hf:∀b∈fp,FQ X pins H b)(ho:∀b∈fp,∃o,s.heap.get? b=some o/\∀v,o.data≠.cell v):Inv X (pins++Hh fp s.heap) σ H s :=
 I.pins_of λp hp=>(Y1.mp hp).elim (λz=>I.pin p (aQ _ z)) λz=>by
  obtain⟨hb,e⟩:=Yv z;obtain⟨f0,f1,f2,_⟩:=hf p.1 hb;obtain⟨o,e',d⟩:=ho p.1 hb;rw[e]at e';cases e';exact⟨e,f0,f1,f2,d⟩
theorem Inv.unpinned{pins pl:Ω}{σ:St}{H:Hp}{s:Shared}(I:Inv X (pins++pl) σ H s):Inv X pins σ H s:=I.pins_of λp hp=>I.pin p (aQ _ (List.mem_append_left _ hp))
theorem iR{iter:Expr}{body:List Stmt}{wi:TI}{g:TG}{tb:TS}{pos:Pos}(hp:PassesOwn (model X.prog X.w) X.A X.env X.xe)(hc:X.calm=true)(hi:PI X tg iter wi)(hg:PG X tg g)(hb:PSs X body tb)
 (hs:∀x,foldedSetIterable iter X.env x=pure x:=by intro _;rfl):PS X (.For tg iter body [] pos) (Rz wi g tb):=by
 intro pins s σ H D I h;refine wpAny_For (thn (hi pins s σ H _ I h) λv s1 h1=>thn h1 λitv s2 h2=>?_) hs;obtain⟨it,fp,tn,J,H2,e,I2,T,st2,f2,W,⟨m0,w0⟩,turn⟩:=h2;subst e

 have stat:∀{H':Hp},(∀b∈fp,H' b=none)->∀b∈fp,FQ X pins H' b:=λhn b hb=>⟨hn b hb,(f2 b hb).2⟩;refine codeAny_forLoop_any (λn s'=>∃i σ' H',Inv X pins σ' H' s'/\tn i s'.heap/\(∀b∈fp,H' b=none)/\W i n σ' H') ?_ m0 ⟨0,σ,H2,I2,st2,λb hb=>(f2 b hb).1,w0⟩;rintro n s3 ⟨i,σ3,H3,I3,st3,fr3,w3⟩;rcases turn i n σ3 H3 w3 with⟨stop,qn⟩|⟨go,N,hN,step⟩
 .refine wpAny_passesOwn hp (thn (T.done X rfl rfl rfl hc i pins s3 σ3 H3 X.xe I3 (stat fr3) st3 stop) λr s4 hP=>?_);obtain⟨hr,I4⟩:=hP;subst hr;exact wpAny_execs_nil ⟨σ3,H3,I4,qn⟩
 .refine wpAny_passesOwn hp (thn (T.item X rfl rfl rfl hc i pins s3 σ3 H3 X.xe I3 (stat fr3) st3 go) λr s4 hP=>?_);obtain⟨u,hr,h4⟩:=hP;subst hr;refine wpAny_passesOwn hp (thn h4 λ_ s5 hP=>?_);obtain⟨x,H5,I5,r5,y5,st5,fr5⟩:=hP;have I5':=I5.pinned (stat fr5) (T.obj _ _ st5);refine wpAny_passesOwn hp (thn (hg _ s5 σ3 H5 x u _ I5' r5 (step x H5 y5)) λ_ s6 hP=>?_);obtain⟨σ6,H6,I6,q6⟩:=hP;refine wpAny_passesOwn hp (thn (hb _ s6 σ6 H6 _ I6 q6) λf s7 q7=>?_);have again:∀{σ7:St}{H7:Hp},Inv X (pins++Hh fp s5.heap) σ7 H7 s7->N σ7 H7->∃m,m<n/\∃i σ' H',Inv X pins σ' H' s7/\tn i s7.heap/\(∀b∈fp,H' b=none)/\W i m σ' H':=λ{σ7 H7}I7 n7=>by
   obtain⟨m',hm,w7⟩:=hN σ7 H7 n7;refine⟨m',hm,i+1,σ7,H7,I7.unpinned,T.keep _ _ _ st5 λb hb o e=>(I7.pin (b,o) (aQ _ (aQ _ (rQ hb e)))).1,λb hb=>?_,w7⟩;obtain⟨o,e,d⟩:=T.obj _ _ st5 b hb;exact(I7.pin (b,o) (aQ _ (aQ _ (rQ hb e)))).2.1
  cases f with
  |next=>obtain⟨σ7,H7,I7,n7⟩:=q7;exact again I7 n7
  |cont=>obtain⟨σ7,H7,I7,n7⟩:=q7;exact again I7 n7
  |brk=>obtain⟨σ7,H7,I7,q7⟩:=q7;exact⟨σ7,H7,I7.unpinned,q7⟩
  |ret v=>obtain⟨x7,σ7,H7,I7,r7,q7⟩:=q7;exact⟨x7,σ7,H7,I7.unpinned,r7,q7⟩
end
theorem Sv{c:TT}{tb:TS}{D:Ends}{σ:St}{H:Hp}(Pv:St->Hp->Prop)(μ:St->Hp->Nat)(h0:Pv σ H)
 (hs:∀σ H,Pv σ H->c σ H λb H1=>if b=true then tb { D with nx:=λσ' H'=>Pv σ' H'/\μ σ' H'<μ σ H,ct:=λσ' H'=>Pv σ' H'/\μ σ' H'<μ σ H,bk:=D.nx } σ H1 else D.nx σ H1)
 (mono:∀σ H Q Q',(∀b H1,Q b H1->Q' b H1)->c σ H Q->c σ H Q'):abV c tb D σ H:=by
 refine⟨λm σ H=>m=μ σ H/\Pv σ H,⟨_,rfl,h0⟩,?_⟩;rintro m σ H ⟨rfl,p⟩;refine mono σ H _ _ (λb H1 q=>?_) (hs σ H p);cases b with
 |true=>exact⟨_,λσ' H' hP=>by obtain⟨p',l⟩:=hP;exact⟨_,l,rfl,p'⟩,q⟩
 |false=>exact q
abbrev R2:=V->V->Hp->VK->Prop
def OpR(X:Cx)(f:Value->Value->Sem Value)(r:R2):Prop :=
 ∀(pins:Ω)(s:Shared)(σ:St)(H:Hp)(x y:V)(v u:Value)(Q:VK),Inv X pins σ H s->RelV x v->RelV y u->r x y H Q ->
  wpAny (model X.prog X.w) X.A (f v u) (EP X pins σ Q) X.xe s
def UnR(X:Cx)(f:Value->Sem Value)(r:V->Hp->VK->Prop):Prop :=
 ∀(pins:Ω)(s:Shared)(σ:St)(H:Hp)(x:V)(v:Value)(Q:VK),Inv X pins σ H s->RelV x v->r x H Q ->
  wpAny (model X.prog X.w) X.A (f v) (EP X pins σ Q) X.xe s
def gF(X:Cx)(f:Value)(r:Μ->Hp->VK->Prop):Prop :=
 ∀(pins:Ω)(s:Shared)(σ:St)(H:Hp)(xs:Μ)(us:Ξ)(Q:VK),Inv X pins σ H s->Vals xs us->r xs H Q ->
  wpAny (model X.prog X.w) X.A (call f us) (EP X pins σ Q) X.xe s
def aj4(X:Cx)(r:V->Hp->(Bool->Hp->Prop)->Prop):Prop :=
 ∀(pins:Ω)(s:Shared)(σ:St)(H:Hp)(x:V)(v:Value)(Q:Bool->Hp->Prop),Inv X pins σ H s->RelV x v->r x H Q ->
  wpAny (model X.prog X.w) X.A (truthy v) (TP X pins σ Q) X.xe s
def tOp(r:R2)(ta tb:TE):TE:=λσ H Q=>ta σ H λx H1=>tb σ H1 λy H2=>r x y H2 Q
def tUn(r:V->Hp->VK->Prop)(ta:TE):TE:=λσ H Q=>ta σ H λx H1=>r x H1 Q
def rI(C:Int->Int->Prop)(g:Int->Int->V):R2:=λx y H Q=>∃i j,x=.int i/\y=.int j/\C i j/\Q (g i j) H
def rI0(g:Int->Int->V):R2:=λx y H Q=>∃i j,x=.int i/\y=.int j/\Q (g i j) H
def rU(g:Int->V):V->Hp->VK->Prop:=λx H Q=>∃i,x=.int i/\Q (g i) H
section
variable{X:Cx}{a b c:Expr}{ta tb tc:TE}{pos:Pos}
theorem afl(ha:PE X a ta)(hb:PE X b tb){pins:Ω}{s:Shared}{σ:St}{H:Hp}{R:V->V->Hp->Prop}(I:Inv X pins σ H s)
 (h:ta σ H λx H1=>tb σ H1 λy H2=>R x y H2){Q:Κ}{f:Value->Value->Sem Value}
 (hf:∀v u s2 x y H2,Inv X pins σ H2 s2->RelV x v->RelV y u->R x y H2->wpAny (model X.prog X.w) X.A (f v u) Q X.xe s2) :
  wpAny (model X.prog X.w) X.A (eval a X.env) (λv s₁=>wpAny (model X.prog X.w) X.A (eval b X.env) (λu s₂=>wpAny (model X.prog X.w) X.A (f v u) Q X.xe s₂) X.xe s₁) X.xe s:=by
 refine thn (ha pins s σ H _ I h) λv s1 hP=>?_;obtain⟨x,H1,I1,r1,q1⟩:=hP;refine thn (hb pins s1 σ H1 _ I1 q1) λu s2 hP=>?_;obtain⟨y,H2,I2,r2,q2⟩:=hP;exact hf v u s2 x y H2 I2 r1 r2 q2
theorem bU{op:Operator}{r:R2}(ho:OpR X (binaryOp op) r)(ha:PE X a ta)(hb:PE X b tb):PE X (.BinOp a op b pos) (tOp r ta tb):=by
 intro pins s σ H Q I h;exact wpAny_BinOp (afl ha hb I h λv u s2 x y H2 I2 rx ry q=>ho pins s2 σ H2 x y v u Q I2 rx ry q)
theorem Et{op:UnaryOp}{r:V->Hp->VK->Prop}(ho:UnR X (unaryOp op) r)(ha:PE X a ta):PE X (.UnaryOp op a pos) (tUn r ta):=by
 intro pins s σ H Q I h;exact UnaryOp_ (thn (ha pins s σ H _ I h) λv s1 hP=>by obtain⟨x,H1,I1,r1,q1⟩:=hP;exact ho pins s1 σ H1 x v Q I1 r1 q1)
theorem opI{f:Value->Value->Sem Value}{C:Int->Int->Prop}{g:Int->Int->Int}
 (rule:∀(i j:Int)(t u:Tok)(s:Shared)(Q:Κ)(E:Κ),C i j->Q (.int (g i j) s.toks) { s with toks:=s.toks+1 }->wpAny (model X.prog X.w) X.A (f (.int i t) (.int j u)) Q E s) :
  OpR X f (rI C λi j=>.int (g i j)):=by
 intro pins s σ H x y v u Q I rx ry h;obtain⟨i,j,rfl,rfl,hc,q⟩:=h;obtain⟨t,rfl⟩:=rx;obtain⟨t',rfl⟩:=ry;exact rule i j t t' s _ _ hc ⟨.int (g i j),H,I.tok _,⟨_,rfl⟩,q⟩
theorem ajk{f:Value->Value->Sem Value}{g:Int->Int->Int}
 (rule:∀(i j:Int)(t u:Tok)(s:Shared)(Q:Κ)(E:Κ),Q (.int (g i j) s.toks) { s with toks:=s.toks+1 }->wpAny (model X.prog X.w) X.A (f (.int i t) (.int j u)) Q E s) :
  OpR X f (rI0 λi j=>.int (g i j)):=by
 intro pins s σ H x y v u Q I rx ry h;obtain⟨i,j,rfl,rfl,q⟩:=h;obtain⟨t,rfl⟩:=rx;obtain⟨t',rfl⟩:=ry;exact rule i j t t' s _ _ ⟨.int (g i j),H,I.tok _,⟨_,rfl⟩,q⟩
theorem ab8{f:Value->Value->Sem Value}{g:Int->Int->Bool}
 (rule:∀(i j:Int)(t u:Tok)(s:Shared)(Q:Κ)(E:Κ),Q (.bool (g i j)) s->wpAny (model X.prog X.w) X.A (f (.int i t) (.int j u)) Q E s) :
  OpR X f (rI0 λi j=>.bl (g i j)):=by
 intro pins s σ H x y v u Q I rx ry h;obtain⟨i,j,rfl,rfl,q⟩:=h;obtain⟨t,rfl⟩:=rx;obtain⟨t',rfl⟩:=ry;exact rule i j t t' s _ _ ⟨.bl (g i j),H,I,rfl,q⟩
def aie(i j:Int):Prop:=0<=j/\j<=1000000/\i.natAbs<2^64
def afr(i j:Int):Prop:=(-(2^64)<i/\i<2^64)\/(-(2^64)<j/\j<2^64)
theorem afr.ok{i j:Int}(h:afr i j):IntMulOk i j:=by
 rcases h with⟨h1,h2⟩|⟨h1,h2⟩
 .exact .of_left (intBits_le_64 h1 h2)
 .exact .of_right (intBits_le_64 h1 h2)
theorem dW:OpR X (binaryOp .Add) (rI0 λi j=>.int (i+j)):=ajk λ_ _ _ _ _ _ _ q=>add_int q
theorem oZ:OpR X (binaryOp .Sub) (rI0 λi j=>.int (i-j)):=ajk λ_ _ _ _ _ _ _ q=>sub_int q
theorem U6:OpR X (binaryOp .Mult) (rI afr λi j=>.int (i*j)):=opI λ_ _ _ _ _ _ _ hc q=>mul_int q hc.ok
theorem cY:OpR X (binaryOp .Mod) (rI (λ_ j=>0<j) λi j=>.int (i%j)):=opI λi j _ _ _ _ _ hc q=>by
 have h1:(0:Int)<j:=hc;exact mod_int' (Int.ne_of_gt hc) (by rw[aX i (XZ hc)];exact q)
theorem pW:OpR X (binaryOp .Mod) (rI (λ_ j=>j≠0) λi j=>.int (i.fmod j)):=opI λ_ _ _ _ _ _ _ hc q=>mod_int' hc q
theorem N6:OpR X (binaryOp .Pow) (rI aie λi j=>.int (i^j.toNat)):=opI λ_ _ _ _ _ _ _ hc q=>pow_int_small hc.1 hc.2.1 hc.2.2 q
theorem unI{f:Value->Sem Value}{g:Int->Int}
 (rule:∀(i:Int)(t:Tok)(s:Shared)(Q:Κ)(E:Κ),Q (.int (g i) s.toks) { s with toks:=s.toks+1 }->wpAny (model X.prog X.w) X.A (f (.int i t)) Q E s) :
  UnR X f (rU λi=>.int (g i)):=by
 intro pins s σ H x v Q I rx h;obtain⟨i,rfl,q⟩:=h;obtain⟨t,rfl⟩:=rx;exact rule i t s _ _ ⟨.int (g i),H,I.tok _,⟨_,rfl⟩,q⟩
theorem xT:UnR X (unaryOp .USub) (rU λi=>.int (-i)):=unI λ_ _ _ _ _ q=>neg_int q
end
noncomputable def yJ:V->V->Bool
 |.non,.non=>true|.non,.int _=>true|.int _,.non=>true|.non,.bl _=>true|.bl _,.non=>true|.non,.str _=>true|.str _,.non=>true
 |.int _,.int _=>true|.bl _,.bl _=>true|.str _,.str _=>true|.byt _,.byt _=>true
 |.int _,.str _=>true|.str _,.int _=>true|.bl _,.str _=>true|.str _,.bl _=>true
 |_,_=>false
def rEq:R2:=λx y H Q=>yJ x y=true/\Q (.bl (decide (x=y))) H
def rNe:R2:=λx y H Q=>yJ x y=true/\Q (.bl (!decide (x=y))) H
theorem Wf{i j:Int} : decide (V.int i=V.int j)=(i==j):=by
 rw[Bool.eq_iff_iff];simp
theorem aas{i j:Bool} : decide (V.bl i=V.bl j)=(i==j):=by
 rw[Bool.eq_iff_iff];simp
theorem Wr{i j:Str} : decide (V.str i=V.str j)=(i==j):=by
 rw[Bool.eq_iff_iff];simp
theorem Wx{i j:Array UInt8} : decide (V.byt i=V.byt j)=(i.toList==j.toList):=by
 rw[Bool.eq_iff_iff];cases i;cases j;simp
section
variable{X:Cx}{a b c:Expr}{ta tb tc:TE}{pos:Pos}
theorem dY{pins:Ω}{σ:St}{H:Hp}{s:Shared}{Q:VK}{k k':Bool}(I:Inv X pins σ H s)(q:Q (.bl k) H)(e:k=k'):EP X pins σ Q (.bool k') s:=by
 subst e;exact⟨.bl k,H,I,rfl,q⟩
theorem mZ:OpR X (compareOp .Eq) rEq:=by
 intro pins s σ H x y v u Q I rx ry h;obtain⟨hs,q⟩:=h;cases x with
 |non =>
  cases rx;cases y with
  |non=>cases ry;exact PySem.EqNone.eq_none_none (dY I q (by simp))
  |bl j=>cases ry;exact PySem.EqNone.eq_none_bool (dY I q (by simp))
  |int j=>obtain⟨t',rfl⟩:=ry;exact PySem.EqNone.eq_none_int (dY I q (by simp))
  |str j=>obtain⟨t',rfl⟩:=ry;exact PySem.EqNone.eq_none_str (dY I q (by simp))
  |_=>exact absurd (show false=true from hs) bC
 |bl i =>
  cases rx;cases y with
  |non=>cases ry;exact PySem.EqNone.eq_bool_none (dY I q (by simp))
  |bl j=>cases ry;exact eq_bool (dY I q aas)
  |str j=>obtain⟨t',rfl⟩:=ry;exact PySem.EqMixed.eq_bool_str (dY I q (by simp))
  |_=>exact absurd (show false=true from hs) bC
 |int i =>
  obtain⟨t,rfl⟩:=rx;cases y with
  |non=>cases ry;exact PySem.EqNone.eq_int_none (dY I q (by simp))
  |int j=>obtain⟨t',rfl⟩:=ry;exact eq_int (dY I q Wf)
  |str j=>obtain⟨t',rfl⟩:=ry;exact PySem.EqMixed.eq_int_str (dY I q (by simp))
  |_=>exact absurd (show false=true from hs) bC
 |str i =>
  obtain⟨t,rfl⟩:=rx;cases y with
  |non=>cases ry;exact PySem.EqNone.eq_str_none (dY I q (by simp))
  |bl j=>cases ry;exact PySem.EqMixed.eq_str_bool (dY I q (by simp))
  |int j=>obtain⟨t',rfl⟩:=ry;exact PySem.EqMixed.eq_str_int (dY I q (by simp))
  |str j=>obtain⟨t',rfl⟩:=ry;exact eq_str (dY I q Wr)
  |_=>exact absurd (show false=true from hs) bC
 |byt i =>
  obtain⟨t,rfl⟩:=rx;cases y with
  |byt j=>obtain⟨t',rfl⟩:=ry;exact PySem.W.eq_bytes (dY I q Wx)
  |_=>exact absurd (show false=true from hs) bC
 |_=>cases y<;>exact absurd (show false=true from hs) bC
theorem Ce:OpR X (compareOp .NotEq) rNe:=by
 intro pins s σ H x y v u Q I rx ry h;obtain⟨hs,q⟩:=h;cases x with
 |non =>
  cases rx;cases y with
  |non=>cases ry;exact PySem.EqNone.ne_none_none (dY I q (by simp))
  |bl j=>cases ry;exact PySem.EqNone.ne_none_bool (dY I q (by simp))
  |int j=>obtain⟨t',rfl⟩:=ry;exact PySem.EqNone.ne_none_int (dY I q (by simp))
  |str j=>obtain⟨t',rfl⟩:=ry;exact PySem.EqNone.ne_none_str (dY I q (by simp))
  |_=>exact absurd (show false=true from hs) bC
 |bl i =>
  cases rx;cases y with
  |non=>cases ry;exact PySem.EqNone.ne_bool_none (dY I q (by simp))
  |bl j=>cases ry;exact ne_bool (dY I q (ZH not aas))
  |str j=>obtain⟨t',rfl⟩:=ry;exact PySem.EqMixed.ne_bool_str (dY I q (by simp))
  |_=>exact absurd (show false=true from hs) bC
 |int i =>
  obtain⟨t,rfl⟩:=rx;cases y with
  |non=>cases ry;exact PySem.EqNone.ne_int_none (dY I q (by simp))
  |int j=>obtain⟨t',rfl⟩:=ry;exact ne_int (dY I q (ZH not Wf))
  |str j=>obtain⟨t',rfl⟩:=ry;exact PySem.EqMixed.ne_int_str (dY I q (by simp))
  |_=>exact absurd (show false=true from hs) bC
 |str i =>
  obtain⟨t,rfl⟩:=rx;cases y with
  |non=>cases ry;exact PySem.EqNone.ne_str_none (dY I q (by simp))
  |bl j=>cases ry;exact PySem.EqMixed.ne_str_bool (dY I q (by simp))
  |int j=>obtain⟨t',rfl⟩:=ry;exact PySem.EqMixed.ne_str_int (dY I q (by simp))
  |str j=>obtain⟨t',rfl⟩:=ry;exact ne_str (dY I q (ZH not Wr))
  |_=>exact absurd (show false=true from hs) bC
 |byt i =>
  obtain⟨t,rfl⟩:=rx;cases y with
  |byt j=>obtain⟨t',rfl⟩:=ry;exact PySem.W.ne_bytes (dY I q (ZH not Wx))
  |_=>exact absurd (show false=true from hs) bC
 |_=>cases y<;>exact absurd (show false=true from hs) bC
theorem zL:OpR X (compareOp .Lt) (rI0 λi j=>.bl (decide (i<j))):=ab8 λ_ _ _ _ _ _ _ q=>lt_int q
theorem zT:OpR X (compareOp .LtE) (rI0 λi j=>.bl (decide (i<=j))):=ab8 λ_ _ _ _ _ _ _ q=>le_int q
theorem RX:OpR X (compareOp .Gt) (rI0 λi j=>.bl (decide (j<i))):=ab8 λ_ _ _ _ _ _ _ q=>gt_int q
theorem ZG:OpR X (compareOp .GtE) (rI0 λi j=>.bl (decide (j<=i))):=ab8 λ_ _ _ _ _ _ _ q=>ge_int q
theorem xO:OpR X (compareOp .Is) (λx y H Q=>y=.non/\Q (.bl (decide (x=.non))) H):=by
 intro pins s σ H x y v u Q I rx ry h;obtain⟨rfl,q⟩:=h;cases ry;refine is_none_gen (dY I q ?_);cases x<;>first
  |(cases rx;rfl)
  |(obtain⟨t,rfl⟩:=rx;rfl)
theorem cJ(b:Expr){op:CmpOp}(h:op≠.In:=by decide)(h2:op≠.NotIn:=by decide):behindInMarks op b=false:=by
 have e1:(op==CmpOp.In)=false:=by cases op<;>first|rfl|exact absurd rfl h
 have e2:(op==CmpOp.NotIn)=false:=by cases op<;>first|rfl|exact absurd rfl h2
 cases b<;>simp[behindInMarks,e1,e2]
theorem oE{op:CmpOp}{r:R2}(ho:OpR X (compareOp op) r)(ha:PE X a ta)(hb:PE X b tb)(hm:behindInMarks op b=false):PE X (.Compare a [op] [b] pos) (tOp r ta tb):=by
 intro pins s σ H Q I h;exact wpAny_Compare1 (afl ha hb I h λv u s2 x y H2 I2 rx ry q=>ho pins s2 σ H2 x y v u Q I2 rx ry q) hm
def Cu(t:TE):TT:=λσ H Q=>t σ H λx H'=>∃k,x=.bl k/\Q k H'
theorem cI{op:CmpOp}{r:R2}(ho:OpR X (compareOp op) r)(ha:PE X a ta)(hb:PE X b tb)(hm:behindInMarks op b=false):PT X (.Compare a [op] [b] pos) (Cu (tOp r ta tb)):=by
 intro pins s σ H Q I h;refine wpAny_isTrue_Compare1 (thn (ha pins s σ H _ I h) λv s1 ⟨x,H1,I1,r1,q1⟩=>thn (hb pins s1 σ H1 _ I1 q1) λu s2 ⟨y,H2,I2,r2,q2⟩ =>
  thn (ho pins s2 σ H2 x y v u _ I2 r1 r2 q2) λc s3 ⟨z,H3,I3,r3,k,e,q3⟩=>?_) hm
 subst e;cases r3;exact wpAny_truthy_bool ⟨H3,I3,q3⟩
def Ji(r r':R2)(ta tb tc:TE):TE:=λσ H Q=>ta σ H λx H1=>tb σ H1 λy H2=>r x y H2 λz H3=>∃k,z=.bl k /\
 (if k=true then tc σ H3 λw' H4=>r' y w' H4 Q else Q (.bl false) H3)
theorem QF{op op':CmpOp}{r r':R2}(ho:OpR X (compareOp op) r)(ho':OpR X (compareOp op') r')(ha:PE X a ta)(hb:PE X b tb)(hc:PE X c tc)
 (hm:lastMarks [op,op'] [b,c]=false:=by with_unfolding_all rfl):PE X (.Compare a [op,op'] [b,c] pos) (Ji r r' ta tb tc):=by
 intro pins s σ H Q I h;refine Compare_chain (thn (ha pins s σ H _ I h) λv s1 ⟨x,H1,I1,r1,q1⟩=>chain_link (thn (hb pins s1 σ H1 _ I1 q1) λu s2 ⟨y,H2,I2,r2,q2⟩ =>
  thn (ho pins s2 σ H2 x y v u _ I2 r1 r2 q2) λd s3 ⟨z,H3,I3,r3,k,e,q3⟩=>?_)) hm
 subst e;cases r3;refine wpAny_truthy_bool ?_;cases k with
 |false=>exact ite_ff ⟨.bl false,H3,I3,rfl,q3⟩
 |true=>exact ite_tt (chain_last (thn (hc pins s3 σ H3 _ I3 q3) λw' s4 hP=>by obtain⟨z',H4,I4,r4,q4⟩:=hP;exact ho' pins s4 σ H4 y z' u w' Q I4 r2 r4 q4))
theorem BZ{op op':CmpOp}{r r':R2}(ho:OpR X (compareOp op) r)(ho':OpR X (compareOp op') r')(ha:PE X a ta)(hb:PE X b tb)(hc:PE X c tc)
 (hm:lastMarks [op,op'] [b,c]=false:=by with_unfolding_all rfl):PT X (.Compare a [op,op'] [b,c] pos) (Cu (Ji r r' ta tb tc)):=by
 intro pins s σ H Q I h;refine isTrue_chain (thn (ha pins s σ H _ I h) λv s1 ⟨x,H1,I1,r1,q1⟩=>test_link (thn (hb pins s1 σ H1 _ I1 q1) λu s2 ⟨y,H2,I2,r2,q2⟩ =>
  thn (ho pins s2 σ H2 x y v u _ I2 r1 r2 q2) λd s3 ⟨z,H3,I3,r3,k,e,q3⟩=>?_)) hm
 subst e;cases r3;refine wpAny_truthy_bool ?_;cases k with
 |false =>
  obtain⟨k',e',q'⟩:=q3;cases e';exact ite_ff ⟨H3,I3,q'⟩
 |true =>
  refine ite_tt (test_last (thn (hc pins s3 σ H3 _ I3 q3) λw' s4 ⟨z',H4,I4,r4,q4⟩=>thn (ho' pins s4 σ H4 y z' u w' _ I4 r2 r4 q4) λd' s5 hP=>?_));obtain⟨z2,H5,I5,r5,k2,e2,q5⟩:=hP;subst e2;cases r5;exact wpAny_truthy_bool ⟨H5,I5,q5⟩
def ahc(K:Frag)(x:V)(H:Hp)(k:Bool):Prop :=
 match x with
 |.non=>k=false
 |.bl b=>k=b
 |.int i=>k=(i != 0)
 |.str y=>y.length<=sizeLine/\k=((y.length:Int) != 0)
 |.byt y=>y.size<=sizeLine/\k=((y.size:Int) != 0)
 |.ref p=>(∃xs,SqL K H p xs/\k = !xs.isEmpty)\/(∃xs,SqT K H p xs/\k = !xs.isEmpty)\/∃kvs,H p=some (.dK kvs)/\k = !kvs.isEmpty
 |_=>False
theorem UL{κ:Type}{kvs:List (κ×V)}{vs:List (κ×Value)}(r:KV kvs vs):(!vs.isEmpty) = !kvs.isEmpty:=by
 cases r<;>rfl
theorem Gy{xs:Μ}{its:Ξ}(r:Vals xs its):(!its.toArray.isEmpty) = !xs.isEmpty:=by
 cases r<;>simp
theorem v9:(sizeLine:Nat)<2^63:=by rw[sizeLine_eq];decide
theorem aey:aj4 X (λx H Q=>∃k,ahc X.K x H k/\Q k H):=by
 intro pins s σ H x v Q I rx h;obtain⟨k,e,q⟩:=h;have hl:=v9;have hs:sizeLine=16777216:=sizeLine_eq;cases x with
 |non =>
  cases rx;have e':k=false:=e;subst e';exact truthy_none ⟨H,I,q⟩
 |bl b =>
  cases rx;have e':k=b:=e;subst e';exact wpAny_truthy_bool ⟨H,I,q⟩
 |int i =>
  obtain⟨t,rfl⟩:=rx;have e':k=(i != 0):=e;subst e';exact PySem.P.truthy_int ⟨H,I,q⟩
 |str y =>
  obtain⟨t,rfl⟩:=rx;obtain⟨hy,e'⟩ : y.length<=sizeLine/\k=((y.length:Int) != 0):=e;subst e';exact PySem.P.truthy_str (by lia) ⟨H,I.tok _,q⟩
 |byt y =>
  obtain⟨t,rfl⟩:=rx;obtain⟨hy,e'⟩ : y.size<=sizeLine/\k=((y.size:Int) != 0):=e;subst e';exact PySem.W.truthy_bytes (aM hy (by decide)) ⟨H,I.tok _,q⟩
 |ref p =>
  cases rx;have e':(∃xs,SqL X.K H p xs/\k = !xs.isEmpty)\/(∃xs,SqT X.K H p xs/\k = !xs.isEmpty)\/∃kvs,H p=some (.dK kvs)/\k = !kvs.isEmpty:=e;rcases e' with⟨xs,hx,e'⟩|⟨xs,hx,e'⟩|⟨kvs,hx,e'⟩
  .subst e';obtain⟨its,r,pl,hz⟩:=I.list hx;have hlen:=r.length;exact wpAny_truthy_list pl.isList (by simp only[aZ];lia) ⟨H,I.tok _,by rw[Gy r];exact q⟩
  .subst e';obtain⟨its,r,pl,hz⟩:=I.tuple hx;have hlen:=r.length;exact truthy_tuple pl (by simp only[aZ];lia) ⟨H,I.tok _,by rw[Gy r];exact q⟩
  .subst e';obtain⟨hz,hS,vs,r,m⟩ : kvs.length<=sizeLine/\(p==sysModules)=false/\∃vs,KV kvs vs/\s.heap.DictOf (mH X.prog X.w) p vs:=I.hok p _ hx;have hlen:kvs.length=vs.length:=Paired.length r;exact wpAny_truthy_dict hS m (by lia) ⟨H,I.tok _,by rw[UL r];exact q⟩
 |_=>exact(show False from e).elim
theorem TJ:OpR X (binaryOp .Add) (λx y H Q=>∃i j,x=.str i/\y=.str j/\i.length+j.length<=sizeLine/\Q (.str (i++j)) H):=by
 intro pins s σ H x y v u Q I rx ry h;obtain⟨i,j,rfl,rfl,hz,q⟩:=h;obtain⟨t,rfl⟩:=rx;obtain⟨t',rfl⟩:=ry;exact add_str (λt' tk=>⟨.str (i++j),H,I.tok _,⟨_,rfl⟩,q⟩) hz
theorem vals1{x:V}{us:Ξ}(r:Vals [x] us):∃u,us=[u]/\RelV x u:=by
 cases r with
 |cons r1 r2=>cases r2;exact⟨_,rfl,r1⟩
theorem vals2{x y:V}{us:Ξ}(r:Vals [x,y] us):∃u w',us=[u,w']/\RelV x u/\RelV y w':=by
 cases r with
 |cons r1 r2 =>
  cases r2 with
  |cons r3 r4=>cases r4;exact⟨_,_,rfl,r1,r3⟩
theorem yC:gF X (.builtin "abs") (λxs H Q=>∃i,xs=[.int i]/\Q (.int (if i<0 then -i else i)) H):=by
 intro pins s σ H xs us Q I r h;obtain⟨i,rfl,q⟩:=h;obtain⟨u,rfl,t,rfl⟩:=vals1 r;exact call_abs_int λu tk=>⟨.int (if i<0 then -i else i),H,I.tok _,⟨_,rfl⟩,q⟩
theorem Xq(hc:X.calm=true):gF X (.builtin "max") (λxs H Q=>∃i j,xs=[.int i,.int j]/\Q (.int (if j>i then j else i)) H):=by
 intro pins s σ H xs us Q I r h;obtain⟨i,j,rfl,q⟩:=h;obtain⟨u,w',rfl,⟨t,rfl⟩,⟨t',rfl⟩⟩:=vals2 r;refine max_two_ints (I.ok.hd hc) λh' tk k=>⟨_,H,I.kept k,?_,q⟩;by_cases hj:j>i
 .rw[ZY hj,ZY hj];exact⟨_,rfl⟩
 .rw[ZZ hj,ZZ hj];exact⟨_,rfl⟩
theorem yR:gF X (.type "int") (λxs H Q=>(∃i,xs=[.int i]/\Q (.int i) H)\/∃k,xs=[.bl k]/\Q (.int (if k then 1 else 0)) H):=by
 intro pins s σ H xs us Q I r h;rcases h with⟨i,rfl,q⟩|⟨k,rfl,q⟩
 .obtain⟨u,rfl,t,rfl⟩:=vals1 r;exact call_int_int ⟨.int i,H,I,⟨_,rfl⟩,q⟩
 .obtain⟨u,rfl,r1⟩:=vals1 r;cases r1;exact call_int_bool ⟨.int (if k then 1 else 0),H,I.tok _,⟨_,rfl⟩,q⟩
end
structure T_(h:Heap)(x dx C:Addr)(mA:Str->Ζ):Prop where
 obj:h.get? x=some (instObj C dx)
 ns:h.Ns1 dx mA
 ne:dx≠x
theorem Xz{h:Heap}{dx:Addr}{mA:Str->Ζ}(n:h.Ns1 dx mA):∃od,h.get? dx=some od/\∀name,lookIn name od=some (mA name):=by
 obtain⟨o,es,ep,ho,hd,hk,_,hm⟩:=n;refine⟨o,ho,λname=>?_⟩;have e:=hm name;unfold nsFind findBy at e;rw[<- Array.find?_toList]at e;unfold lookIn;rw[hd];dsimp only;split
 .rename_i y q
  rw[q]at e;exact ZH some e
 .rename_i q
  rw[q]at e;have a:es.toList.any (·.refKey)=false:=by
   rw[List.any_eq_false];intro y hy;obtain⟨z,t,hkey⟩:=hk y (Array.mem_toList_iff.mp hy);simp[DictEntry.refKey,hkey]
  have a':¬es.toList.any (·.refKey)=true:=by rw[a];exact bC
  rw[ZZ a'];exact ZH some e
theorem T_.look{h:Heap}{x dx C:Addr}{mA:Str->Ζ}(I:T_ h x dx C mA):∃od,PySem.W.InstAt h x (instObj C dx) C (some od)/\∀name,lookIn name od=some (mA name) :=
 let⟨od,ho,hl⟩:=Xz I.ns
 ⟨od,⟨I.obj,rfl,rfl,ho⟩,hl⟩
section
variable{prog:Program}{w:World}{A:Around}{E:Κ}{s:Shared}{K:Frag}{x dx C f:Addr}{mA:Str->Ζ}{name:Str}{v:Value}
theorem get_map{expr:Bool}{Q:Κ}(X:K.In s.heap)(I:T_ s.heap x dx C mA)(hg:plainGet K C name=true)(hh:hasDictIn K C=true)
 (ha:findIn K (.ref C) name=some none)(hv:mA name=some v)(hv':handedIn v=true)(h:Q v { s with toks:=s.toks+1 }) :
  wpAny (model prog w) A (getAttr (.ref x) name expr) Q E s:=by
 obtain⟨od,J,hl⟩:=I.look;exact PySem.W.get_value X J (plainGet_of hg).1 (PySem.W.findObj_own hh ha rfl (by rw[hl,hv])) hv' h
theorem Y0{pl:Sem Bool}{Q:Value×Ξ->Shared->Prop}(X:K.In s.heap)(I:T_ s.heap x dx C mA)(hg:plainGet K C name=true)
 (hf:findIn K (.ref C) name=some (some (.ref f)))(ht:isFn K (.ref f)=true)(hv:mA name=none)(h:Q (.ref f,[.ref x]) s) :
  wpAny (model prog w) A (getMethod (.ref x) name pl) Q E s:=by
 obtain⟨od,J,hl⟩:=I.look;exact PySem.W.method_fn X J (plainGet_of hg).1 (plainGet_of hg).2 hf (beq_iff_eq.mp ht) (by show(lookIn name od).map (·.isSome)=some false;rw[hl,hv];rfl) h
theorem adi{ns:Β}{Q:Unit->Shared->Prop}(X:K.In s.heap)(I:T_ s.heap x dx C mA)
 (hs:findIn K (.ref C) "__setattr__"=some (some (.builtin "object.__setattr__")))(hp:plainOver K C=true)(ht:takerIn K C name=some none)(hh:hasDictIn K C=true)
 (hw:PySem.Within mA ns)(hsz:ns.length<=sizeLine)
 (h:∀h',T_ h' x dx C (λy=>if y=name then some v else mA y)->Heap.SameBut dx s.heap h'->Q () { s with heap:=h',toks:=s.toks+2 }) :
  wpAny (model prog w) A (setAttr (.ref x) name v) Q E s:=by
 obtain⟨od,J,hl⟩:=I.look;refine PySem.W.set_plain X J hs (PySem.W.osa_open (s:={ s with toks:=s.toks+1 }) (r:=none) X J hp ht λb=>?_);obtain⟨cd,hc,hd'⟩:=PySem.W.any_some hh;have hx:s.heap.get? x=some ⟨.ref C,some dx,.plain,#[]⟩:=I.obj;refine ZU (ZT (ZU (ZU (wpAny_loadPart hx (ZU (PySem.W.Looks.here (s:={ s with toks:=s.toks+1 }) (PySem.W.looks_clsIn X hc) ?_))))));rw[hd'];refine ZT (a:=some dx) (ZU (ZT (ZU ?_)));refine wpAny_nsSet1 (s:={ s with toks:=s.toks+1 }) I.ns λh' hn2 hs2=>?_;obtain⟨oD,esD,epD,hoD,hdD,hcD⟩:=hn2.count (PySem.Within.cons name v hw);refine ZU (wpAny_lookBehind hoD (by rw[hdD];exact pastItsLine_dict (aM hcD (by rw[List.length_cons];exact Nat.succ_le_succ hsz))) ?_);exact ZT (h _ ⟨(hs2.2 _ (Ne.symm I.ne)).trans I.obj,hn2,I.ne⟩ hs2)
theorem abM{R:Result->Shared->Prop}{vs:Ξ}{kw:List (Str×Value)}(X:K.In s.heap)(hm:makesIn K C=true)
 (hi:findIn K (.ref C) "__init__"=some (some (.ref f)))(hf:typeIn K (.ref f)=some (.type "function"))
 (h:codeAny (model prog w) (A.under (.builtin "type.__call__" ⟨.ref C::vs,kw⟩)) (.call (.ref f) ⟨.ref (s.heap.objs.size+1)::vs,kw⟩) (PySem.W.InitBack (s.heap.objs.size+1) R)
   { s with heap:=(s.heap.push emptyDict).push (instObj C s.heap.objs.size) }) :
  codeAny (model prog w) A (.call (.ref C) ⟨vs,kw⟩) R s:=by
 obtain⟨hh,g,d,t,os⟩:=s;exact PySem.W.make_core (PySem.W.makes_of X hm) (looks_findIn X hi) (λself=>PySem.W.bind_fn X self hf) (.inl rfl) h
end
noncomputable def nM(f:Str)(v:V):List (Str×V)->List (Str×V)
 |[]=>[(f,v)]
 |(g,x)::r=>if g=f then(g,v)::r else(g,x)::nM f v r
theorem Ew(f g:Str)(v:V):∀fs:List (Str×V),(nM f v fs).lookup g=if g=f then some v else fs.lookup g
 |[]=>by
  show List.lookup g [(f,v)]=_;by_cases h:g=f
  .have hb:(g==f)=true:=beq_iff_eq.mpr h;simp only[List.lookup,hb,ZY h]
  .have hb:(g==f)=false:=beq_eq_false_iff_ne.mpr h;simp only[List.lookup,hb,ZZ h]
 |(k,x)::r=>by
  have ih:=Ew f g v r;rw[show nM f v ((k,x)::r)=(if k=f then(k,v)::r else(k,x)::nM f v r)from rfl];by_cases hk:k=f
  .rw[ZY hk];by_cases h:g=k
   .have hb:(g==k)=true:=beq_iff_eq.mpr h;simp only[List.lookup,hb,ZY (h.trans hk)]
   .have hb:(g==k)=false:=beq_eq_false_iff_ne.mpr h;simp only[List.lookup,hb,ZZ (λe:g=f=>h (e.trans hk.symm))]
  .rw[ZZ hk];by_cases h:g=k
   .have hb:(g==k)=true:=beq_iff_eq.mpr h;simp only[List.lookup,hb,ZZ (λe:g=f=>hk (h.symm.trans e))]
   .have hb:(g==k)=false:=beq_eq_false_iff_ne.mpr h;simp only[List.lookup,hb];exact ih
theorem Ei(f:Str)(v:V):∀fs:List (Str×V),f∈(nM f v fs).map (·.1)/\∀g,g∈fs.map (·.1)->g∈(nM f v fs).map (·.1)
 |[]=>⟨by simp[nM],λg h=>by simp at h⟩
 |(k,x)::r=>by
  obtain⟨i1,i2⟩:=Ei f v r;rw[show nM f v ((k,x)::r)=(if k=f then(k,v)::r else(k,x)::nM f v r)from rfl];by_cases hk:k=f
  .rw[ZY hk];subst hk;exact⟨by simp,λg h=>by simpa using h⟩
  .rw[ZZ hk];refine⟨?_,λg h=>?_⟩
   .rw[List.map_cons];exact aH _ i1
   .rw[List.map_cons]at h ⊢;rcases YU.mp h with e|e
    .exact YU.mpr (.inl e)
    .exact aH _ (i2 g e)
theorem Fi(f:Str)(v:V):∀fs:List (Str×V),(nM f v fs).length<=fs.length+1
 |[]=>by simp[nM]
 |(k,x)::r=>by
  have ih:=Fi f v r;rw[show nM f v ((k,x)::r)=(if k=f then(k,v)::r else(k,x)::nM f v r)from rfl];by_cases hk:k=f
  .rw[ZY hk,List.length_cons,List.length_cons];exact Y3 _
  .rw[ZZ hk,List.length_cons,List.length_cons];exact Nat.succ_le_succ ih
theorem zB.some_of{v:V}{o:Ζ}(r:zB (some v) o):∃u,o=some u/\RelV v u:=by
 cases o with
 |none=>exact(show False from r).elim
 |some u=>exact⟨u,rfl,r⟩
theorem zB.none_of{o:Ζ}(r:zB none o):o=none:=by
 cases o with
 |none=>rfl
 |some u=>exact(show False from r).elim
theorem Xj{v:V}{u:Value}(r:RelV v u):handedIn u=true:=by
 cases v with
 |non=>cases(show u=Value.none from r);rfl
 |bl b=>cases(show u=Value.bool b from r);rfl
 |int i=>obtain⟨t,e⟩:=(show ∃t,u=Value.int i t from r);cases e;rfl
 |str x=>obtain⟨t,e⟩:=(show ∃t,u=Value.str x t from r);cases e;rfl
 |byt b=>obtain⟨t,e⟩:=(show ∃t,u=Value.bytes b t from r);cases e;rfl
 |flt b=>obtain⟨t,e⟩:=(show ∃t,u=Value.float b t from r);cases e;rfl
 |ref a=>cases(show u=Value.ref a from r);rfl
 |ty n=>cases(show u=Value.type n from r);rfl
section
variable{P:Program}{w:World}{H H':Hp}{h h':Heap}{a C dx:Addr}{fs fs':List (Str×V)}
theorem Gm(hok:HOk P w H h)(e:H a=some (.ins C dx fs)):∃mA,T_ h a dx C mA/\(∀f,zB (fs.lookup f) (mA f))/\PySem.Within mA (fs.map (·.1))/\fs.length<=1000/\H dx=some (.own a):=by
 obtain⟨d,z,ne,ob,mA,n,r,q⟩:=(show eF P w H h a (.ins C dx fs)from hok a _ e);exact⟨mA,⟨ob,n,ne⟩,r,q,z,d⟩
end
structure Cls(K:Frag)(C:Addr):Prop where
 pg:plainGet K C Str.empty=true
 hd:hasDictIn K C=true
 po:plainOver K C=true
 sa:findIn K (.ref C) "__setattr__"=some (some (.builtin "object.__setattr__"))
theorem Cls.get{K:Frag}{C:Addr}(c:Cls K C)(f:Str):plainGet K C f=true:=c.pg
def dZ(K:Frag)(C:Addr)(f:Str):Prop:=findIn K (.ref C) f=some none
theorem dZ.taker{K:Frag}{C:Addr}{f:Str}(n:dZ K C f):takerIn K C f=some none:=by
 unfold takerIn;rw[show findIn K (.ref C) f=some none from n]
 rfl
structure Meth(K:Frag)(C:Addr)(m:Str)(f:Addr):Prop where
 at_:findIn K (.ref C) m=some (some (.ref f))
 fn:isFn K (.ref f)=true
 kp:keepIn K (.ref f)=true
section
variable{X:Cx}{pins:Ω}{σ:St}{H:Hp}{s:Shared}{a C dx:Addr}{fs:List (Str×V)}{f:Str}{v:V}{A:Around}{E:Κ}
theorem U4{b:Bool}{Q:Κ}(I:Inv X pins σ H s)(e:H a=some (.ins C dx fs))(c:Cls X.K C)(n:dZ X.K C f)(l:fs.lookup f=some v)
 (h:∀u s',Inv X pins σ H s'->RelV v u->Q u s'):wpAny (model X.prog X.w) A (getAttr (.ref a) f b) Q E s:=by
 obtain⟨mA,O,r,_,_,_⟩:=Gm I.hok e;obtain⟨u,hu,ru⟩:=zB.some_of (v:=v) (o:=mA f) (by rw[<- l];exact r f);exact get_map I.kIn O (c.get f) c.hd n hu (Xj ru) (h u _ (I.tok _) ru)
theorem Jk{m:Str}{g:Addr}{pl:Sem Bool}{Q:Value×Ξ->Shared->Prop}(I:Inv X pins σ H s)(e:H a=some (.ins C dx fs))(c:Cls X.K C)(k:Meth X.K C m g)(l:fs.lookup m=none)
 (h:Q (.ref g,[.ref a]) s):wpAny (model X.prog X.w) A (getMethod (.ref a) m pl) Q E s:=by
 obtain⟨mA,O,r,_,_,_⟩:=Gm I.hok e;have hn:mA m=none:=zB.none_of (by rw[<- l];exact r m);exact Y0 I.kIn O (c.get m) k.at_ k.fn hn h
theorem Ut{y:V}{u:Value}{Q:Unit->Shared->Prop}(I:Inv X pins σ H s)(e:H a=some (.ins C dx fs))(c:Cls X.K C)(n:dZ X.K C f)(hl:fs.length<1000)(ry:RelV y u)
 (h:∀s',Inv X pins σ (upd H a (.ins C dx (nM f y fs))) s'->Q () s'):wpAny (model X.prog X.w) A (setAttr (.ref a) f u) Q E s:=by
 obtain⟨mA,O,r,wi,_,ho⟩:=Gm I.hok e;have hz:(fs.map (·.1)).length<=sizeLine:=by rw[ak,sizeLine_eq];exact aM (Nat.le_of_lt hl) (by decide)
 refine adi I.kIn O c.sa c.po n.taker c.hd wi hz λh' O' sb=>h _ ?_;have hd:∃o,h'.get? dx=some o:=by obtain⟨o,_,_,e',_⟩:=O'.ns;exact⟨o,e'⟩
 refine I.write (x:=a) (e:=dx) (by rw[e];exact True.intro) (.inr ho) (λb q hb z=>(sb.2 b hb).trans z) hd ?_;refine⟨by rw[bK O.ne];exact ho,?_,O.ne,O'.obj,_,O'.ns,λg=>?_,λg hg=>?_⟩
 .have:=Fi f y fs;lia
 .show zB ((nM f y fs).lookup g) (if g=f then some u else mA g);rw[Ew];by_cases q:g=f
  .rw[ZY q,ZY q];exact ry
  .rw[ZZ q,ZZ q];exact r g
 .by_cases q:g=f
  .rw[q];exact(Ei f y fs).1
  .refine(Ei f y fs).2 g (wi g λz=>hg ?_);show(if g=f then some u else mA g)=none;rw[ZZ q];exact z
theorem Inv.made(I:Inv X pins σ H s):Inv X pins σ (upd (upd H s.heap.objs.size (.own (s.heap.objs.size+1))) (s.heap.objs.size+1) (.ins C s.heap.objs.size []))
  { s with heap:=(s.heap.push emptyDict).push (instObj C s.heap.objs.size) }:=by
 have e1:(s.heap.push emptyDict).get? s.heap.objs.size=some emptyDict:=aY s.heap rfl;have e2:((s.heap.push emptyDict).push (instObj C s.heap.objs.size)).get? (s.heap.objs.size+1)=some (instObj C s.heap.objs.size):=by
  have:=aY (s.heap.push emptyDict) (o:=instObj C s.heap.objs.size) rfl;rwa[Heap.size_push]at this
 have e3:(s.heap.push emptyDict).Ns s.heap.objs.size (λ_=>none):=⟨emptyDict,#[],_,e1,rfl,(λe he=>absurd he (by simp)),λ_=>rfl⟩;have I1:=I.laid (a:=s.heap.objs.size) (o:=.own (s.heap.objs.size+1)) (h':=s.heap.push emptyDict) (t':=s.toks) (λb u q=>aG _ q) (aF _) ⟨_,e1⟩;refine I1.laid (a:=s.heap.objs.size+1) (o:=.ins C s.heap.objs.size []) (t':=s.toks) (λb u q=>aG _ q) (Nat.le_of_eq (Heap.size_push _ _)) ?_;have ne:s.heap.objs.size≠s.heap.objs.size+1:=aR (X1 _);refine⟨by rw[bK ne,bI],bw _,ne,e2,λ_=>none,(Heap.Ns1.of_empty e3).at λo q=>aG _ q,λ_=>True.intro,λy hy=>absurd rfl hy⟩
theorem ab0{prog:Program}{w:World}{env:Env}{e:Expr}{f:Str}{pos:Pos}{s:Shared}{Q:Κ}(hb:attributeBase e f env (eval e env)=eval e env)
 (h:wpAny (model prog w) A (eval e env) (λo s₁=>wpAny (model prog w) A (getAttr o f true) Q E s₁) E s):wpAny (model prog w) A (eval (.Attribute e f pos) env) Q E s :=
 Attribute_any_ h (by rw[arm_eval_Attribute,hb])
end
def abK(K:Frag)(ta:TE)(f:Str):TE:=λσ H Q=>ta σ H λx H1=>∃a C dx fs v,x=.ref a/\H1 a=some (.ins C dx fs)/\Cls K C/\dZ K C f/\fs.lookup f=some v/\Q v H1
def ab9(K:Frag)(ta tv:TE)(f:Str):TS:=λD σ H=>tv σ H λy H1=>ta σ H1 λx H2=>∃a C dx fs,x=.ref a/\H2 a=some (.ins C dx fs)/\Cls K C/\dZ K C f/\fs.length<1000 /\
 D.nx σ (upd H2 a (.ins C dx (nM f y fs)))
section
variable{X:Cx}{o e value:Expr}{f:Str}{pos pos' tpos:Pos}{ta tv:TE}
theorem su(he:PE X e ta)(hb:attributeBase e f X.env (eval e X.env)=eval e X.env):PE X (.Attribute e f pos) (abK X.K ta f):=by
 intro pins s σ H Q I h;refine ab0 hb (thn (he pins s σ H _ I h) λu s1 h=>?_);obtain⟨x,H1,I1,rx,a,C,dx,fs,v,rfl,ea,c,n,l,q⟩:=h;obtain rfl:u=Value.ref a:=rx;exact U4 I1 ea c n l λu' s2 I2 ru=>⟨v,H1,I2,ru,q⟩
theorem yN(ha:PE X o ta)(hv:PE X value tv)(hs:swapsWith value (some (.Attribute o f pos')) pos.line X.env=pure false):PS X (.Assign [.Attribute o f pos'] value pos) (ab9 X.K ta tv f):=by
 intro pins s σ H D I h;refine plainObj_wpAny_Assign_Attribute (thn (hv pins s σ H _ I h) λu s1 ⟨y,H1,I1,ry,q⟩=>thn (ha pins s1 σ H1 _ I1 q) λov s2 h=>?_) hs;obtain⟨x,H2,I2,rx,a,C,dx,fs,rfl,ea,c,n,l,q2⟩:=h;obtain rfl:ov=Value.ref a:=rx;exact Ut I2 ea c n l ry λs3 I3=>⟨σ,_,I3,q2⟩
end
section
variable{X:Cx}{pins:Ω}{σ:St}{H:Hp}{s:Shared}{A:Around}{E:Κ}{Q:Κ}{c:Value}{b:Bool}
inductive Dp(K:Frag)(H:Hp):V->Value->Prop where
 |non:Dp K H .non (.type "NoneType")
 |bl (x:Bool):Dp K H (.bl x) (.type "bool")
 |int (i:Int):Dp K H (.int i) (.type "int")
 |str (x:Str):Dp K H (.str x) (.type "str")
 |flt (x:UInt64):Dp K H (.flt x) (.type "float")
 |lst {a:Addr}{xs:Μ} (e:H a=some (.lst xs)):Dp K H (.ref a) (.type "list")
 |frz {a:Addr}{o:Obj}{xs:Μ} (e:H a=some (.frz o (.lst xs))):Dp K H (.ref a) (.type "list")
 |tup {a:Addr}{xs:Μ} (e:H a=some (.tup xs)):Dp K H (.ref a) (.type "tuple")
 |dK {a:Addr}{kvs:List (Key×V)} (e:H a=some (.dK kvs)):Dp K H (.ref a) (.type "dict")
 |ins {a C dx:Addr}{fs:List (Str×V)} (e:H a=some (.ins C dx fs)) (cl:Cls K C) (ha:findIn K (.ref C) "__class__"=some (some (.builtin "object.__class__")))
   (hn:specialIn K (.builtin "object.__class__") "__get__"=some (some (.builtin "getset_descriptor.__get__"))) (htk:takesIn K (.builtin "object.__class__")=some true)
   (hm:mroIn K C (.type "object")=some true):Dp K H (.ref a) (.ref C)
theorem XH{x:V}{u t:Value}(I:Inv X pins σ H s)(rx:RelV x u)(ty:Dp X.K H x t)(e:kitOne X.K t c=some b)(h:∀tk,Q (.bool b) { s with toks:=tk }) :
  wpAny (model X.prog X.w) A (call (.builtin "isinstance") [u,c]) Q E s:=by
 cases ty with
 |non=>cases(show u=Value.none from rx);exact kia_one PySem.W.kitx_none I.kIn True.intro e (λz=>nomatch z) h
 |bl y=>cases(show u=Value.bool y from rx);exact kia_one PySem.W.kitx_bool I.kIn True.intro e (λz=>nomatch z) h
 |int i=>obtain⟨t,q⟩:=(show ∃t,u=Value.int i t from rx);cases q;exact kia_one PySem.W.kitx_int I.kIn True.intro e (λz=>nomatch z) h
 |str y=>obtain⟨t,q⟩:=(show ∃t,u=Value.str y t from rx);cases q;exact kia_one PySem.W.kitx_str I.kIn True.intro e (λz=>nomatch z) h
 |flt y=>obtain⟨t,q⟩:=(show ∃t,u=Value.float y t from rx);cases q;exact kia_one PySem.W.kitx_float I.kIn True.intro e (λz=>nomatch z) h
 |@lst a xs ea =>
  cases(show u=Value.ref a from rx);obtain⟨_,_,n,_,h1⟩:=(show eF X.prog X.w H s.heap a (.lst xs)from I.hok a _ ea);exact kia_one kitx_list I.kIn ⟨_,h1,rfl⟩ e (λz=>nomatch z) h
 |@frz a ob xs ea =>
  cases(show u=Value.ref a from rx);obtain⟨_,_,_,n,_,h1⟩:=(show eF X.prog X.w H s.heap a (.frz ob (.lst xs))from I.hok a _ ea);exact kia_one kitx_list I.kIn ⟨_,h1,rfl⟩ e (λz=>nomatch z) h
 |@tup a xs ea =>
  cases(show u=Value.ref a from rx);obtain⟨_,_,_,p⟩:=(show eF X.prog X.w H s.heap a (.tup xs)from I.hok a _ ea);obtain⟨o,h1,h2,_⟩:=p;exact kia_one kitx_tuple I.kIn ⟨o,h1,h2⟩ e (λz=>nomatch z) h
 |@dK a kvs ea =>
  cases(show u=Value.ref a from rx);obtain⟨_,_,vs,_,p⟩:=(show eF X.prog X.w H s.heap a (.dK kvs)from I.hok a _ ea);obtain⟨o,es,ep,h1,h2,_⟩:=p;exact kia_one PySem.W.kitx_dict I.kIn ⟨o,h1,h2.1⟩ e (λz=>nomatch z) h
 |@ins a C dx fs ea cl ha hn htk hm =>
  cases(show u=Value.ref a from rx);obtain⟨mA,O,_⟩:=Gm I.hok ea;obtain⟨od,J,_⟩:=O.look;exact kia_one (PySem.W.kitx_own (cl.get _) cl.hd ha hn htk hm) I.kIn J e (λz=>nomatch z) h
end
structure gU(k:Nat)(A:Around):Prop where
 hd:A.handled=none
 dp:A.depth+3*k+5<recursionLimit
 un:A.units+16*k+200<cLine
theorem gU.mono{j k:Nat}{A:Around}(r:gU k A)(h:j<=k):gU j A:=⟨r.hd,by have:=r.dp;lia,by have:=r.un;lia⟩
theorem gU.md{k n:Nat}{A:Around}(h:gU n A)(e:k<=n:=by decide):gU k A:=h.mono e
theorem gU.deeper{k:Nat}{A:Around}(r:gU (k+1) A)(env:Env):gU k (A.deeper env) :=
 ⟨r.hd,by have:=r.dp;show A.depth+1+3*k+5<_;lia,by have:=r.un;show A.units+3+16*k+200<_;lia⟩
theorem Ud{A:Around}{C:Addr}{us:Ξ}{kw:List (Str×Value)} : (A.under (.builtin "type.__call__" ⟨.ref C::us,kw⟩)).depth=A.depth+1:=by
 first|rfl|simp[Around.under,Code.weight,Code.isCreation,Code.isGuard,Code.isCaller,Code.frames,Code.isFrame,guardIds]
theorem U5{A:Around}{C:Addr}{us:Ξ}{kw:List (Str×Value)} : (A.under (.builtin "type.__call__" ⟨.ref C::us,kw⟩)).units=A.units+1:=by
 first|rfl|simp[Around.under,Code.cUnits,Code.frames,Code.isFrame]
theorem gU.make{k:Nat}{A:Around}(r:gU (k+1) A)(C:Addr)(us:Ξ)(kw:List (Str×Value)):gU k (A.under (.builtin "type.__call__" ⟨.ref C::us,kw⟩)) :=
 ⟨r.hd,by have:=r.dp;rw[Ud];lia,by have:=r.un;rw[U5];lia⟩
theorem gU.depth{k:Nat}{A:Around}(r:gU k A):A.depth<recursionLimit:=by have:=r.dp;lia
theorem gU.units{k:Nat}{A:Around}(r:gU k A):A.units+64<cLine:=by have:=r.un;lia
def Ij:TA:=λ_ H Q=>Q [] H
def rW(ta:TE)(tr:TA):TA:=λσ H Q=>ta σ H λx H1=>tr σ H1 λxs H2=>Q (x::xs) H2
section
variable{X:Cx}{e:Expr}{es:List Expr}{te:TE}{t:TA}{pos:Pos}
theorem bF:PA X [] Ij:=λ_ _ _ _ H Q I h=>Calls.spliced_nil ⟨[],H,I,.nil,h⟩
theorem bD(ha:PE X e te)(hr:PA X es t)(hs:starEach (e::es) X.env=(false,eval e X.env)::starEach es X.env:=by rfl):PA X (e::es) (rW te t):=by
 intro pos pins s σ H Q I h;rw[hs];show wpAny _ _ (spliced ((false,eval e X.env)::backTo pos (starEach es X.env))) _ _ s;refine Calls.spliced_cons (thn (ha pins s σ H _ I h) λu s1 hP=>?_);obtain⟨x,H1,I1,r1,q1⟩:=hP;exact thn (hr pos pins s1 σ H1 _ I1 q1) λus s2 hP=>by obtain⟨xs,H2,I2,r2,q2⟩:=hP;exact⟨x::xs,H2,I2,.cons r1 r2,q2⟩
def acJ(t:TA):TE:=λσ H Q=>t σ H λxs H1=>xs.length<=sizeLine/\∀p,H1 p=none->Q (.ref p) (upd H1 p (.tup xs))
def aaC(t:TA):TE:=λσ H Q=>t σ H λxs H1=>xs.length<=sizeLine/\∀p,H1 p=none->Q (.ref p) (upd H1 p (.lst xs))
theorem mO{x1}(h:PA X es t):PE X (.Tuple es x1 pos) (acJ t):=by
 intro pins s σ H Q I hq;refine wpAny_Tuple_spliced (thn (h pos pins s σ H _ I hq) λus s1 ⟨xs,H1,I1,r,z,q⟩=>⟨by rw[<- r.length];exact z,?_⟩);have hf:H1 s1.heap.objs.size=none:=I1.hok.fresh (aF _);refine⟨.ref s1.heap.objs.size,upd H1 s1.heap.objs.size (.tup xs),I1.laid (t':=s1.toks) (λb u e=>aG _ e) (aF _) ?_,rfl,q _ hf⟩;exact⟨z,us,r,⟨_,aY _ rfl,rfl,_,rfl⟩⟩
theorem o9(h:PA X es t):PE X (.List es pos) (aaC t):=by
 intro pins s σ H Q I hq;refine wpAny_List_spliced (thn (h pos pins s σ H _ I hq) λus s1 ⟨xs,H1,I1,r,z,q⟩=>⟨by rw[<- r.length];exact z,?_⟩);have hf:H1 s1.heap.objs.size=none:=I1.hok.fresh (aF _);refine⟨.ref s1.heap.objs.size,upd H1 s1.heap.objs.size (.lst xs),I1.laid (t':=s1.toks) (λb u e=>aG _ e) (aF _) ?_,rfl,q _ hf⟩;exact⟨z,us,0,r,aY _ rfl⟩
end
abbrev Sp:=Μ->Hp->VK->XK->Prop
abbrev CXT:=List Env->Hp->Shared->XK->Value->Shared->Prop
structure JG(P:Program)(w:World)(K:Frag)(mg:Str->Ζ)(base:Heap)(A:Around)(outer:List Env)(s:Shared)(H:Hp):Prop where
 frames:A.frames=some outer
 mod:Mod K mg base
 bs:∀b o,base.get? b=some o->s.heap.get? b=some o/\H b=none
 bsz:base.objs.size<=s.heap.objs.size
 funs:s.heap.FunFrames base outer
 frf:∀b∈frs outer,H b=none
 hok:HOk P w H s.heap
 bare:AllBare s.gens
def CE(outer:List Env)(P:Program)(w:World)(H:Hp)(s:Shared)(Q:VK)(u:Value)(s':Shared):Prop :=
 ∃v H',s'.os=s.os/\AllBare s'.gens/\Un (frs outer) [] H H' s.heap s'.heap/\HOk P w H' s'.heap/\RelV v u/\Q v H'
def CR(CX:CXT)(outer:List Env)(P:Program)(w:World)(H:Hp)(s:Shared)(Q:VK)(E:XK)(r:Result)(s':Shared):Prop :=
 match r with
 |.ok (.ret u)=>CE outer P w H s Q u s'
 |.ok _=>False
 |.error e=>CX outer H s E e s'
structure cF(P:Program)(w:World)(K:Frag)(mg:Str->Ζ)(base:Heap)(CX:CXT)(k:Nat)(f:Addr)(fd:FuncData)(ps:Β)(sp:Sp):Prop where
 len:∀vs H Q E,sp vs H Q E->vs.length=ps.length
 run:∀(A:Around)(outer:List Env)(s:Shared)(H:Hp)(args:Args)(us:Ξ)(vs:Μ)(Q:VK)(E:XK),gU k A->JG P w K mg base A outer s H->BindsTo s fd args (ps.zip us)->Vals vs us->sp vs H Q E ->
  codeAny (model P w) A (.call (.ref f) args) (CR CX outer P w H s Q E) s
theorem cF.imp{P:Program}{w:World}{K:Frag}{mg:Str->Ζ}{base:Heap}{CX:CXT}{k:Nat}{f:Addr}{fd:FuncData}{ps:Β}{sp sp':Sp}(F:cF P w K mg base CX k f fd ps sp)
 (h:∀vs H Q E,sp' vs H Q E->sp vs H Q E):cF P w K mg base CX k f fd ps sp' :=
 ⟨λvs H Q E q=>F.len vs H Q E (h _ _ _ _ q),λA outer s H args us vs Q E hr he hb hv hs=>F.run A outer s H args us vs Q E hr he hb hv (h _ _ _ _ hs)⟩
theorem JG.make{P:Program}{w:World}{K:Frag}{mg:Str->Ζ}{base:Heap}{A:Around}{outer:List Env}{s:Shared}{H:Hp}(e:JG P w K mg base A outer s H)(C:Addr)(us:Ξ)(kw:List (Str×Value)) :
  JG P w K mg base (A.under (.builtin "type.__call__" ⟨.ref C::us,kw⟩)) outer s H:=⟨by first|exact e.frames|(simpa[Around.under,Code.envs,Code.isFrame,pushEnvs]using e.frames),e.mod,e.bs,e.bsz,e.funs,e.frf,e.hok,e.bare⟩
section
variable{X:Cx}{pins:Ω}{σ:St}{H:Hp}{s s':Shared}
theorem Inv.env0(I:Inv X pins σ H s):JG X.prog X.w X.K X.mg X.base X.A X.stack s H :=
 ⟨I.ok.frames,I.ok.mod,I.bs,aM I.ok.bsz I.sz,I.stack,I.stkFree,I.hok,I.bare⟩
theorem Inv.after{Q:VK}{u:Value}(I:Inv X pins σ H s)(h:CE X.stack X.prog X.w H s Q u s'):EP X pins σ Q u s':=by
 obtain⟨v,H',os,bare,un,hok,r,q⟩:=h;obtain⟨hh,g,d,t,os'⟩:=s';obtain rfl:os'=s.os:=os;exact⟨v,H',I.call (h':=hh) (g':=g) (d':=d) (t':=t) (ch:=[]) un hok bare (λb z=>absurd z (by simp)),r,q⟩
end
def agk(sp:Sp)(dvs:Μ)(E:XK)(t:TA):TE:=λσ H Q=>t σ H λvs H1=>sp (vs++dvs) H1 Q E
def aed(C:Addr)(m:Str)(sp:Sp)(dvs:Μ)(E:XK)(ta:TE)(t:TA):TE:=λσ H Q=>ta σ H λx H1=>∃a dx fs,x=.ref a/\H1 a=some (.ins C dx fs)/\fs.lookup m=none /\
 t σ H1 λvs H2=>sp (x::(vs++dvs)) H2 Q E
def Binds(K:Frag)(fd:FuncData)(ps:Β)(ds:Ξ):Prop :=
 ∀(s:Shared)(us:Ξ),K.In s.heap->(us++ds).length=ps.length->BindsTo s fd ⟨us,[]⟩ (ps.zip (us++ds))
theorem Binds.all{K:Frag}{fd:FuncData}{ps:Β}(h:∀us:Ξ,us.length=ps.length->bindArgs fd ⟨us,[]⟩=pure (ps.zip us)):Binds K fd ps []:=λs us _ hl=>by
 rw[List.append_nil]at hl ⊢;exact .of_eq (h us hl)
def Passes(CX:CXT)(X:Cx)(E:XK):Prop:=∀(pins:Ω)(σ:St)(H:Hp)(s:Shared)(e:Value)(s':Shared),Inv X pins σ H s->CX X.stack H s E e s'->X.xe e s'
section
variable{X:Cx}{CX:CXT}{k:Nat}{f C:Addr}{fd:FuncData}{ps:Β}{sp:Sp}{dvs:Μ}{ds:Ξ}{E:XK}{x m:Str}{p pos apos:Pos}{e o:Expr}{es:List Expr}{ta:TE}{t:TA}
theorem M9{pins:Ω}{σ:St}{H:Hp}{s:Shared}{Q:VK}{us:Ξ}{vs:Μ}(F:cF X.prog X.w X.K X.mg X.base CX k f fd ps sp)(hr:gU k X.A)(hb:Binds X.K fd ps ds)(hd:Vals dvs ds)(hx:Passes CX X E)
 (I:Inv X pins σ H s)(r:Vals vs us)(h:sp (vs++dvs) H Q E):wpAny (model X.prog X.w) X.A (call (.ref f) us) (EP X pins σ Q) X.xe s:=by
 have r2:Vals (vs++dvs) (us++ds):=r.append hd;have hl:(us++ds).length=ps.length:=by rw[<- r2.length];exact F.len _ _ _ _ h
 refine wpAny_call (codeAny_mono (F.run X.A X.stack s H ⟨us,[]⟩ (us++ds) (vs++dvs) Q E hr I.env0 (hb s us I.kIn hl) r2 h) λr s' hq=>?_);cases r with
 |error e=>exact hx pins σ H s e s' I hq
 |ok fl =>
  cases fl with
  |ret u=>exact I.after hq
  |next=>exact False.elim hq
  |brk=>exact False.elim hq
  |cont=>exact False.elim hq
theorem adJ(F:cF X.prog X.w X.K X.mg X.base CX k f fd ps sp)(hr:gU k X.A)(hg:Gl X x)(hm:X.mg x=some (.ref f))(hk:keepIn X.K (.ref f)=true)(hb:Binds X.K fd ps ds)(hd:Vals dvs ds)(hx:Passes CX X E)
 (ha:PA X (e::es) t)(hdb:(x==("__debug__":Str))=false:=by decide)(he:starEach (e::es) X.env=(false,eval e X.env)::starEach es X.env:=by rfl)(hpl:(backTo pos (starEach es X.env)).any (·.1)=false:=by rfl) :
  PE X (.Call (.Name x p) (e::es) [] pos) (agk sp dvs E t):=by
 intro pins s σ H Q I h;refine wpAny_Call_Name_kw (sG I hg hm ?_ hdb);refine callWith_K (h₀:=X.base) I.ok.mod.kin hk (thn (ha pos pins s σ H _ I h) λus s1 ⟨vs,H1,I1,r,q⟩=>⟨I1.kIn,?_⟩) he hpl;exact M9 F hr hb hd hx I1 r q
theorem adK{pl:Sem Bool}(he:PE X o ta)(c:Cls X.K C)(hm:Meth X.K C m f)(F:cF X.prog X.w X.K X.mg X.base CX k f fd ps sp)(hr:gU k X.A)(hb:Binds X.K fd ps ds)(hd:Vals dvs ds)(hx:Passes CX X E)(ha:PA X (e::es) t)
 (hst:starEach (e::es) X.env=(false,eval e X.env)::starEach es X.env:=by rfl)(hpl:(backTo pos (starEach es X.env)).any (·.1)=false:=by rfl)
 (ht:eval (.Call (.Attribute o m apos) (e::es) [] pos) X.env=(do
   let ov <- eval o X.env
   standAt apos.atName
   let(f,first) <- holding [ov] (getMethod ov m pl)
   callWith pos f first (backTo pos (starEach (e::es) X.env)) (backToKw pos (keywordEach [] X.env))):=by rfl) :
  PE X (.Call (.Attribute o m apos) (e::es) [] pos) (aed C m sp dvs E ta t):=by
 intro pins s σ H Q I h;refine methodCall_KW (pl:=pl) (thn (he pins s σ H _ I h) λu s1 hP=>?_) ht;obtain⟨x,H1,I1,rx,a,dx,fs,ex,ea,l,q⟩:=hP;subst ex;obtain rfl:u=Value.ref a:=rx;refine Jk I1 ea c hm l ?_;refine callWith_K (first:=[.ref a]) (h₀:=X.base) I.ok.mod.kin hm.kp (thn (ha pos pins s1 σ H1 _ I1 q) λus s2 ⟨vs,H2,I2,r,q2⟩=>⟨I2.kIn,?_⟩) hst hpl;exact M9 (us:=.ref a::us) (vs:=.ref a::vs) F hr hb hd hx I2 (.cons rfl r) q2
theorem abo{pl:Sem Bool}(he:PE X o ta)(c:Cls X.K C)(hm:Meth X.K C m f)(F:cF X.prog X.w X.K X.mg X.base CX k f fd ps sp)(hr:gU k X.A)(hb:Binds X.K fd ps ds)(hd:Vals dvs ds)(hx:Passes CX X E)
 (ht:eval (.Call (.Attribute o m apos) [] [] pos) X.env=(do
   let ov <- eval o X.env
   standAt apos.atName
   let(f,first) <- holding [ov] (getMethod ov m pl)
   callWith pos f first (backTo pos (starEach [] X.env)) (backToKw pos (keywordEach [] X.env))):=by rfl) :
  PE X (.Call (.Attribute o m apos) [] [] pos) (aed C m sp dvs E ta Ij):=by
 intro pins s σ H Q I h;refine methodCall_KW (pl:=pl) (thn (he pins s σ H _ I h) λu s1 hP=>?_) ht;obtain⟨x,H1,I1,rx,a,dx,fs,ex,ea,l,q⟩:=hP;subst ex;obtain rfl:u=Value.ref a:=rx;refine Jk I1 ea c hm l ?_;exact PySem.W.callWith_K0 (first:=[.ref a]) I1.kIn hm.kp (M9 (us:=[.ref a]) (vs:=[.ref a]) F hr hb hd hx I1 (.cons rfl .nil) q)
structure Mk(K:Frag)(C f:Addr):Prop where
 makes:makesIn K C=true
 init:findIn K (.ref C) "__init__"=some (some (.ref f))
 fn:isFn K (.ref f)=true
 kp:keepIn K (.ref C)=true
end
structure bZ(N P:Β)(sc:Scope):Prop where
 kind:sc.kind=.function
 co:sc.isCoroutine=false
 gen:sc.isGenerator=false
 nd:N.Nodup
 pre:N.take P.length=P
 par:∀x∈P,sc.names.lookup x=some .local\/sc.names.lookup x=some .cell
 nofree:∀y∈sc.names,y.2≠.free
theorem Lg{kindOf:Str->Option NameKind}{x:Str} : ∀{binds:List (Str×Value)}{m:Str->Ζ},(∀v,(x,v)∉binds)->bindL kindOf binds m x=m x
 |[],_,_=>rfl
 |(n,v)::r,m,h=>by
  unfold bindL;rw[Lg λw hw=>h w (aH _ hw)];split
  .have:x≠n:=by rintro rfl;exact h v aO
   simp[this]
  .rfl
theorem K_{kindOf:Str->Option NameKind}{x:Str} : ∀{binds:List (Str×Value)}{m:Str->Ζ},(∀v,(x,v)∉binds)->bindC kindOf binds m x=m x
 |[],_,_=>rfl
 |(n,v)::r,m,h=>by
  unfold bindC;rw[K_ λw hw=>h w (aH _ hw)];split
  .rfl
  .have:x≠n:=by rintro rfl;exact h v aO
   simp[this]
theorem K4{kindOf:Str->Option NameKind}{x:Str}{v:Value} : ∀{P:Β}{vs:Ξ}{i:Nat}{m:Str->Ζ},P.Nodup->P[i]?=some x->vs[i]?=some v->kindOf x=some .local ->
  bindL kindOf (P.zip vs) m x=some v
 |[],_,_,_,_,h,_,_=>by simp at h
 |_::_,[],_,_,_,_,h,_=>by simp at h
 |p::P,w::vs,0,m,nd,h1,h2,hk=>by
  simp at h1 h2;subst h1;subst h2;show bindL kindOf ((p,w)::P.zip vs) m p=_;unfold bindL;rw[Lg λv hv=>(List.nodup_cons.mp nd).1 (List.of_mem_zip hv).1,ZY hk];simp
 |p::P,w::vs,i+1,m,nd,h1,h2,hk=>by
  show bindL kindOf ((p,w)::P.zip vs) m x=_;unfold bindL;exact K4 (i:=i) (List.nodup_cons.mp nd).2 (by simpa using h1) (by simpa using h2) hk
theorem K9{kindOf:Str->Option NameKind}{x:Str}{v:Value} : ∀{P:Β}{vs:Ξ}{i:Nat}{m:Str->Ζ},P.Nodup->P[i]?=some x->vs[i]?=some v->kindOf x≠some .local ->
  bindC kindOf (P.zip vs) m x=some v
 |[],_,_,_,_,h,_,_=>by simp at h
 |_::_,[],_,_,_,_,h,_=>by simp at h
 |p::P,w::vs,0,m,nd,h1,h2,hk=>by
  simp at h1 h2;subst h1;subst h2;show bindC kindOf ((p,w)::P.zip vs) m p=_;unfold bindC;rw[K_ λv hv=>(List.nodup_cons.mp nd).1 (List.of_mem_zip hv).1,ZZ hk];simp
 |p::P,w::vs,i+1,m,nd,h1,h2,hk=>by
  show bindC kindOf ((p,w)::P.zip vs) m x=_;unfold bindC;exact K9 (i:=i) (List.nodup_cons.mp nd).2 (by simpa using h1) (by simpa using h2) hk
noncomputable def start(N:Β)(vs:Μ):St:=vs.map some++List.replicate (N.length-vs.length) none
def Io(CX:CXT)(P:Program)(w:World)(K:Frag)(mg:Str->Ζ)(base:Heap)(N:Β)(qual:Str)(scope:Scope)(f:Addr)(cd:Value)(A:Around)(outer:List Env)(s:Shared)(H:Hp)(E:XK):Cx where
 prog:=P
 w:=w
 K:=K
 mg:=mg
 base:=base
 A:=A.deeper (envOfC qual scope s.heap.objs.size f cd)
 N:=N
 s₀:=s
 H₀:=H
 env:=envOfC qual scope s.heap.objs.size f cd
 outer:=outer
 stack:=envOfC qual scope s.heap.objs.size f cd::outer
 ex:=[]
 calm:=true
 fn:=λ_=>true
 pn:=[]
 xe:=λe s'=>wpAny (model P w) (A.deeper (envOfC qual scope s.heap.objs.size f cd)) (leaving (envOfC qual scope s.heap.objs.size f cd) e) (λ_ s''=>CX outer H s E e s'') (λe' s''=>CX outer H s E e' s'') s'
theorem Td{sc:Scope}{n:Nat}{x:Str}(h:sc.names.lookup x=some .cell):∃c,(cellsFrom n sc.names []).lookup x=some c:=by
 have q:=PySem.W.cellsFrom_some sc.names n [] (.inl h);exact Option.isSome_iff_exists.mp q
theorem XF{CX:CXT}{P:Program}{w:World}{K:Frag}{mg:Str->Ζ}{base:Heap}{N ps:Β}{qual:Str}{scope:Scope}{f:Addr}{cd:Value}{A:Around}{outer:List Env}{s s1:Shared}{H:Hp}{E:XK}{us:Ξ}{vs:Μ}
 (S:bZ N ps scope)(hd:A.handled=none)(e0:JG P w K mg base A outer s H)(hl:vs.length=ps.length)(r:Vals vs us)
 (x:InCallC s s.heap.objs.size (bindL (envOfC qual scope s.heap.objs.size f cd).kindOf (ps.zip us) λ_=>none) (cellsFrom (s.heap.objs.size+1) scope.names []) (bindC (envOfC qual scope s.heap.objs.size f cd).kindOf (ps.zip us) λ_=>none) s1) :
  Inv (Io CX P w K mg base N qual scope f cd A outer s H E) [] (start N vs) H s1:=by
 have hpl:ps.length<=N.length:=by have:=ZH List.length S.pre;rw[bh]at this;lia
 obtain⟨h1,tk,rfl,hk⟩:=x.done;have noA:∀b:Addr,b∉(Io CX P w K mg base N qual scope f cd A outer s H E).ex:=λb z=>absurd (show b∈([] : Ε)from z) (by simp);refine⟨⟨e0.mod,S.kind,rfl,rfl,aF _,λy z c h1 h2=>?_,λy hy=>?_,λy c _ h=>?_,λ_=>hd,Around.frames_deeper e0.frames,.inr ⟨rfl,rfl⟩,λb z=>absurd z (noA b),e0.bs,e0.bsz,λb _ _=>noA b,λb z=>absurd z (noA b),e0.funs,e0.frf⟩,
  rfl,e0.bare,Un.kept hk,⟨_,x.toInCall.ns,λi y v h1 h2 h3=>?_⟩,λy c h=>⟨_,x.cell y c h⟩,e0.hok.fresh (aF _),λy c h=>?_,λp hp=>absurd (show p∈([] : Ω)from hp) (by simp),e0.hok.kept hk,?_⟩
 .exact name_of_addr x.apart (PySem.mem_of_lookup h1) (PySem.mem_of_lookup h2)
 .have hy:scope.names.lookup y=some .cell\/scope.names.lookup y=some .free:=hy;rcases hy with hy|hy
  .exact Td hy
  .exact absurd rfl (S.nofree _ (PySem.mem_of_lookup hy))
 .exact Nat.le_of_lt (x.above y c (PySem.mem_of_lookup h))
 .have hi:i<vs.length:=by
   unfold start at h2;by_cases hi:i<vs.length
   .exact hi
   .rw[aC (by simpa using hi)]at h2;rw[XG]at h2;split at h2<;>cases h2
  have ha:vs[i]?=some v:=by
   unfold start at h2;rw[aD (by simpa using hi),aq]at h2;cases e:vs[i]? with
   |none=>rw[e]at h2;cases h2
   |some a=>rw[e]at h2;cases h2;rfl
  obtain⟨u,hu,rv⟩:=r.get ha;have hp:ps[i]?=some y:=by
   rw[<- S.pre,List.getElem?_take_of_lt (aU hi (Nat.le_of_eq hl))];exact h1
  have ndP:ps.Nodup:=by rw[<- S.pre];exact S.nd.sublist (List.take_sublist _ _)
  refine⟨u,rv,?_⟩;rcases S.par y (aB hp)with k|k
  .exact .inl ⟨k,K4 ndP hp hu k⟩
  .obtain⟨c,e⟩:=Td (n:=s.heap.objs.size+1) k;refine .inr ⟨.inl k,c,e,?_⟩;have q:=x.cell y c e;rw[K9 ndP hp hu (by show scope.names.lookup y≠_;rw[k];decide)]at q;exact q
 .exact e0.hok.fresh (Nat.le_of_lt (x.above y c (PySem.mem_of_lookup h)))
 .unfold start;show _=N.length;rw[aA,ak,aN];lia
theorem YF{CX:CXT}{P:Program}{w:World}{K:Frag}{mg:Str->Ζ}{base:Heap}{k:Nat}{f:Addr}{name qual:Str}{params:Arguments}{body:List Stmt}{scope:Scope}{dV kV doc pm cdv ct oc:Value}{an od:Η}
 {osl:Array (Ζ)}{N ps:Β}{sp:Sp}(lk:K.lookup f=some ⟨oc,od,.func (PySem.W.fnOf name qual params body scope dV kV doc pm an cdv ct),osl⟩)(hcd:codeIn K cdv qual=true)(S:bZ N ps scope)
 (len:∀vs H Q E,sp vs H Q E->vs.length=ps.length)
 (hbody:∀(A:Around)(outer:List Env)(s:Shared)(H:Hp)(vs:Μ)(Q:VK)(E:XK),gU k (A.deeper (envOfC qual scope s.heap.objs.size f cdv))->sp vs H Q E ->
   ∃t,PSs (Io CX P w K mg base N qual scope f cdv A outer s H E) body t/\t { nx:=λ_ H'=>Q .non H',rt:=Q } (start N vs) H) :
  cF P w K mg base CX (k+1) f (PySem.W.fnOf name qual params body scope dV kV doc pm an cdv ct) ps sp:=by
 refine⟨len,λA outer s H args us vs Q E hr e0 hb r hsp=>?_⟩;have hl:=len _ _ _ _ hsp;have KX:K.In s.heap:=e0.mod.kin.keeps λb o e=>(e0.bs b o e).1;have lim:s.heap.NoLimit:=e0.mod.nolimit.keeps λb o e=>(e0.bs b o e).1;have hkind:∀y∈ps.zip us,scope.names.lookup y.1=some .local\/(scope.names.lookup y.1=some .cell/\((cellsFrom (s.heap.objs.size+1) scope.names []).lookup y.1).isSome=true):=λ⟨n,v⟩ hy=>by
  rcases S.par n (List.of_mem_zip hy).1 with q|q
  .exact .inl q
  .exact .inr ⟨q,PySem.W.cellsFrom_some _ _ _ (.inl q)⟩
 refine codeAny_call_function hr.depth (KX _ _ lk) rfl S.co S.gen rfl (PySem.W.codeRec_of KX hcd) (hb _ _ _ _ ?_);refine wpAny_newFunctionEnv_cells S.kind hkind λenv he s1 x=>?_;subst he;refine⟨lim.keeps x.toInCall.keep,codeAny_func ?_⟩;obtain⟨t,ht,hq⟩:=hbody A outer s H vs Q E (hr.deeper _) hsp;have I:Inv (Io CX P w K mg base N qual scope f cdv A outer s H E) [] (start N vs) H s1:=XF S hr.hd e0 hl r x;refine wpAny_mono (ht [] s1 (start N vs) H _ I hq) (λfl s' hs=>?_) λe s' hs=>hs;have fin:∀{σ':St}{H':Hp}{v:V}{u:Value},Inv (Io CX P w K mg base N qual scope f cdv A outer s H E) [] σ' H' s'->RelV v u->Q v H'->CE outer P w H s Q u s' :=
  λ{σ' H' v u}J rv q=>⟨v,H',J.os,J.bare,J.base,J.hok,rv,q⟩
 cases fl with
 |ret u =>
  obtain⟨v,σ',H',J,rv,q⟩:=hs;exact fin J rv q
 |next =>
  obtain⟨σ',H',J,q⟩:=hs;exact fin (v:=V.non) (u:=Value.none) J rfl q
 |brk =>
  obtain⟨_,_,_,q⟩:=hs;exact False.elim q
 |cont =>
  obtain⟨_,_,_,q⟩:=hs;exact False.elim q
section
variable{X:Cx}{x:Str}{p pos:Pos}{e:Expr}{es:List Expr}{t:TA}{id T:String}{r:Μ->Hp->VK->Prop}
def tCB(r:Μ->Hp->VK->Prop)(t:TA):TE:=λσ H Q=>t σ H λvs H1=>r vs H1 Q
theorem b_(hc:gF X (.builtin id) r)(hg:Gl X x)(hm:X.mg x=none)(hv:bootBuiltins x=some (.builtin id))(ha:PA X (e::es) t)(hn:x≠"__name__":=by decide)(hdb:(x==("__debug__":Str))=false:=by decide)
 (he:starEach (e::es) X.env=(false,eval e X.env)::starEach es X.env:=by rfl)(hpl:(backTo pos (starEach es X.env)).any (·.1)=false:=by rfl):PE X (.Call (.Name x p) (e::es) [] pos) (tCB r t):=by
 intro pins s σ H Q I h;refine wpAny_Call_Name_kw (D_ I hg hm hv ?_ hn hdb);exact PyProof.Rows.callWith_builtin1 (thn (ha pos pins s σ H _ I h) λus s1 hP=>by obtain⟨vs,H1,I1,r1,q1⟩:=hP;exact hc pins s1 σ H1 vs us Q I1 r1 q1) he hpl
theorem qO(hc:gF X (.type T) r)(hg:Gl X x)(hm:X.mg x=none)(hv:bootBuiltins x=some (.type T))(ha:PA X (e::es) t)(hn:x≠"__name__":=by decide)(hdb:(x==("__debug__":Str))=false:=by decide)
 (he:starEach (e::es) X.env=(false,eval e X.env)::starEach es X.env:=by rfl)(hpl:(backTo pos (starEach es X.env)).any (·.1)=false:=by rfl):PE X (.Call (.Name x p) (e::es) [] pos) (tCB r t):=by
 intro pins s σ H Q I h;refine wpAny_Call_Name_kw (D_ I hg hm hv ?_ hn hdb);exact PyProof.Rows.callWith_type1 (thn (ha pos pins s σ H _ I h) λus s1 hP=>by obtain⟨vs,H1,I1,r1,q1⟩:=hP;exact hc pins s1 σ H1 vs us Q I1 r1 q1) he hpl
end
end L2
namespace HT
open PySem PyProof.Rows
section
variable{prog:Program}{w:World}{A:Around}{E:Κ}{s:Shared}
noncomputable def sIx(n d:Nat):Option Int->Nat
 |none=>d
 |some v=>if v<0 then(v+(n:Int)).toNat else min v.toNat n
theorem sW(n d k:Nat):sIx n d (some (k:Int))=min k n:=by
 show(if(k:Int)<0 then((k:Int)+(n:Int)).toNat else min (k:Int).toNat n)=min k n;rw[ZZ (Int.not_lt_of_ge (Wp _)),Int.toNat_natCast]
theorem afv(n d:Nat)(hd:d<=n)(o:Option Int):sIx n d o<=n:=by
 cases o with
 |none=>exact hd
 |some v =>
  show(if v<0 then(v+(n:Int)).toNat else min v.toNat n)<=n;by_cases hv:v<0
  .rw[ZY hv];lia
  .rw[ZZ hv];exact Nat.min_le_right _ _
end
end HT
namespace L2
open PySem PySem.Spec PyProof.Rows
abbrev TO:=St->Hp->(Option Int->Hp->Prop)->Prop
def PO(X:Cx)(e:Option Expr)(t:TO):Prop :=
 ∀(pins:Ω)(s:Shared)(σ:St)(H:Hp)(Q:Option Int->Hp->Prop),Inv X pins σ H s->t σ H Q ->
  wpAny (model X.prog X.w) X.A (evalPart e X.env) (λu s'=>∃o H',Inv X pins σ H' s'/\IsPart u o/\Q o H') X.xe s
def Gs:TO:=λ_ H Q=>Q none H
def V3(t:TE):TO:=λσ H Q=>t σ H λx H1=>∃i,x=.int i/\Q (some i) H1
theorem intsAre_of{ns:List Int} : ∀{us:Ξ},Vals (ns.map V.int) us->IntsAre us ns:=by
 induction ns with
 |nil=>intro us r;rw[List.map_nil]at r;cases r;exact .nil
 |cons n ns ih =>
  intro us r;rw[List.map_cons]at r;cases r with
  |cons r1 r2 =>
   obtain⟨t,e⟩:=r1;subst e;exact .cons n t (ih r2)
section
variable{X:Cx}{e:Expr}{te:TE}{lo hi:Option Expr}{tl th:TO}{pos p2:Pos}
theorem Gj:PO X none Gs:=by
 intro pins s σ H Q I h;rw[evalPart_none];exact ZT ⟨none,H,I,.none,h⟩
theorem jO(h:PE X e te):PO X (some e) (V3 te):=by
 intro pins s σ H Q I hw;rw[evalPart_some];refine thn (h pins s σ H _ I hw) λu s1 hP=>?_;obtain⟨x,H1,I1,r1,q1⟩:=hP;obtain⟨i,rfl,q⟩:=q1;obtain⟨t,rfl⟩:=r1;exact⟨some i,H1,I1,.int i t,q⟩
def SlR(X:Cx)(r:V->Option Int->Option Int->Hp->VK->Prop):Prop :=
 ∀(pins:Ω)(s:Shared)(σ:St)(H:Hp)(x:V)(v vl vu:Value)(lo hi:Option Int)(sl:Addr)(Q:VK),Inv X pins σ H s->RelV x v->s.heap.IsSliceOf sl vl vu .none->IsPart vl lo->IsPart vu hi->r x lo hi H Q ->
  ∃T id,typeLookup (.type T) "__getitem__"=pure (some (.builtin id))/\s.TypeIs v T/\wpAny (model X.prog X.w) X.A (getItem v (.ref sl)) (EP X pins σ Q) X.xe s
def tSl(r:V->Option Int->Option Int->Hp->VK->Prop)(te:TE)(tl th:TO):TE:=λσ H Q=>te σ H λx H1=>tl σ H1 λl H2=>th σ H2 λu H3=>r x l u H3 Q
theorem oV{r:V->Option Int->Option Int->Hp->VK->Prop}(hr:SlR X r)(he:PE X e te)(hl:PO X lo tl)(hu:PO X hi th):PE X (.Subscript e (.Slice lo hi none p2) pos) (tSl r te tl th):=by
 intro pins s σ H Q I h;refine Subscript_ (thn (he pins s σ H _ I h) λv s1 hP=>?_);obtain⟨x,H1,I1,r1,q1⟩:=hP;refine wpAny_Slice (thn (hl pins s1 σ H1 _ I1 q1) λvl s2 ⟨l,H2,I2,pl,q2⟩=>thn (hu pins s2 σ H2 _ I2 q2) λvu s3 hP=>?_);obtain⟨u,H3,I3,pu,q3⟩:=hP;rw[evalPart_none];refine ZT ?_;have I4:Inv X pins σ H3 { s3 with heap:=s3.heap.push { cls:=.type "slice",data:=.fields #[vl,vu,.none] } }:=I3.kept (t':=s3.toks) λb ob q=>aG _ q;obtain⟨T,id,hT,ht,hg⟩:=hr pins { s3 with heap:=s3.heap.push { cls:=.type "slice",data:=.fields #[vl,vu,.none] } } σ H3 x v vl vu l u s3.heap.objs.size Q I4 r1 (Heap.IsSliceOf.new ..) pl pu q3;show wpAny (model X.prog X.w) X.A (subscriptTail e (.Slice lo hi none p2) v (.ref s3.heap.objs.size)) (EP X pins σ Q) X.xe { s3 with heap:=s3.heap.push { cls:=.type "slice",data:=.fields #[vl,vu,.none] } };exact tail_any (ops:=[.ref s3.heap.objs.size,v]) ht hT hg (by with_unfolding_all rfl)
noncomputable def pZ(xs:Μ)(lo hi:Option Int):Μ:=(xs.drop (HT.sIx xs.length 0 lo)).take (HT.sIx xs.length xs.length hi-HT.sIx xs.length 0 lo)
theorem Ey(xs:Μ)(lo hi:Option Int):(pZ xs lo hi).length<=xs.length:=by
 unfold pZ;rw[bh,List.length_drop];lia
end
noncomputable def ixN(n:Nat)(i:Int):Option Nat:=if 0<=i then(if i<n then some i.toNat else none)else if -(n:Int)<=i then some (i+n).toNat else none
def atI{α:Type}(xs:List α)(i:Int):Option α:=(ixN xs.length i).bind λj=>xs[j]?
theorem WM{n:Nat}{i:Int}{j:Nat}(h:ixN n i=some j):seqIndex? i n=some j/\j<n/\-(n:Int)<=i/\i<n:=by
 unfold ixN at h;by_cases h0:0<=i
 .rw[ZY h0]at h;by_cases h1:i<n
  .rw[ZY h1]at h;have e:i.toNat=j:=Option.some.inj h;exact⟨by rw[seqIndex_of h0 h1,e],by lia,by lia,h1⟩
  .rw[ZZ h1]at h;cases h
 .rw[ZZ h0]at h;by_cases h1 : -(n:Int)<=i
  .rw[ZY h1]at h;have e:(i+n).toNat=j:=Option.some.inj h;exact⟨by rw[seqIndex_neg (Int.lt_of_not_ge h0) h1,e],by lia,h1,by lia⟩
  .rw[ZZ h1]at h;cases h
theorem Nq{α:Type}{xs:List α}{i:Int}{v:α}(h:atI xs i=some v):∃j,seqIndex? i xs.length=some j/\xs[j]?=some v/\j<xs.length/\-(xs.length:Int)<=i/\i<xs.length:=by
 unfold atI at h;cases e:ixN xs.length i with
 |none=>rw[e]at h;cases h
 |some j =>
  rw[e]at h;obtain⟨h1,h2,h3,h4⟩:=WM e;exact⟨j,h1,h,h2,h3,h4⟩
theorem cu{α:Type}{xs:List α}{j:Nat}{v:α}(h:xs[j]?=some v):atI xs (j:Int)=some v:=by
 have hj:j<xs.length:=(ao.mp h).1;have e:ixN xs.length (j:Int)=some j:=by
  unfold ixN;rw[ZY (Wp _),ZY (by lia)];simp
 unfold atI;rw[e];exact h
theorem R3{α:Type}(xs:List α)(v:α):atI (xs++[v]) (-1)=some v:=by
 have hl:(xs++[v]).length=xs.length+1:=by simp
 have e:ixN (xs++[v]).length (-1)=some xs.length:=by
  unfold ixN;rw[hl,ZZ (by decide),ZY (by lia)]
  congr 1
  lia
 unfold atI;rw[e];show(xs++[v])[xs.length]?=some v;simp
def Vy(b:Expr):Prop:=∀o i,subscripted b false o i=operate [o,i] (getItem o i)
def IxR(X:Cx)(r:R2):Prop :=
 ∀(value slice:Expr)(pins:Ω)(s:Shared)(σ:St)(H:Hp)(x y:V)(v u:Value)(Q:VK),Inv X pins σ H s->RelV x v->RelV y u->r x y H Q ->
  subscripted slice false v u=operate [v,u] (getItem v u)->wpAny (model X.prog X.w) X.A (subscriptTail value slice v u) (EP X pins σ Q) X.xe s
def MtR(X:Cx)(id:String)(r:V->Μ->Hp->VK->Prop):Prop :=
 ∀(pins:Ω)(s:Shared)(σ:St)(H:Hp)(x:V)(xs:Μ)(v:Value)(us:Ξ)(Q:VK),Inv X pins σ H s->RelV x v->Vals xs us->r x xs H Q ->
  wpAny (model X.prog X.w) X.A (call (.builtin id) (v::us)) (EP X pins σ Q) X.xe s
section
variable{X:Cx}{a b:Expr}{ta tb:TE}{pos:Pos}
theorem bQ{r:R2}(hr:IxR X r)(ha:PE X a ta)(hb:PE X b tb)(hs:Vy b):PE X (.Subscript a b pos) (tOp r ta tb):=by
 intro pins s σ H Q I h;exact Subscript_ (afl ha hb I h λv u s2 x y H2 I2 rx ry q=>hr a b pins s2 σ H2 x y v u Q I2 rx ry q (hs _ _))
def adf(K:Frag):R2:=λx y H Q=>∃p xs i v,x=.ref p/\y=.int i/\SqL K H p xs/\atI xs i=some v/\Q v H
def C_(K:Frag):R2:=λx y H Q=>∃p xs i v,x=.ref p/\y=.int i/\SqT K H p xs/\atI xs i=some v/\Q v H
def acQ:R2:=λx y H Q=>∃z i c,x=.str z/\y=.int i/\z.length<=sizeLine/\atI z.cps.toList i=some c/\Q (.str ⟨#[c]⟩) H
theorem acI:IxR X (adf X.K):=by
 intro value slice pins s σ H x y v u Q I rx ry h hs;obtain⟨p,xs,i,z,rfl,rfl,hq,he,q⟩:=h;cases rx;obtain⟨t,rfl⟩:=ry;obtain⟨its,r,pl,hz⟩:=I.list hq;obtain⟨j,h1,h2,h3,h4,h5⟩:=Nq he;obtain⟨w,ew,rw'⟩:=r.get h2;have hl:=r.length;have hn:=v9;have fin:EP X pins σ Q w s:=⟨z,H,I,rw',q⟩;by_cases h0:0<=i
 .have hj:i.toNat=j:=by
   rw[seqIndex_of h0 h5]at h1;exact Option.some.inj h1
  exact item_listR pl.isList h0 (by lia) (by rw[hj];simpa using ew) fin hs
 .have hj:(i+(its.toArray.size:Int)).toNat=j:=by
   rw[seqIndex_neg (Int.lt_of_not_ge h0) h4]at h1;rw[aZ,<- hl];exact Option.some.inj h1
  exact subscriptTail_builtinR (x:=w) pl.isList.typeIs slot_list_getitem.lookup
   (wpAny_getItem_list_neg (Q:=λr s'=>r=w/\EP X pins σ Q r s') pl.isList (Int.lt_of_not_ge h0) (by rw[aZ]<;>lia) (by lia) (by rw[hj];simpa using ew) ⟨rfl,fin⟩) hs
theorem cG:IxR X (C_ X.K):=by
 intro value slice pins s σ H x y v u Q I rx ry h hs;obtain⟨p,xs,i,z,rfl,rfl,hq,he,q⟩:=h;cases rx;obtain⟨t,rfl⟩:=ry;obtain⟨its,r,pl,hz⟩:=I.tuple hq;obtain⟨j,h1,h2,h3,h4,h5⟩:=Nq he;obtain⟨w,ew,rw'⟩:=r.get h2;have hl:=r.length;have hn:=v9;have fin:EP X pins σ Q w s:=⟨z,H,I,rw',q⟩;exact subscriptTail_builtinR (x:=w) pl.typeIs slot_tuple_getitem.lookup
  (getItem_tuple (j:=j) (Q:=λr s'=>r=w/\EP X pins σ Q r s') pl (by lia) (by lia) (by rw[aZ,<- hl];exact h1) (by simpa using ew) ⟨rfl,fin⟩) hs
theorem U7:IxR X acQ:=by
 intro value slice pins s σ H x y v u Q I rx ry h hs;obtain⟨z,i,c,rfl,rfl,hz,he,q⟩:=h;obtain⟨t,rfl⟩:=rx;obtain⟨t',rfl⟩:=ry;obtain⟨j,h1,h2,h3,h4,h5⟩:=Nq he;have hl:z.cps.toList.length=z.length:=by simp[Str.length]
 rw[hl]at h1 h4 h5;have hn:=v9;exact tail_any (typeIs_str s z t) slot_str_getitem.lookup (getItem_str (c:=c) (by
  have e1:decide (i < -(2^63:Int))=false:=Zp (by lia);have e2:decide (i>=2^63)=false:=Zp (by lia);rw[e1,e2,Bool.or_false]) (by rw[h1];simpa using h2) ⟨.str ⟨#[c]⟩,H,I.tok _,⟨_,rfl⟩,q⟩) hs
theorem Ul(its:Ξ)(n j:Nat)(u:Value):Obj.mapSeq (·.setIfInBounds j u) { cls:=.type "list",data:=.seq its.toArray n }={ cls:=.type "list",data:=.seq (its.set j u).toArray n }:=by
 simp[Obj.mapSeq]
theorem Inv.lst{pins:Ω}{σ:St}{H:Hp}{s:Shared}{p:Addr}{xs:Μ}(I:Inv X pins σ H s)(h:H p=some (.lst xs)) :
  ∃(its:Ξ)(n:Nat),Vals xs its/\s.heap.get? p=some { cls:=.type "list",data:=.seq its.toArray n }/\xs.length<=sizeLine:=by
 obtain⟨z,its,n,r,e⟩:=I.hok p _ h;exact⟨its,n,r,e,z⟩
theorem Inv.lstUpd{pins:Ω}{σ:St}{H:Hp}{s:Shared}{p:Addr}{xs ys:Μ}{its its':Ξ}{n n':Nat}{f:Obj->Obj}(I:Inv X pins σ H s)(h:H p=some (.lst xs))
 (ho:s.heap.get? p=some { cls:=.type "list",data:=.seq its.toArray n })(hf:f { cls:=.type "list",data:=.seq its.toArray n }={ cls:=.type "list",data:=.seq its'.toArray n' })(r:Vals ys its')(hz:ys.length<=sizeLine)(t:Nat) :
  Inv X pins σ (upd H p (.lst ys)) { s with heap:=s.heap.update p f,toks:=t }:=by
 have e:(s.heap.update p f).get? p=some { cls:=.type "list",data:=.seq its'.toArray n' }:=by
  rw[Heap.get?_update_self f ho (by rw[hf]<;>rfl),hf]
 refine I.write (x:=p) (e:=p) (by rw[h];trivial) (.inl rfl) (λb u hb q=>(Heap.get?_update_other _ _ (Ne.symm hb)).trans q) ⟨_,e⟩ ?_;exact⟨hz,its',n',r,e⟩
def Wo:V->V->V->Hp->(Hp->Prop)->Prop:=λo i v H Q=>∃p xs k j,o=.ref p/\i=.int k/\H p=some (.lst xs)/\ixN xs.length k=some j/\Q (upd H p (.lst (xs.set j v)))
theorem set_list:ah5 X Wo:=by
 intro pins s σ H o i v ov iv u Q I ro ri rv h;obtain⟨p,xs,k,j,rfl,rfl,hp,hj,q⟩:=h;cases ro;obtain⟨t,rfl⟩:=ri;obtain⟨its,n,r,ho,hz⟩:=I.lst hp;obtain⟨h1,h2,h3,h4⟩:=WM hj;have hl:=r.length;have hn:=v9;have I':Inv X pins σ (upd H p (.lst (xs.set j v))) { s with heap:=s.heap.update p (Obj.mapSeq (·.setIfInBounds j u)) } :=
  I.lstUpd hp ho (Ul its n j u) (r.set rv j) (by rw[List.length_set];exact hz) s.toks
 by_cases h0:0<=k
 .have hk:k.toNat=j:=by
   rw[seqIndex_of h0 h4]at h1;exact Option.some.inj h1
  exact PySem.W.ki_setAt ho h0 (by lia) (by rw[aZ,<- hl];exact h4) (by rw[hk];exact⟨_,I',q⟩)
 .have hk:(k+(its.toArray.size:Int)).toNat=j:=by
   rw[seqIndex_neg (Int.lt_of_not_ge h0) h3]at h1;rw[aZ,<- hl];exact Option.some.inj h1
  exact PySem.W.ki_setBack ho (Int.lt_of_not_ge h0) (by rw[aZ,<- hl];exact h3) (by lia) (by rw[hk];exact⟨_,I',q⟩)
theorem O6(lo hi:Option Int)(n:Nat):(sliceBounds lo hi none n).1=((HT.sIx n 0 lo:Nat):Int)/\(sliceBounds lo hi none n).2.1=((HT.sIx n n hi:Nat):Int)/\(sliceBounds lo hi none n).2.2=1:=by
 refine⟨?_,?_,rfl⟩
 .cases lo with
  |none=>simp[sliceBounds,HT.sIx]
  |some i =>
   simp only[sliceBounds,HT.sIx,Option.getD_none,show(1:Int)>0 by decide,if_true];by_cases h:i<0
   .simp only[h,if_true]<;>lia
   .simp only[h,if_false]<;>lia
 .cases hi with
  |none=>simp[sliceBounds,HT.sIx]
  |some i =>
   simp only[sliceBounds,HT.sIx,Option.getD_none,show(1:Int)>0 by decide,if_true];by_cases h:i<0
   .simp only[h,if_true]<;>lia
   .simp only[h,if_false]<;>lia
theorem JZ(its:Ξ)(lo hi:Option Int):slicePick its.toArray lo hi none=((its.drop (HT.sIx its.length 0 lo)).take (HT.sIx its.length its.length hi-HT.sIx its.length 0 lo)).toArray:=by
 obtain⟨h1,h2,h3⟩:=O6 lo hi its.toArray.size;unfold slicePick;rw[h1,h2,h3];simp only[sliceRange_one,pick_run,aZ]<;>rfl
def acp(K:Frag):V->Option Int->Option Int->Hp->VK->Prop:=λx lo hi H Q=>∃a xs,x=.ref a/\SqL K H a xs/\∀p,H p=none->Q (.ref p) (upd H p (.lst (pZ xs lo hi)))
theorem Ge:SlR X (acp X.K):=by
 intro pins s σ H x v vl vu lo hi sl Q I rx hs pl pu h;obtain⟨a,xs,rfl,hx,q⟩:=h;cases rx;obtain⟨its,r,ht,hz⟩:=I.list hx;have hlen:=r.length;refine⟨"list",_,slot_list_getitem.lookup,ht.isList.typeIs,?_⟩;refine wpAny_getItem_list_slice ht.isList hs pl pu .none (by simp) ?_ (by rw[aZ]<;>lia);rw[JZ,<- hlen];refine⟨.ref s.heap.objs.size,_,I.laid (t':=s.toks) (o:=.lst (pZ xs lo hi)) (λb ob q=>aG _ q) (aF _) ?_,rfl,q _ (I.hok.fresh (aF _))⟩;exact⟨aM (Ey xs lo hi) hz,_,0,(r.drop (HT.sIx xs.length 0 lo)).take (HT.sIx xs.length xs.length hi-HT.sIx xs.length 0 lo),aY _ rfl⟩
noncomputable def m_:V->Bool
 |.non=>true
 |.bl _=>true
 |.int _=>true
 |.str _=>true
 |_=>false
noncomputable def eqV:V->V->Bool
 |.non,.non=>true
 |.bl a,.bl b=>a==b
 |.bl a,.int b=>(if a then 1 else 0)==b
 |.int a,.bl b=>a==(if b then 1 else 0)
 |.int a,.int b=>a==b
 |.str a,.str b=>a==b
 |_,_=>false
theorem abU{A:Around}{s:Shared}{y x:V}{u v:Value}(ry:RelV y u)(rx:RelV x v)(fy:m_ y=true)(fx:m_ x=true):SeqAt.EqAt A s u v (eqV y x):=by
 cases y with
 |non =>
  cases ry;cases x with
  |non=>cases rx;exact SeqAt.EqAt.same _
  |bl b=>cases rx;exact SeqAt.EqAt.none_bool b
  |int b=>obtain⟨t,rfl⟩:=rx;exact SeqAt.EqAt.none_int b t
  |str b=>obtain⟨t,rfl⟩:=rx;exact SeqAt.EqAt.none_str b t
  |_=>exact absurd (show false=true from fx) bC
 |bl a =>
  cases ry;cases x with
  |non=>cases rx;exact SeqAt.EqAt.bool_none a
  |bl b=>cases rx;exact SeqAt.EqAt.bool_bool a b
  |int b=>obtain⟨t,rfl⟩:=rx;exact SeqAt.EqAt.bool_int a b t
  |str b=>obtain⟨t,rfl⟩:=rx;exact SeqAt.EqAt.bool_str a b t
  |_=>exact absurd (show false=true from fx) bC
 |int a =>
  obtain⟨t',rfl⟩:=ry;cases x with
  |non=>cases rx;exact SeqAt.EqAt.int_none a t'
  |bl b=>cases rx;exact SeqAt.EqAt.int_bool a t' b
  |int b=>obtain⟨t,rfl⟩:=rx;exact SeqAt.EqAt.int_int a t' b t
  |str b=>obtain⟨t,rfl⟩:=rx;exact SeqAt.EqAt.int_str a t' b t
  |_=>exact absurd (show false=true from fx) bC
 |str a =>
  obtain⟨t',rfl⟩:=ry;cases x with
  |non=>cases rx;exact SeqAt.EqAt.str_none a t'
  |bl b=>cases rx;exact SeqAt.EqAt.str_bool a t' b
  |int b=>obtain⟨t,rfl⟩:=rx;exact SeqAt.EqAt.str_int a t' b t
  |str b=>obtain⟨t,rfl⟩:=rx;exact SeqAt.EqAt.str_str a t' b t
  |_=>exact absurd (show false=true from fx) bC
 |_=>exact absurd (show false=true from fy) bC
def eqU(x:V)(u:Value):Bool:=match u with
 |.none=>eqV .non x
 |.bool b=>eqV (.bl b) x
 |.int i _=>eqV (.int i) x
 |.str z _=>eqV (.str z) x
 |_=>false
theorem ZM{x y:V}{u:Value}(r:RelV y u)(f:m_ y=true):eqU x u=eqV y x:=by
 cases y with
 |non=>cases r;rfl
 |bl b=>cases r;rfl
 |int i=>obtain⟨t,rfl⟩:=r;rfl
 |str z=>obtain⟨t,rfl⟩:=r;rfl
 |_=>exact absurd (show false=true from f) bC
theorem Mx{x:V} : ∀{xs:Μ}{us:Ξ},Vals xs us->xs.all m_=true->us.any (eqU x)=xs.any λy=>eqV y x
 |_,_,.nil,_=>rfl
 |y::xs,u::us,.cons r t,f=>by
  rw[List.all_cons,Bool.and_eq_true]at f;rw[List.any_cons,List.any_cons,ZM r f.1,Mx t f.2]
theorem GK{A:Around}{s:Shared}{x:V}{v:Value}(rx:RelV x v)(fx:m_ x=true):∀{xs:Μ}{us:Ξ},Vals xs us->xs.all m_=true->∀u∈us,SeqAt.EqAt A s u v (eqU x u)
 |_,_,.nil,_=>λu hu=>by cases hu
 |y::xs,u::us,.cons r t,f=>λu' hu=>by
  rw[List.all_cons,Bool.and_eq_true]at f;rcases YU.mp hu with rfl|hu
  .rw[ZM r f.1];exact abU r rx f.1 fx
  .exact GK rx fx t f.2 u' hu
def inV(x:V)(xs:Μ):Bool:=xs.any λy=>eqV y x
def rIn(K:Frag)(neg:Bool):R2:=λx y H Q=>∃p xs,y=.ref p/\(SqL K H p xs\/SqT K H p xs)/\m_ x=true/\xs.all m_=true/\Q (.bl (if neg then !inV x xs else inV x xs)) H
theorem Pj:OpR X (compareOp .NotIn) (rIn X.K true):=by
 intro pins s σ H x y v u Q I rx ry h;obtain⟨p,xs,rfl,hq,fx,fs,q⟩:=h;cases ry;rcases hq with hq|hq
 .obtain⟨its,r,pl,hz⟩:=I.list hq;refine SeqAt.notIn_listAt (eqU x) pl.isList (λw hw=>GK rx fx r fs w (by simpa using hw)) ⟨.bl _,H,I,rfl,?_⟩;rw[show its.toArray.any (eqU x)=its.any (eqU x)by simp,Mx r fs];exact q
 .obtain⟨its,r,pl,hz⟩:=I.tuple hq;refine SeqAt.notIn_tupleAt (eqU x) pl (λw hw=>GK rx fx r fs w (by simpa using hw)) ⟨.bl _,H,I,rfl,?_⟩;rw[show its.toArray.any (eqU x)=its.any (eqU x)by simp,Mx r fs];exact q
theorem vf:gF X (.builtin "len") (λxs H Q=>∃p ys,xs=[.ref p]/\(SqL X.K H p ys\/SqT X.K H p ys)/\Q (.int ys.length) H):=by
 intro pins s σ H xs us Q I r h;obtain⟨p,ys,rfl,hq,q⟩:=h;obtain⟨u,rfl,rx⟩:=vals1 r;cases rx;have hn:=v9;rcases hq with hq|hq
 .obtain⟨its,r',pl,hz⟩:=I.list hq;have hlen:=r'.length;exact Calls.call_len_list pl.isList (by simp only[aZ]<;>lia) ⟨.int ys.length,H,I.tok _,⟨s.toks+1,by rw[aZ,hlen]⟩,q⟩
 .obtain⟨its,r',pl,hz⟩:=I.tuple hq;have hlen:=r'.length;exact len_tuple pl (by simp only[aZ]<;>lia) ⟨.int ys.length,H,I.tok _,⟨s.toks+1,by rw[aZ,hlen]⟩,q⟩
theorem Oq:gF X (.builtin "len") (λxs H Q=>∃z,xs=[.str z]/\z.length<=sizeLine/\Q (.int z.length) H):=by
 intro pins s σ H xs us Q I r h;obtain⟨z,rfl,hz,q⟩:=h;obtain⟨u,rfl,t,rfl⟩:=vals1 r;have hn:=v9;exact len_str (by lia) ⟨.int z.length,H,I.tok _,⟨_,rfl⟩,q⟩
theorem gF.or{f:Value}{r r':Μ->Hp->VK->Prop}(h:gF X f r)(h':gF X f r'):gF X f (λxs H Q=>r xs H Q\/r' xs H Q):=by
 intro pins s σ H xs us Q I rs q;rcases q with q|q
 .exact h pins s σ H xs us Q I rs q
 .exact h' pins s σ H xs us Q I rs q
theorem O1:gF X (.type "list") (λxs H Q=>∃p ys,xs=[.ref p]/\(SqL X.K H p ys\/SqT X.K H p ys)/\∀l,H l=none->Q (.ref l) (upd H l (.lst ys))):=by
 intro pins s σ H xs us Q I r h;obtain⟨p,ys,rfl,hq,q⟩:=h;obtain⟨u,rfl,rx⟩:=vals1 r;cases rx;have fin:∀(its:Ξ),Vals ys its->ys.length<=sizeLine->∀(h':Heap)(c':Nat),(∀b o',s.heap.get? b=some o'->h'.get? b=some o') ->
   h'.get? s.heap.objs.size=some { cls:=.type "list",dict:=none,data:=.seq its.toArray c',slots:=#[] }->EP X pins σ Q (.ref s.heap.objs.size) { s with heap:=h' }:=λits r' hz h' c' kp e =>
  ⟨.ref s.heap.objs.size,_,I.laid (t':=s.toks) kp (aF _) (show eF X.prog X.w _ h' _ (.lst ys)from⟨hz,its,c',r',e⟩),rfl,q _ (I.hok.fresh (aF _))⟩
 rcases hq with hq|hq
 .obtain⟨its,r',pl,hz⟩:=I.list hq;have hlen:=r'.length;obtain⟨o,ho,hc,n,hd⟩:=pl.isList;exact call_list_seq p (.inl rfl) ho hc hd (λh' c' kp e=>fin its r' hz h' c' kp e) (by simp only[aZ]<;>lia)
 .obtain⟨its,r',pl,hz⟩:=I.tuple hq;have hlen:=r'.length;obtain⟨o,ho,hc,n,hd⟩:=pl;exact call_list_seq p (.inr rfl) ho hc hd (λh' c' kp e=>fin its r' hz h' c' kp e) (by simp only[aZ]<;>lia)
def tyV(K:Frag)(T:String)(x:V)(H:Hp):Prop:=match x with
 |.str _=>T="str"
 |.int _=>T="int"
 |.ref p=>(T="list"/\∃xs,SqL K H p xs)\/(T="tuple"/\∃o,K.lookup p=some o/\o.cls=.type "tuple"/\o.dict=none) \/
   (T="dict"/\(∃kvs,H p=some (.dK kvs)))\/(T="set"/\∃S n,H p=some (.set S n))
 |_=>False
theorem aeW{pins:Ω}{σ:St}{H:Hp}{s:Shared}{T:String}{x:V}{v:Value}(I:Inv X pins σ H s)(r:RelV x v)(ty:tyV X.K T x H) :
  s.TypeIs v T/\∀a,v=.ref a->∃ob,s.heap.get? a=some ob/\ob.dict=none:=by
 cases x with
 |str z =>
  obtain⟨t,rfl⟩:=r;cases(show T="str" from ty);exact⟨typeIs_str s z t,λ_ e=>nomatch e⟩
 |int i =>
  obtain⟨t,rfl⟩:=r;cases(show T="int" from ty);exact⟨typeIs_int s i t,λ_ e=>nomatch e⟩
 |ref p =>
  cases r;rcases ty with⟨rfl,xs,hq⟩|⟨rfl,o,hk,hc,hd⟩|⟨rfl,hk⟩|⟨rfl,S,n,hk⟩
  .obtain⟨its,_,pl,_⟩:=I.list hq;refine⟨pl.isList.typeIs,λa e=>?_⟩;cases e;obtain⟨o,n,e,c,hd,_⟩:=pl;exact⟨o,e,hd⟩
  .refine⟨⟨o,I.kIn p o hk,hc⟩,λa e=>?_⟩;cases e;exact⟨o,I.kIn _ o hk,hd⟩
  .have z:∃o,s.heap.get? p=some o/\o.ExactDict:=by
    obtain⟨kvs,hk⟩:=hk;obtain⟨_,_,_,_,o,_,_,e,ex,_⟩:=I.hok p _ hk;exact⟨o,e,ex⟩
   obtain⟨o,e,ex⟩:=z;refine⟨⟨o,e,ex.1⟩,λa e2=>?_⟩;cases e2;exact⟨o,e,ex.2.1⟩
  .obtain⟨o,_,_,_,e,ex,_⟩:=I.hok p _ hk;refine⟨⟨o,e,ex.1⟩,λa e2=>?_⟩;cases e2;exact⟨o,e,ex.2.1⟩
 |_=>exact False.elim ty
def tBM(K:Frag)(T:String)(r:V->Μ->Hp->VK->Prop)(to:TE)(t:TA):TE:=λσ H Q=>to σ H λx H1=>tyV K T x H1/\t σ H1 λxs H2=>r x xs H2 Q
variable{o e:Expr}{es:List Expr}{to:TE}{t:TA}{name:Str}{apos cpos:Pos}{T id:String}{r:V->Μ->Hp->VK->Prop}
theorem abG(pa:PlainAttrs T)(slot:Slot T name id)(hty:typeOf (.builtin id)=pure (.type "method_descriptor"))(hm:MtR X id r)(ho:PE X o to)(ha:PA X (e::es) t)
 (hbase:attributeBase o name X.env (eval o X.env)=eval o X.env:=by rfl)
 (hfew:((backTo cpos (starEach (e::es) X.env)).all (λx=>!x.1)&&(backToKw cpos (keywordEach [] X.env)).all (λx=>x.1.isSome)
   && decide ((e::es).length+([] : List Keyword).length+(if([] : List Keyword).isEmpty then 0 else 1)<30))=true:=by rfl)
 (hline:(apos.endLine==cpos.line)=true:=by rfl)(hs:starEach (e::es) X.env=(false,eval e X.env)::starEach es X.env:=by rfl)(hplain:(backTo cpos (starEach es X.env)).any (·.1)=false:=by rfl) :
  PE X (.Call (.Attribute o name apos) (e::es) [] cpos) (tBM X.K T r to t):=by
 intro pins s σ H Q I h;refine wpAny_Call_method_late hbase hfew hline rfl (thn (ho pins s σ H _ I h) λv s1 hP=>?_);obtain⟨x,H1,I1,r1,ty,q1⟩:=hP;obtain⟨h1,h2⟩:=aeW I1 r1 ty;refine⟨T,id,pa,slot,hty,h1,h2,?_⟩;have hA:=ha cpos pins s1 σ H1 _ I1 q1;rw[hs]at hA ⊢;refine Calls.callWith_builtin (by show(false || (backTo cpos (starEach es X.env)).any (·.1))=false;rw[hplain]<;>rfl) (Calls.evalArgs_plain ?_);exact thn hA λus s2 hP=>by obtain⟨vs,H2,I2,r2,q2⟩:=hP;exact hm pins s2 σ H2 x vs v us Q I2 r1 r2 q2

end
def MtM(X:Cx)(id:String)(r:V->Μ->Hp->VK->Prop):Prop :=
 ∀(pins:Ω)(s:Shared)(σ:St)(H:Hp)(x:V)(xs:Μ)(v:Value)(us:Ξ)(Q:VK),Inv X pins σ H s->RelV x v->Vals xs us->r x xs H Q ->
  wpAny (model X.prog X.w) X.A (call (.builtin id) (v::us)) (EP X pins σ Q) X.xe s
theorem Vals.one:∀{x:V}{us:Ξ},Vals [x] us->∃u,us=[u]/\RelV x u
 |_,_,.cons r .nil=>⟨_,rfl,r⟩
theorem Vals.two{x y:V}{us:Ξ}(h:Vals [x,y] us):∃u v,us=[u,v]/\RelV x u/\RelV y v:=by
 cases h with|cons r t=>cases t with|cons q t=>cases t;exact⟨_,_,rfl,r,q⟩
theorem Vals.eraseIdx:∀{xs:Μ}{us:Ξ}(i:Nat),Vals xs us->Vals (xs.eraseIdx i) (us.eraseIdx i)
 |_,_,_,.nil=>.nil
 |_,_,0,.cons _ t=>t
 |_,_,i+1,.cons r t=>.cons r (Vals.eraseIdx i t)
theorem Vals.rep{xs:Μ}{us:Ξ}(h:Vals xs us):∀k:Nat,Vals (List.replicate k xs).flatten (List.replicate k us).flatten
 |0=>.nil
 |k+1=>by
  rw[List.replicate_succ,List.replicate_succ,List.flatten_cons,List.flatten_cons];exact Vals.append h (Vals.rep h k)
theorem LK{α:Type} : ∀(l:List α)(i:Nat),(l.eraseIdx i).length<=l.length
 |[],_=>aF _
 |_::_,0=>Y3 _
 |_::r,i+1=>Nat.succ_le_succ (LK r i)
theorem foldl_rep(its:Ξ):∀(k:Nat)(acc:Ξ),
  List.foldl (λx1 x2=>x1++x2) acc.toArray (List.replicate k its.toArray)=(acc++(List.replicate k its).flatten).toArray
 |0,acc=>by simp
 |k+1,acc=>by
  have e:acc.toArray++its.toArray=(acc++its).toArray:=by simp
  have e2:(acc++its)++(List.replicate k its).flatten=acc++(List.replicate (k+1) its).flatten:=by
   rw[List.replicate_succ,List.flatten_cons,List.append_assoc]
  rw[<- e2,<- foldl_rep its k (acc++its),<- e,List.replicate_succ,List.foldl_cons]
section
variable{X:Cx}{pins:Ω}{σ:St}{H:Hp}{s:Shared}{l b:Addr}{xs ys zs:Μ}
theorem Inv.lset{its its':Ξ}{n:Nat}{f:Array Value->Array Value}{t':Nat}(I:Inv X pins σ H s)(hH:H l=some (.lst xs))
 (e:s.heap.get? l=some { cls:=.type "list",data:=.seq its.toArray n })(hf:f its.toArray=its'.toArray)(hv:Vals ys its')(hz:ys.length<=sizeLine) :
  Inv X pins σ (upd H l (.lst ys)) { s with heap:=s.heap.update l (Obj.mapSeq f),toks:=t' }:=by
 have q:=PySem.IsL.update e f;rw[hf]at q;refine I.write (x:=l) (e:=l) (by rw[hH];exact trivial) (.inl rfl) (λb' u hb hu=>(Heap.get?_update_other s.heap (Obj.mapSeq f) (Ne.symm hb)).trans hu) ⟨_,q⟩ ?_;exact⟨hz,its',_,hv,q⟩
theorem Inv.lnew{its:Ξ}{t':Nat}(I:Inv X pins σ H s)(hv:Vals ys its)(hz:ys.length<=sizeLine) :
  Inv X pins σ (upd H s.heap.objs.size (.lst ys)) { s with heap:=s.heap.push { cls:=.type "list",data:=.seq its.toArray },toks:=t' } :=
 I.laid (λ_ _ q=>aG _ q) (aF _) ⟨hz,its,0,hv,aY _ rfl⟩
theorem Inv.fresh(I:Inv X pins σ H s):H s.heap.objs.size=none:=I.hok.fresh (aF _)
theorem Inv.lstM(I:Inv X pins σ H s)(hH:H l=some (.lst xs)):xs.length<=sizeLine/\∃(its:Ξ)(n:Nat),Vals xs its/\xs.length=its.length/\s.heap.get? l=some { cls:=.type "list",data:=.seq its.toArray n }:=by
 obtain⟨z,its,n,r,e⟩:=I.hok l _ hH;exact⟨z,its,n,r,r.length,e⟩
theorem aaO{n:Nat}(h:n<=sizeLine):Builtin.List.listTooLong n=false:=by
 unfold Builtin.List.listTooLong;exact Zp (Nat.not_lt_of_le h)
end
section
variable{X:Cx}
def ade:V->Μ->Hp->VK->Prop:=λx vs H Q=>∃l xs y,x=.ref l/\vs=[y]/\H l=some (.lst xs)/\xs.length<sizeLine/\Q .non (upd H l (.lst (xs++[y])))
theorem La:MtM X "list.append" ade:=by
 intro pins s σ H x vs v us Q I rx rv h;obtain⟨l,xs,y,rfl,rfl,hH,hz,q⟩:=h;cases rx;obtain⟨u,rfl,ru⟩:=rv.one;obtain⟨z,its,n,r,hl,e⟩:=I.lstM hH;refine call_meets F.slot_list_append ⟨_,e,rfl⟩ F.entry_list_append (F.args_list_append_2 _ _) (PySem.list_append l its.toArray n u (by rw[aZ];lia)) ⟨e,?_⟩;refine⟨.non,_,I.lset (its':=its++[u]) hH e (by simp) (r.append (.cons ru .nil)) ?_,rfl,q⟩;rw[aA,List.length_singleton];exact hz
def ac2:R2:=λx y H Q=>∃l b xs zs,x=.ref l/\y=.ref b/\H l=some (.lst xs)/\H b=some (.lst zs)/\xs.length+zs.length<=sizeLine/\∀p,H p=none->Q (.ref p) (upd H p (.lst (xs++zs)))
theorem Uk:OpR X (binaryOp .Add) ac2:=by
 intro pins s σ H x y v u Q I rx ry h;obtain⟨l,b,xs,zs,rfl,rfl,hH,hB,hz,q⟩:=h;cases rx;cases ry;obtain⟨z,its,n,r,hl,e⟩:=I.lstM hH;obtain⟨z2,its2,n2,r2,hl2,e2⟩:=I.lstM hB;refine PySem.P.add_list e e2 ?_ (by rw[aZ,aZ];lia);have ea:its.toArray++its2.toArray=(its++its2).toArray:=by simp
 rw[ea];exact⟨.ref _,_,I.lnew (t':=s.toks) (r.append r2) (by rw[aA];omega),rfl,q _ I.fresh⟩
def aj1:R2:=λx y H Q=>∃l k xs,x=.ref l/\y=.int k/\H l=some (.lst xs)/\-(2^63)<=k/\k<2^63/\xs.length*k.toNat<=sizeLine /\
 ∀p,H p=none->Q (.ref p) (upd H p (.lst (List.replicate k.toNat xs).flatten))
theorem len_rep{α:Type}(xs:List α)(k:Nat):(List.replicate k xs).flatten.length=k*xs.length:=by
 induction k with
 |zero=>simp
 |succ k ih=>rw[List.replicate_succ,List.flatten_cons,aA,ih,Nat.succ_mul,Nat.add_comm]
theorem afk:OpR X (binaryOp .Mult) aj1:=by
 intro pins s σ H x y v u Q I rx ry h;obtain⟨l,k,xs,rfl,rfl,hH,h1,h2,hz,q⟩:=h;cases rx;obtain⟨t,rfl⟩:=ry;obtain⟨z,its,n,r,hl,e⟩:=I.lstM hH;have hlen:its.toArray.size*k.toNat<=sizeLine:=by rw[aZ,<- hl];exact hz
 have hcap:¬its.toArray.size*k.toNat>(2^63-1)/8:=by
  have:(sizeLine:Nat)<=(2^63-1)/8:=by decide
  lia
 have hfit:¬(!Builtin.List.listFitsIndex k)=true:=by
  rw[fitsIndex_both h1 h2];exact bC
 have hlong:¬Builtin.List.listTooLong (its.toArray.size*k.toNat)=true:=by
  rw[aaO hlen];exact bC
 have hnew:List.foldl (λx1 x2=>x1++x2) #[] (List.replicate (if its.toArray.isEmpty=true then 0 else k.toNat) its.toArray)=(List.replicate k.toNat its).flatten.toArray:=by
  have f0:∀m:Nat,List.foldl (λx1 x2=>x1++x2) #[] (List.replicate m its.toArray)=(List.replicate m its).flatten.toArray:=λm=>by
   have:=foldl_rep its m [];rw[List.nil_append]at this;exact this
  rw[f0];cases its with
  |nil=>simp
  |cons a r'=>rw[ZZ (by simp)]
 refine wpAny_binaryOp_repeat_ref (T:="list") (U:="int") (by decide) ⟨_,e,rfl⟩ (λs'=>typeIs_int s' k t) noFill_list_mul F.fills_int_mul F.slot_int_rmul repeat_list F.slot_int_index.lookup
  (call_meets F.slot_int_rmul (typeIs_int s k t) F.entry_int_rmul (F.args_int_rmul_2 _ _) (int___rmul___int_list k t l its.toArray n)
   ⟨e,rfl,⟨_,e,rfl⟩,call_meets F.slot_list_mul ⟨_,e,rfl⟩ F.entry_list_mul (F.args_list_mul_2 _ _) (AutoListH.list___mul___list_int_3 l its.toArray n k t hfit hcap hlong) ⟨e,?_⟩⟩)
 rw[hnew];exact⟨.ref _,_,I.lnew (t':=s.toks) (r.rep k.toNat) (by rw[len_rep,Nat.mul_comm];exact hz),rfl,q _ I.fresh⟩
theorem BK{pins:Ω}{s:Shared}{σ:St}{H:Hp}{l:Addr}{xs:Μ}{i:Int}{t:Tok}{k:Nat}{Q:Unit->Shared->Prop}(I:Inv X pins σ H s)(hH:H l=some (.lst xs))
 (h1 : -(2^63)<=i)(h2:i<2^63)(hk:seqIndex? i xs.length=some k)(h:∀s',Inv X pins σ (upd H l (.lst (xs.eraseIdx k))) s'->Q () s') :
  wpAny (model X.prog X.w) X.A (delItem (.ref l) (.int i t)) Q X.xe s:=by
 obtain⟨z,its,n,r,hl,e⟩:=I.lstM hH;refine PySem.P.delItem_list (k:=k) e (fitsIndex_both h1 h2) (by rw[aZ,<- hl];exact hk) (h _ ?_) (by rw[aZ];lia);refine I.lset (its':=its.eraseIdx k) (t':=s.toks) hH e ?_ (r.eraseIdx k) ?_
 .show its.toArray.eraseIdxIfInBounds k=(its.eraseIdx k).toArray;rw[List.eraseIdxIfInBounds_toArray]
 .have:=LK xs k;exact aM this z
end
end L2
namespace Att
open PySem PySem.W PySem.Calls PyProof.Rows
theorem Fp{P:Params}{h:Heap} : ∀(ns:List Int)(vs:Ξ),WellAll P h vs (ns.map WData.int)->IntsAre vs ns:=by
 intro ns
 induction ns with
 |nil =>
  intro vs w;rw[List.map_nil]at w;cases w;exact .nil
 |cons n ns ih =>
  intro vs w;rw[List.map_cons]at w;cases w with
  |cons a b =>
   cases a;exact .cons _ _ (ih _ b)
theorem X_{l:OpenLaw}{n:Nat}(hn:l.most=some n){P:Params}{h:Heap}{args:List WData}{vals:Ξ}
 (hpre:l.row.toRowW.claim.pre args=true)(hwl:WellAll P h vals args) :
  ∃a vs ns,vals=[Value.ref a]/\args=[WData.list (ns.map WData.int)]/\h.get? a=some { cls:=.type "list",data:=.seq vs.toArray }/\IntsAre vs ns/\ns.length<=n:=by
 have hsh:WShape.hasAll [] args [.list .int]=true:=(pre_splitW hpre).1;have hc:l.pre.holds [] { args:=args }=true:=(pre_splitW hpre).2;obtain⟨d,r,rfl,h1,h2⟩:=hasAllW_cons hsh;obtain rfl:=hasAllW_nil h2;obtain⟨xs,rfl,h3⟩:=hasW_list h1;obtain⟨ns,rfl⟩:=items_int h3;have hlen:ns.length<=n:=by
  unfold OpenLaw.pre at hc;have h4:(WTm.not (.lt (.lit (.int (n:Int))) (.len (.arg 0)))).holds [] { args:=[.list (ns.map .int)] }=true:=by
   have h4:=(holds_andW hc).1;rw[hn]at h4;exact h4
  have h5:=condW_of h4 (w_not (w_lt w_lit (w_len_list (w_arg rfl))));rw[ak]at h5;refine Nat.le_of_not_lt λq=>?_;have q':(n:Int)<((ns.length:Nat):Int):=by omega
  first
   |(rw[Zs q']at h5;exact absurd h5 (by decide))
   |(simp at h5;omega)
 cases hwl with
 |cons w1 w2 =>
  cases w2;cases w1 with
  |list ho hall=>exact⟨_,_,ns,rfl,rfl,ho,Fp ns _ hall,hlen⟩
theorem Yr(l:OpenLaw)(args:List WData):l.row.toRowW.claim.post args (.bool true) args=true :=
 postW_of (r:=l.row.toRowW) (X:=(true==true))
  (show WShape.has [] (.bool true) .bool=true by first|rfl|decide|simp[WShape.has,WShape.arms,WShape.armsAll])
  (show(WTm.eq .res (.lit (.bool true))).value [] { args:=args,res:=some (.bool true),after:=args }=some (.bool (true==true))from w_eq_bool (w_res rfl) w_lit) rfl
theorem EY{l:OpenLaw}{n:Nat}{q:Program}{loose:Β}{XP:(Str->Ζ)->Heap->Prop}{YP:World->Heap->Prop}{d:DefRec}
 (hn:l.most=some n)(hdf:d.params.defaults=[])
 (call:∀(w:World)(s₀ s₁:Shared)(mg mb:Str->Ζ)(fa:Addr)(o:Obj)(pm cd doc:Value)(a:Addr)(vs:Ξ)(ns:List Int),
   Ground q loose [] XP w s₀ mg mb s₁.heap->YP w s₁.heap ->
   s₁.heap.get? fa=some o->o.data=.func (docDef d.name d.params d.body d.scope pm cd doc)->s₁.heap.CodeRec cd d.name->mg d.name=some (.ref fa) ->
   s₁.heap.get? a=some { cls:=.type "list",data:=.seq vs.toArray }->IntsAre vs ns->ns.length<=n->s₁.gens = #[] ->
   codeAny (model l.prog w) callerA (.call (.ref fa) ⟨[.ref a],[]⟩) (λr s'=>r=.ok (.ret (.bool true))/\OldK s₁.heap s'.heap/\s'.os=s₁.os/\AllBare s'.gens) s₁) :
  WalkO q loose XP YP l.row.toRowW d [] (λf vs=>PySem.call f vs):=by
 intro w s₀ s₁ mg mb G Y fa o pm cd doc dV kV ho hd hcd hD hmg hg args vals as hpre hlay hrd hwl hlo;obtain rfl:dV=.none:=Dflts.none hD hdf;obtain rfl:kV=.none:=Dflts.noKw hD;obtain⟨a,vs,ns,rfl,rfl,hobj,hints,hlen⟩:=X_ hn hpre hwl;refine enter_call (codeAny_mono (call w s₀ s₁ mg mb fa o pm cd doc a vs ns G Y ho (fd_plain hd) hcd hmg hobj hints hlen hg) λr s' hq=>?_);obtain⟨rfl,h2,h3,h4⟩:=hq;exact⟨.inl ⟨.bool true,.bool true,[],rfl,λ_=>rfl,.bool true,Yr l _,λ_=>⟨List.Pairwise.nil,λ_ hm=>(nomatch hm)⟩⟩,h2,h3,h4⟩
end Att
namespace L2
open PySem PySem.Spec PyProof.Rows
theorem yV:∀{vs:Ξ}{ns:List Int},IntsAre vs ns->Vals (ns.map V.int) vs
 |_,_,.nil=>.nil
 |_,_,.cons n t h=>.cons ⟨t,rfl⟩ (yV h)
def Only(H:Hp):Prop:=∀b,H b=none\/∃o xs,H b=some (.frz o (.lst xs))
theorem ZK{P:Program}{w:World}{K:Frag}{mg mb:Str->Ζ}{CX:CXT}{k:Nat}{fa a:Addr}{fd:FuncData}{x:Str}{sp:Sp}{s₁:Shared}{vs:Ξ}{ns:List Int}
 (KX:K.In s₁.heap)(hns:s₁.heap.Ns mainGlobals mg)(hb:s₁.heap.Ns builtinsNs mb)(hbb:∀x:Str,x≠"__name__"->mb x=bootBuiltins x)(hlim:s₁.heap.NoLimit)(hg:s₁.gens = #[])
 (ha:s₁.heap.get? a=some { cls:=.type "list",data:=.seq vs.toArray })(hi:IntsAre vs ns)(hl:ns.length<=sizeLine)(hr:gU k callerA)
 (F:∀base:Heap,K.In base->base.Ns mainGlobals mg->cF P w K mg base CX k fa fd [x] sp)(hbind:∀(s:Shared)(u:Value),BindsTo s fd ⟨[u],[]⟩ [(x,u)])
 (hsp:∀H:Hp,Only H->SqL K H a (ns.map V.int)->sp [.ref a] H (λv _=>v=.bl true) λ_ _ _=>False)
 (hCX:∀H e s',CX [] H s₁ (λ_ _ _=>False) e s'->False) :
  codeAny (model P w) callerA (.call (.ref fa) ⟨[.ref a],[]⟩) (λr s'=>r=.ok (.ret (.bool true))/\OldK s₁.heap s'.heap/\s'.os=s₁.os/\AllBare s'.gens) s₁:=by
 have rv:=yV hi;have lenV:=hi.length

 have core:∀H:Hp,Only H->SqL K H a (ns.map V.int)->HOk P w H s₁.heap->(∀b,H b≠none->b=a)->(H a≠none->K.lookup a=none) ->
   codeAny (model P w) callerA (.call (.ref fa) ⟨[.ref a],[]⟩) (λr s'=>r=.ok (.ret (.bool true))/\OldK s₁.heap s'.heap/\s'.os=s₁.os/\AllBare s'.gens) s₁:=by
  intro H hO hS hok hA hK;have base_of:∀{b:Addr}{o:Obj},s₁.heap.get? b=some o->H b=none->(Af s₁.heap H).get? b=some o:=λe n=>Rj e n;have noA:∀{b:Addr}{o:Obj}{es:Array DictEntry}{ep:Nat},s₁.heap.get? b=some o->o.data=.dict es ep->H b=none:=λ{b o es ep}e d=>by
   cases q:H b with
   |none=>rfl
   |some u =>
    have e':b=a:=hA b (by rw[q];simp);subst e';rw[ha]at e;cases e;have d':Data.seq vs.toArray _=Data.dict es ep:=d;cases d'
  have nsK:∀{b:Addr}{m:Str->Ζ},s₁.heap.Ns b m->(Af s₁.heap H).Ns b m:=λ{b m}⟨o,es,ep,e,d,r⟩=>⟨o,es,ep,base_of e (noA e d),d,r⟩;have hKb:K.In (Af s₁.heap H):=λb o e=>base_of (KX b o e) (by
   cases q:H b with
   |none=>rfl
   |some u =>
    have e':b=a:=hA b (by rw[q];simp);subst e';rw[hK (by rw[q];simp)]at e;cases e)
  have hM:Mod K mg (Af s₁.heap H):=⟨hKb,nsK hns,⟨mb,nsK hb,hbb⟩,let⟨mc,h1,h2⟩:=hlim;⟨mc,nsK h1,h2⟩⟩;have e0:JG P w K mg (Af s₁.heap H) callerA [] s₁ H:=⟨rfl,hM,λb o e=>WY e,Nat.le_of_eq (Lb _ _),trivial,λb hb=>absurd (show b∈([] : Ε)from hb) (by simp),hok,.of_eq hg⟩;refine codeAny_mono ((F _ hKb (nsK hns)).run callerA [] s₁ H ⟨[.ref a],[]⟩ [.ref a] [.ref a] _ _ hr e0 (hbind s₁ (.ref a)) (.cons rfl .nil) (hsp H hO hS)) λr s' h=>?_;cases r with
  |error e=>exact(hCX H e s' h).elim
  |ok fl =>
   cases fl with
   |next=>exact False.elim h
   |brk=>exact False.elim h
   |cont=>exact False.elim h
   |ret u =>
    obtain⟨v,H',os,bare,un,hok',r',q⟩:=h;have q':v=.bl true:=q;subst q';obtain rfl:u=Value.bool true:=r';refine⟨rfl,OldK.of_keep λb o e=>?_,os,bare⟩;cases q:H b with
    |none=>exact un.keep b o e q (by intro z;exact absurd (show b∈([] : Ε)from z) (by simp)) (by simp)
    |some u =>
     rcases hO b with z|⟨ob,xs,z⟩
     .rw[q]at z;cases z
     .have z2:=un.frzs b ob _ z;obtain⟨e1,_⟩:=hok b _ z;obtain⟨e2,_⟩:=hok' b _ z2;rw[e]at e1;cases e1;exact e2
 cases hk:K.lookup a with
 |some o =>

  have e:=KX a o hk;rw[ha]at e;cases e;refine core (λ_=>none) (λ_=>.inl rfl) (.inr ⟨_,vs.toArray,_,hk,rfl,rfl,rfl,by rw[aZ,lenV];exact hl,by simpa using rv⟩) (λb u z=>by have z':(none:Option HO)=some u:=z;cases z') (λb z=>absurd rfl z) λz=>absurd rfl z
 |none =>
  refine core (λb=>if b=a then some (.frz { cls:=.type "list",data:=.seq vs.toArray } (.lst (ns.map V.int)))else none) (λb=>?_) (.inl (.inr ⟨{ cls:=.type "list",data:=.seq vs.toArray },ZY rfl⟩)) (λb u z=>?_) (λb z=>?_) λ_=>hk
  .by_cases hb:b=a
   .exact .inr ⟨_,_,ZY hb⟩
   .exact .inl (ZZ hb)
  .by_cases hb:b=a
   .have z':=(ZY hb).symm.trans z;cases z';subst hb;exact⟨ha,by rw[ak];exact hl,vs,_,rv,ha⟩
   .have z':=(ZZ hb).symm.trans z;cases z'
  .by_cases hb:b=a
   .exact hb
   .exact absurd (ZZ hb) z
noncomputable abbrev KOf{K:Frag}{h:Heap}(_:K.In h):Frag:=K
theorem acf{l:PySem.W.OpenLaw}{n k:Nat}{q:Program}{loose:Β}{XP:(Str->Ζ)->Heap->Prop}{YP:World->Heap->Prop}{d:DefRec}{K:Params->Frag}{CX:World->CXT}{sp:World->Sp}{x:Str}
 (hn:l.most=some n)(hn2:n<=sizeLine)(hdf:d.params.defaults=[])(hr:gU k callerA)
 (hY:∀(w:World)(h:Heap),YP w h->(K w.params).In h)
 (F:∀(w:World)(mg:Str->Ζ)(fa:Addr)(h:Heap),(K w.params).In h->h.Ns mainGlobals mg->mg d.name=some (.ref fa) ->
   ∃fd:FuncData,(∀(s:Shared)(u:Value),BindsTo s fd ⟨[u],[]⟩ [(x,u)]) /\
    ∀base:Heap,(K w.params).In base->base.Ns mainGlobals mg->cF l.prog w (K w.params) mg base (CX w) k fa fd [x] (sp w))
 (hsp:∀(w:World)(H:Hp)(a:Addr)(ns:List Int),ns.length<=n->Only H->SqL (K w.params) H a (ns.map V.int)->sp w [.ref a] H (λv _=>v=.bl true) λ_ _ _=>False)
 (hCX:∀(w:World)(H:Hp)(s:Shared)(e:Value)(s':Shared),CX w [] H s (λ_ _ _=>False) e s'->False) :
  PySem.W.WalkO q loose XP YP l.row.toRowW d [] (λf vs=>PySem.call f vs):=by
 refine Att.EY hn hdf λw s₀ s₁ mg mb fa o pm cd doc a vs ns G Y ho hd hcd hmg hobj hints hlen hg=>?_;have KX:=hY w _ Y;obtain⟨fd,hb,hF⟩:=F w mg fa _ KX G.T.g hmg;exact ZK KX G.T.g G.T.b G.T.builtins G.T.nolimit hg hobj hints (aM hlen hn2) hr hF hb (λH hO hS=>hsp w H a ns hlen hO hS) λH e s'=>hCX w H s₁ e s'
end L2

namespace L2
open PySem PySem.Spec PyProof.Rows
abbrev CX0:CXT:=λ_ _ _ _ _ _=>False
abbrev E0:XK:=λ_ _ _=>False
theorem W2{X:Cx} : Passes CX0 X E0:=λ_ _ _ _ _ _ _ h=>h.elim
structure Fun(K:Frag)(x qual:Str)(st:Stmt)(f:Addr)(fd:FuncData):Prop where
 ex:∃(oc:Value)(od:Η)(kV doc pm:Value)(an:Η)(cdv ct:Value)(osl:Array (Ζ)),
  fd=PySem.W.fnOf x qual (iI st) (fQ st) (bN st) .none kV doc pm an cdv ct/\K.lookup f=some ⟨oc,od,.func fd,osl⟩/\codeIn K cdv qual=true
 kp:keepIn K (.ref f)=true
section
variable{P:Program}{w:World}{K:Frag}{mg:Str->Ζ}{base:Heap}
theorem Fun.ok{x qual:Str}{st:Stmt}{f:Addr}{fd:FuncData}{N ps:Β}{k:Nat}{sp:Sp}(F:Fun K x qual st f fd)(S:bZ N ps (bN st))(len:∀vs H Q E,sp vs H Q E->vs.length=ps.length)
 (hbody:∀(cdv:Value)(A:Around)(outer:List Env)(s:Shared)(H:Hp)(vs:Μ)(Q:VK)(E:XK),gU k (A.deeper (envOfC qual (bN st) s.heap.objs.size f cdv))->sp vs H Q E ->
   ∃t,PSs (Io CX0 P w K mg base N qual (bN st) f cdv A outer s H E).nox (fQ st) t/\t { nx:=λ_ H'=>Q .non H',rt:=Q } (start N vs) H):cF P w K mg base CX0 (k+1) f fd ps sp:=by
 obtain⟨oc,od,kV,doc,pm,an,cdv,ct,osl,rfl,lk,hcd⟩:=F.ex;refine YF lk hcd S len λA outer s H vs Q E hr hsp=>?_;obtain⟨t,h,q⟩:=hbody cdv A outer s H vs Q E hr hsp;exact⟨t,h.nox,q⟩
theorem U_{x qual:Str}{st:Stmt}{f:Addr}{oc:Value}{od an:Η}{osl:Array (Ζ)}{kV doc pm cdv ct:Value}(l:K.lookup f=some ⟨oc,od,.func (PySem.W.fnOf x qual (iI st) (fQ st) (bN st) .none kV doc pm an cdv ct),osl⟩)
 (c:codeIn K cdv qual=true)(k:keepIn K (.ref f)=true):Fun K x qual st f (PySem.W.fnOf x qual (iI st) (fQ st) (bN st) .none kV doc pm an cdv ct):=⟨⟨oc,od,kV,doc,pm,an,cdv,ct,osl,rfl,l,c⟩,k⟩
end
theorem zF{A:Around}{k:Nat}(hr:gU k A):A.units+1<cLine:=Y2 (Nat.add_le_add_left (by decide:1<=64) _) hr.units
section
variable{X:Cx}
noncomputable def aeX(sc:Scope)(x:Str):Bool:=(sc.names.lookup x).any λk=>k == .local || k == .cell || k == .free
theorem aeF{sc:Scope}{x:Str}(h:aeX sc x=true):Vis sc x:=by
 unfold aeX at h;unfold Vis;cases e:sc.names.lookup x with
 |none=>rw[e]at h;cases h
 |some k=>rw[e]at h;cases k<;>first|exact .inl rfl|exact .inr (.inl rfl)|exact .inr (.inr rfl)|cases h
theorem pv(i:Nat){x:Str}{pos:Pos}(hN:X.N[i]?=some x:=by rfl)(hv:aeX X.env.scope x=true:=by rfl)(hd:(x==("__debug__":Str))=false:=by decide)
 (hcd:(x==("__classdict__":Str))=false:=by decide):PE X (.Name x pos) (Jd i):=ae8 hN (aeF hv) hd hcd
end
theorem adL{c A B:Prop}[Decidable c](h1:c->A)(h2:¬c->B):if c then A else B:=by
 by_cases h:c
 .rw[ZY h];exact h1 h
 .rw[ZZ h];exact h2 h
def Same(H H':Hp):Prop:=∀b o,H b=some o->H' b=some o
theorem Same.refl(H:Hp):Same H H:=λ_ _ h=>h
theorem Same.trans{H H1 H2:Hp}(a:Same H H1)(b:Same H1 H2):Same H H2:=λc o h=>b c o (a c o h)
theorem Same.free{H H':Hp}(e:Same H H'){l:Addr}(h:H' l=Option.none):H l=Option.none:=by
 cases q:H l with
 |none=>rfl
 |some o =>
  rw[e l o q]at h;cases h
def Bd(i:Int):Prop:=i.natAbs<2^8000
theorem Bd.log2{i:Int}(h:Bd i):i.natAbs.log2<8000:=by
 by_cases h0:i.natAbs=0
 .rw[h0,Nat.log2_zero];exact Nat.succ_pos _
 .exact(Nat.log2_lt h0).mpr h
theorem Bd.bits{i:Int}(h:Bd i):Builtin.Int.intBits i<=2^20:=by
 have e:(2:Nat)^20=1048576:=by decide
 have:=h.log2;unfold Builtin.Int.intBits;split
 .exact bw _
 .lia
section
variable{X:Cx}
theorem cL:OpR X (binaryOp .Mult) (rI (λi j=>Bd i/\Bd j) λi j=>.int (i*j)):=opI λ_ _ _ _ _ _ _ hc q=>mul_int q (.of_bits hc.1.bits hc.2.bits)
theorem o8:OpR X (binaryOp .FloorDiv) (rI (λ_ j=>j≠0/\Bd j) λi j=>.int (i.fdiv j)):=opI λ_ _ _ _ _ _ _ hc q=>floordiv_int hc.1 q (.inl (PyProof.noPylong_of_log2 (by have:=hc.2.log2;exact Nat.lt_trans this (by decide))))
theorem SJ:gF X (.builtin "isinstance") (λxs H Q=>∃x c cv t b,xs=[x,c]/\((∃T,c=.ty T/\cv=Value.type T)\/∃C,c=.ref C/\cv=Value.ref C)/\Dp X.K H x t/\kitOne X.K t cv=some b/\Q (.bl b) H):=by
 intro pins s σ H xs us Q I r h;obtain⟨x,c,cv,t,b,rfl,rc,ty,e,q⟩:=h;obtain⟨u,v,rfl,ru,rv⟩:=r.two;have e2:v=cv:=by
  rcases rc with⟨T,rfl,rfl⟩|⟨T,rfl,rfl⟩
  .exact rv
  .exact rv
 subst e2;exact XH I ru ty e λtk=>⟨.bl b,H,I.tok _,rfl,q⟩
theorem Te:gF X (.builtin "sorted") (λxs H Q=>∃l ns,xs=[.ref l]/\SqL X.K H l (ns.map V.int)/\ns.length<64/\∀(ms:List Int)p,H p=none->ms.Perm ns->ms.Pairwise (· <= ·)->Q (.ref p) (upd H p (.lst (ms.map V.int)))):=by
 intro pins s σ H xs us Q I r h;obtain⟨l,ns,rfl,hl,h64,q⟩:=h;obtain⟨u,rfl,ru⟩:=r.one;cases ru;obtain⟨its,rv,p,hz⟩:=I.list hl;have hI:=intsAre_of rv;have hlen:its.length=ns.length:=by have:=rv.length;simpa using this.symm
 refine sorted_ints (vs:=its) p.isList hI (Y2 (Nat.le_of_eq hlen) h64) λout ns' a1 a2 a3=>?_;obtain⟨e,he⟩:=sortedAll_at s.heap its out;have hfr:H (s.heap.objs.size+1)=none:=I.hok.fresh (Y3 _);refine⟨.ref _,_,I.laid (a:=s.heap.objs.size+1) (o:=.lst (ns'.map V.int)) (t':=s.toks) (λb u e=>sortedAll_old e) (Y3 _) ?_,rfl,q ns' _ hfr a2 a3⟩;refine⟨?_,out.toList,e,yV a1,he⟩;rw[ak,a2.length_eq];rw[ak]at hz;exact hz
end
section
variable{prog:Program}{w:World}{A:Around}{E:Κ}{s:Shared}
theorem K7{it t:Addr}{items:Array Value}(hne:t≠it):∀(n i:Nat)(s:Shared)(Q:Ξ->Shared->Prop),s.heap.IsListIter it t i->PlainL s.heap t items->i+n<=items.size ->
  (∀h',h'.IsListIter it t (i+n)->Heap.SameBut it s.heap h'->Q ((items.toList.drop i).take n) { s with heap:=h' })->wpAny (model prog w) A (draw (.ref it) n) Q E s
 |0,i,s,Q,hit,_,_,hQ=>by
  show wpAny _ _ (pure []) Q E s;exact ZT (by simpa using hQ s.heap hit (Heap.SameBut.refl ..))
 |n+1,i,s,Q,hit,ht,hle,hQ=>by
  have hlt:i<items.size:=by lia
  show wpAny _ _ (pyNext (.ref it) >>= _) Q E s;refine ZU (wpAny_pyNext_list_item hit ht.isList (x:=items[i]) (by simp[hlt]) λh₁ hit₁ hs₁=>?_);have ht₁:PlainL h₁ t items:=by
   obtain⟨o,k,e,r⟩:=ht;exact⟨o,k,(hs₁.2 t hne).trans e,r⟩
  refine ZU (wpAny_holding (K7 hne n (i+1) _ _ hit₁ ht₁ (by lia) λh₂ hit₂ hs₂=>ZT ?_));have hd:items.toList.drop i=items[i]::items.toList.drop (i+1):=by simp[List.drop_eq_getElem_cons,hlt]
  have:=hQ h₂ (by rw[show i+(n+1)=i+1+n by lia];exact hit₂) (hs₁.trans hs₂);rw[hd,List.take_succ_cons]at this;exact this
theorem Dy{t:Addr}{items:Array Value}{Q:Ξ->Shared->Prop}(hh:A.handled=none)(ht:PlainL s.heap t items)
 (hQ:∀h',Heap.ExtBut s.heap.objs.size s.heap h'->Q items.toList { s with heap:=h' }):wpAny (model prog w) A (unpackItems (.ref t) items.size none) Q E s:=by
 have hlt:t≠s.heap.objs.size:=by obtain⟨o,_,ho,_⟩:=ht;exact aR (aJ ho)
 unfold unpackItems;refine ZU ?_
 .unfold notIterableAtAll;refine ZU (wpAny_specialOf ht.isList.typeIs slot_list_iter.lookup ?_);refine ZT ?_;simp only[XX,if_false];refine ZU (wpAny_holding (wpAny_pyIter_list ht.isList ?_));have ht0:PlainL (s.heap.push { cls:=.type "list_iterator",data:=.fields #[.ref t,.int 0 0] }) t items:=by
   obtain⟨o,k,e,r⟩:=ht;exact⟨o,k,aG _ e,r⟩
  refine ZU (wpAny_holding (K7 hlt items.size 0 _ _ ⟨_,aY _ rfl,rfl,rfl⟩ ht0 (by lia) λh₁ hit₁ hs₁=>?_));have hall:List.take items.size (List.drop 0 items.toList)=items.toList:=by
   rw[List.drop_zero];exact aK (by simp)
  rw[hall];rw[ZZ (by simp)];have ht₁:PlainL h₁ t items:=by
   obtain⟨o,k,e,r⟩:=ht0;exact⟨o,k,(hs₁.2 t hlt).trans e,r⟩
  refine ZU (wpAny_holding (wpAny_pyNext_list_end hh hit₁ ht₁.isList (by simp) λh₂ he₂=>?_));simp only[Option.isSome_none,XX,if_false];refine ZT (hQ h₂ λb o hb e=>he₂ b o hb (hs₁.extBut b o hb (aG _ e)))
theorem CW{env:Env}{elts:List Expr}{x1}{pos:Pos}{t:Addr}{items:Array Value}{Q:Unit->Shared->Prop}(hh:A.handled=none)(ht:PlainL s.heap t items)
 (hn:(assignEach elts env).length=items.size)(hstar:(assignEach elts env).findIdx? (·.1)=none)
 (h:∀h',Heap.ExtBut s.heap.objs.size s.heap h'->wpAny (model prog w) A (assignInOrder ((assignEach elts env).map (·.2)) items.toList) Q E { s with heap:=h' }) :
  wpAny (model prog w) A (assign (.Tuple elts x1 pos) env (.ref t)) Q E s:=by
 rw[assign_Tuple];refine ZU (wpAny_standAt ?_);unfold unpack;rw[hn,hstar];exact ZU (wpAny_holding (Dy hh ht h))
end
section
variable{X:Cx}{pos:Pos}
def ahR(K:Frag)(n:Nat)(t:TGs):TG:=λv σ H Q=>∃a xs,v=.ref a/\SqL K H a xs/\xs.length=n/\t xs σ H Q
theorem ad6{es:List Expr}{k:Nat}{t:TGs}{n:Nat}(hc:X.calm=true)(h:PGs X es t)
 (hn:(assignEach es X.env).length=n:=by rfl)(hst:(assignEach es X.env).findIdx? (·.1)=none:=by rfl):PG X (.Tuple es k pos) (ahR X.K n t):=by
 intro pins s σ H v u Q I r hw;obtain⟨a,xs,e1,hq,hl,hw⟩:=hw;subst e1;cases r;obtain⟨its,rv,ht,hz⟩:=I.list hq;refine CW (I.ok.hd hc) ht (by simp[hn,<- hl,rv.length]) hst λh' hx=>?_;have I1:Inv X pins σ H { s with heap:=h' }:=I.kept (t':=s.toks) λb o e=>hx b o (aR (aJ e)) e;exact h pins _ σ H xs _ Q I1 (by simpa using rv) hw
end
theorem eF.btw{P:Program}{w:World}{H H2 H':Hp}{h h':Heap}{a:Addr}{o:HO}(x:eF P w H h a o)(y:eF P w H' h' a o)(s1:Same H H2):eF P w H2 h' a o:=by
 induction o with
 |ins C dx fs=>exact⟨s1 dx _ x.1,y.2⟩
 |frz ob u ih=>exact⟨y.1,ih x.2 y.2⟩
 |_=>exact y
def Plus(H H2:Hp):Prop:=Same H H2/\∀a o,H2 a=some o->H a=some o\/(∃xs,o=.tup xs)\/∃xs,o=.lst xs
theorem Plus.refl(H:Hp):Plus H H:=⟨Same.refl H,λ_ _ e=>.inl e⟩
theorem Plus.tup{H H1:Hp}{p:Addr}{xs:Μ}(h:Plus H H1)(hp:H1 p=none):Plus H (upd H1 p (.tup xs)):=by
 refine⟨λb o e=>?_,λa o e=>?_⟩
 .rw[bK (bH (h.1 b o e) hp)];exact h.1 b o e
 .by_cases z:a=p
  .subst z;rw[bI]at e;cases e;exact .inr (.inl ⟨xs,rfl⟩)
  .rw[bK z]at e;exact h.2 a o e
theorem cF.forget{P:Program}{w:World}{K:Frag}{mg:Str->Ζ}{base:Heap}{CX:CXT}{k:Nat}{f:Addr}{fd:FuncData}{ps:Β}{sp sp':Sp}(F:cF P w K mg base CX k f fd ps sp)
 (hs:∀vs H Q E,sp' vs H Q E->∃Q',sp vs H Q' E/\∀v H',Q' v H'->∃H2,Plus H H2/\Same H2 H'/\Q v H2):cF P w K mg base CX k f fd ps sp':=by
 refine⟨λvs H Q E h=>?_,λA outer s H args us vs Q E hr e0 hb r h=>?_⟩
 .obtain⟨Q',h',_⟩:=hs vs H Q E h;exact F.len vs H Q' E h'
 obtain⟨Q',h',hq⟩:=hs vs H Q E h;refine codeAny_mono (F.run A outer s H args us vs _ E hr e0 hb r h') λres s' hs=>?_;cases res with
 |error e=>exact hs
 |ok fl =>
  cases fl with
  |ret u =>
   obtain⟨v,H',ho,hbr,un,hok,rv,q'⟩:=hs;obtain⟨H2,⟨s1,cl⟩,s2,q⟩:=hq v H' q';have fr:∀b,H' b=none->H2 b=none:=λb e=>s2.free e;refine⟨v,H2,ho,hbr,⟨un.keep,un.slot,λb o e n hx=>fr b (un.free b o e n hx),un.there,λb xs e=>s1 b _ e,λb o u e=>s1 b _ e,λb ps e=>⟨#[],by rw[s1 b _ e];simp⟩⟩,λa o e=>?_,rv,q⟩;have z:=hok a o (s2 a o e);rcases cl a o e with c|⟨xs,rfl⟩|⟨xs,rfl⟩
   .exact(e0.hok a o c).btw z s1
   .exact z
   .exact z
  |next=>exact hs
  |brk=>exact hs
  |cont=>exact hs
theorem cF.clean{P:Program}{w:World}{K:Frag}{mg:Str->Ζ}{base:Heap}{CX:CXT}{k:Nat}{f:Addr}{fd:FuncData}{ps:Β}{sp sp':Sp}(F:cF P w K mg base CX k f fd ps sp)
 (h:∀vs H Q E,sp' vs H Q E->sp vs H (λv H'=>Same H H'/\Q v H) E):cF P w K mg base CX k f fd ps sp' :=
 F.forget λvs H Q E hs=>⟨_,h vs H Q E hs,λv H' hP=>by obtain⟨s,q⟩:=hP;exact⟨H,Plus.refl H,s,q⟩⟩
theorem Same.upd{H:Hp}{p:Addr}{o:HO}(hp:H p=none):Same H (upd H p o):=λb u e=>by
 rw[bK (bH e hp)];exact e
theorem cF.cleanP{P:Program}{w:World}{K:Frag}{mg:Str->Ζ}{base:Heap}{CX:CXT}{k:Nat}{f:Addr}{fd:FuncData}{ps:Β}{sp sp':Sp}(F:cF P w K mg base CX k f fd ps sp)
 (h:∀vs H Q E,sp' vs H Q E->sp vs H (λv H'=>Same H H'/\∃p xs,H' p=some (.tup xs)/\H p=none/\Q v (upd H p (.tup xs))) E):cF P w K mg base CX k f fd ps sp' :=
 F.forget λvs H Q E hs=>⟨_,h vs H Q E hs,λv H' ⟨s,p,xs,e,z,q⟩=>by
  refine⟨_,(Plus.refl H).tup (xs:=xs) z,λb o y=>?_,q⟩;by_cases c:b=p
  .subst c;rw[bI]at y;cases y;exact e
  .rw[bK c]at y;exact s b o y⟩
section
variable{X:Cx}
theorem IxR.imp{r r':R2}(h:IxR X r)(i:∀x y H Q,r' x y H Q->r x y H Q):IxR X r':=by
 intro b pos pins s σ H x y v u Q I rx ry q hs;exact h _ _ _ _ _ _ _ _ _ _ _ I rx ry (i _ _ _ _ q) hs
def VG:R2:=λx y H Q=>∃p xs i v,x=.ref p/\y=.int i/\H p=some (.tup xs)/\atI xs i=some v/\Q v H
def Rw:R2:=λx y H Q=>∃p xs i v,x=.ref p/\y=.int i/\H p=some (.lst xs)/\atI xs i=some v/\Q v H
theorem cQ:IxR X VG:=cG.imp λx y H Q hP=>by obtain⟨p,xs,i,v,a,b,c,d⟩:=hP;exact⟨p,xs,i,v,a,b,.of c,d⟩
theorem bY:IxR X Rw:=acI.imp λx y H Q hP=>by obtain⟨p,xs,i,v,a,b,c,d⟩:=hP;exact⟨p,xs,i,v,a,b,.of c,d⟩
theorem c7{α:Type}{x:α}{xs:List α} : atI (x::xs) 0=some x:=cu (j:=0) rfl
theorem cR{α:Type}{x y:α}{xs:List α} : atI (x::y::xs) 1=some y:=cu (j:=1) rfl
theorem gF.imp{f:Value}{r r':Μ->Hp->VK->Prop}(h:gF X f r)(i:∀xs H Q,r' xs H Q->r xs H Q):gF X f r':=λpins s σ H xs us Q I rx q=>h pins s σ H xs us Q I rx (i _ _ _ q)
def V7:Μ->Hp->VK->Prop:=λxs H Q=>∃p ys,xs=[.ref p]/\H p=some (.tup ys)/\Q (.int ys.length) H
def W_:Μ->Hp->VK->Prop:=λxs H Q=>∃p ys,xs=[.ref p]/\H p=some (.lst ys)/\Q (.int ys.length) H
theorem Yy:gF X (.builtin "len") V7:=vf.imp λxs H Q hP=>by obtain⟨p,ys,a,b,c⟩:=hP;exact⟨p,ys,a,.inr (.of b),c⟩
theorem dw:gF X (.builtin "len") W_:=vf.imp λxs H Q hP=>by obtain⟨p,ys,a,b,c⟩:=hP;exact⟨p,ys,a,.inl (.of b),c⟩
noncomputable def tyS(H:Hp):V->Option String
 |.non=>some "NoneType"
 |.bl _=>some "bool"
 |.int _=>some "int"
 |.str _=>some "str"
 |.ref a=>match H a with
  |some (.lst _)=>some "list"
  |some (.tup _)=>some "tuple"
  |some (.dK _)=>some "dict"
  |_=>none
 |_=>none
theorem aeo{K:Frag}{H:Hp}{x:V}{t:String}(h:tyS H x=some t):Dp K H x (.type t):=by
 cases x with
 |non=>cases h;exact .non
 |bl=>cases h;exact .bl _
 |int=>cases h;exact .int _
 |str=>cases h;exact .str _
 |byt=>cases h
 |flt=>cases h
 |ty=>cases h
 |ref a =>
  have h:(match H a with
   |some (.lst _)=>some "list"
   |some (.tup _)=>some "tuple"
   |some (.dK _)=>some "dict"
   |_=>none)=some t:=h
  split at h
  .cases h;exact .lst (by assumption)
  .cases h;exact .tup (by assumption)
  .cases h;exact .dK (by assumption)
  .cases h
noncomputable def Xo(t T:String):Bool:=(t==T) || (t=="bool" && T=="int")
theorem W8{K:Frag}{t T:String}(ht:t∈["NoneType","bool","int","str","list","tuple","dict"])(hT:T∈["bool","int","str","list","tuple","dict"]):kitOne K (.type t) (.type T)=some (Xo t T):=by
 simp only[YU,List.not_mem_nil,or_false]at ht hT;rcases ht with rfl|rfl|rfl|rfl|rfl|rfl|rfl<;>rcases hT with rfl|rfl|rfl|rfl|rfl|rfl<;>with_unfolding_all rfl
theorem aa9{H:Hp}{x:V}{t:String}(h:tyS H x=some t):t∈["NoneType","bool","int","str","list","tuple","dict"]:=by
 cases x with
 |non=>cases h;decide
 |bl=>cases h;decide
 |int=>cases h;decide
 |str=>cases h;decide
 |byt=>cases h
 |flt=>cases h
 |ty=>cases h
 |ref a =>
  have h:(match H a with
   |some (.lst _)=>some "list"
   |some (.tup _)=>some "tuple"
   |some (.dK _)=>some "dict"
   |_=>none)=some t:=h
  split at h<;>cases h<;>decide
def adt:Μ->Hp->VK->Prop:=λxs H Q=>∃x T t,xs=[x,.ty T]/\T∈["bool","int","str","list","tuple","dict"]/\tyS H x=some t/\Q (.bl (Xo t T)) H
theorem gY:gF X (.builtin "isinstance") adt:=SJ.imp λxs H Q hP=>by obtain⟨x,T,t,a,b,c,d⟩:=hP;exact⟨x,.ty T,.type T,.type t,_,a,.inl ⟨T,rfl,rfl⟩,aeo c,W8 (aa9 c) b,d⟩
theorem PG.imp{e:Expr}{t t':TG}(h:PG X e t)(i:∀v σ H Q,t' v σ H Q->t v σ H Q):PG X e t':=λpins s σ H v u Q I r q=>h pins s σ H v u Q I r (i _ _ _ _ q)
def VN(n:Nat)(t:TGs):TG:=λv σ H Q=>∃a xs,v=.ref a/\H a=some (.tup xs)/\xs.length=n/\t xs σ H Q
def W5(n:Nat)(t:TGs):TG:=λv σ H Q=>∃a xs,v=.ref a/\H a=some (.lst xs)/\xs.length=n/\t xs σ H Q
theorem fV{es:List Expr}{k:Nat}{t:TGs}{n:Nat}{pos:Pos}(hc:X.calm=true)(h:PGs X es t)(hn:(assignEach es X.env).length=n:=by rfl)(hst:(assignEach es X.env).findIdx? (·.1)=none:=by rfl):PG X (.Tuple es k pos) (VN n t) :=
 (afu hc h hn hst).imp λv σ H Q hP=>by obtain⟨a,xs,e1,e2,e3⟩:=hP;exact⟨a,xs,e1,.of e2,e3⟩
theorem ad3{es:List Expr}{k:Nat}{t:TGs}{n:Nat}{pos:Pos}(hc:X.calm=true)(h:PGs X es t)(hn:(assignEach es X.env).length=n:=by rfl)(hst:(assignEach es X.env).findIdx? (·.1)=none:=by rfl):PG X (.Tuple es k pos) (W5 n t) :=
 (ad6 hc h hn hst).imp λv σ H Q hP=>by obtain⟨a,xs,e1,e2,e3⟩:=hP;exact⟨a,xs,e1,.of e2,e3⟩
def Vv:Μ->Hp->VK->Prop:=λxs H Q=>∃l ns,xs=[.ref l]/\H l=some (.lst (ns.map V.int))/\ns.length<64/\∀(ms:List Int)p,H p=none->ms.Perm ns->ms.Pairwise (· <= ·)->Q (.ref p) (upd H p (.lst (ms.map V.int)))
theorem Xe:gF X (.builtin "sorted") Vv:=Te.imp λxs H Q hP=>by obtain⟨l,ns,a,b,c⟩:=hP;exact⟨l,ns,a,.of b,c⟩
theorem Nh{H:Hp} : tyS H .non=some "NoneType":=rfl
theorem Vg{H:Hp}{b:Bool} : tyS H (.bl b)=some "bool":=rfl
theorem Bv{H:Hp}{i:Int} : tyS H (.int i)=some "int":=rfl
theorem Qp{H:Hp}{x:Str} : tyS H (.str x)=some "str":=rfl
theorem Xb{H:Hp}{p:Addr}{xs:Μ}(h:H p=some (.tup xs)):tyS H (.ref p)=some "tuple":=by
 show(match H p with
   |some (.lst _)=>some "list"
   |some (.tup _)=>some "tuple"
   |some (.dK _)=>some "dict"
   |_=>none)=_
 rw[h]
theorem Bp{H:Hp}{p:Addr}{xs:Μ}(h:H p=some (.lst xs)):tyS H (.ref p)=some "list":=by
 show(match H p with
   |some (.lst _)=>some "list"
   |some (.tup _)=>some "tuple"
   |some (.dK _)=>some "dict"
   |_=>none)=_
 rw[h]
noncomputable def Ue:V->Option Bool
 |.bl b=>some b
 |.int i=>some (i != 0)
 |.non=>some false
 |_=>none
theorem acS{K:Frag}{x:V}{H:Hp}{k:Bool}(h:Ue x=some k):ahc K x H k:=by
 cases x<;>cases h<;>rfl
def Xx(ta:TE):TT:=λσ H Q=>ta σ H λx H'=>∃k,Ue x=some k/\Q k H'
theorem cV{a:Expr}{ta:TE}(ha:PE X a ta)(he:∀whole,isTrue a X.env whole=(do let v <- whole;standAt a.pos;holding [v] (truthy v))):PT X a (Xx ta):=by
 intro pins s σ H Q I h;exact isTrue_plain (thn (ha pins s σ H _ I h) λv s1 hP=>by obtain⟨x,H1,I1,r1,k,e,q1⟩:=hP;exact aey pins s1 σ H1 x v Q I1 r1 ⟨k,acS e,q1⟩) (he _)
end
def OkF(P:Program)(w:World)(K:Frag)(mg:Str->Ζ)(base:Heap)(k:Nat)(x:Str)(ps:Β)(sp:Sp):Prop :=
 ∃f fd,cF P w K mg base CX0 k f fd ps sp/\Binds K fd ps []/\mg x=some (.ref f)/\keepIn K (.ref f)=true
def dO(K:Frag)(mg:Str->Ζ)(x:Str)(st:Stmt)(ps:Β):Prop :=
 ∃f fd,Fun K x x st f fd/\(∀us:Ξ,us.length=ps.length->bindArgs fd ⟨us,[]⟩=pure (ps.zip us))/\mg x=some (.ref f)
theorem dO.ok{P:Program}{w:World}{K:Frag}{mg:Str->Ζ}{base:Heap}{k:Nat}{x:Str}{st:Stmt}{ps:Β}{sp:Sp}(h:dO K mg x st ps)
 (hf:∀f fd,Fun K x x st f fd->cF P w K mg base CX0 k f fd ps sp):OkF P w K mg base k x ps sp:=by
 obtain⟨f,fd,a,b,c⟩:=h;exact⟨f,fd,hf f fd a,.all b,c,a.kp⟩
theorem ab5{K:Frag}{h:Heap}{mg:Str->Ζ}{x:Str}{st:Stmt}{ps:Β}{f:Addr}{oc:Value}{od an:Η}{osl:Array (Ζ)}{kV doc pm cdv ct:Value}(X:K.In h)(G:h.Ns mainGlobals mg)
 (a:nsIn K mainGlobals x=some (some (.ref f)))(l:K.lookup f=some ⟨oc,od,.func (PySem.W.fnOf x x (iI st) (fQ st) (bN st) .none kV doc pm an cdv ct),osl⟩)
 (c:codeIn K cdv x=true)(k:keepIn K (.ref f)=true)
 (hb:∀(kV doc pm:Value)(an:Η)(cdv ct:Value)(us:Ξ),us.length=ps.length->bindArgs (PySem.W.fnOf x x (iI st) (fQ st) (bN st) .none kV doc pm an cdv ct) ⟨us,[]⟩=pure (ps.zip us)):dO K mg x st ps :=
 ⟨f,_,U_ l c k,hb kV doc pm an cdv ct,mg_of X G a⟩
section
variable{X:Cx}{p pos:Pos}{e:Expr}{es:List Expr}{t:TA}{x:Str}{k:Nat}{ps:Β}{sp:Sp}
def Dt(sp:Sp)(t:TA):TE:=λσ H Q=>t σ H λvs H1=>sp vs H1 Q E0
theorem bO(G:OkF X.prog X.w X.K X.mg X.base k x ps sp)(hr:gU k X.A)(hg:Gl X x)(ha:PA X (e::es) t)(hdb:(x==("__debug__":Str))=false:=by decide)
 (he:starEach (e::es) X.env=(false,eval e X.env)::starEach es X.env:=by rfl)(hpl:(backTo pos (starEach es X.env)).any (·.1)=false:=by rfl):PE X (.Call (.Name x p) (e::es) [] pos) (Dt sp t):=by
 obtain⟨f,fd,F,b,hm,kp⟩:=G;intro pins s σ H Q I h;refine adJ F hr hg hm kp b .nil W2 ha hdb he hpl pins s σ H Q I ?_;show t σ H λvs H1=>sp (vs++[]) H1 Q E0;simp only[List.append_nil];exact h
end
theorem Qt(a:Int):(if a<0 then -a else a)=((a.natAbs:Nat):Int):=by split<;>omega
theorem YM{ms:List Int}{x y:Int}(h:ms.Perm [x,y]):ms=[x,y]\/ms=[y,x]:=by
 match ms,h.length_eq with
 |[l,k],_ =>
  have h1:l∈[x,y]:=h.mem_iff.mp (by simp);simp only[YU,List.not_mem_nil,or_false]at h1;rcases h1 with rfl|rfl
  .have h2:=(List.perm_cons l).mp h;have h3:=h2.mem_iff.mp (aO);simp only[YU,List.not_mem_nil,or_false]at h3;exact .inl (by rw[h3])
  .have h2:=(List.perm_cons l).mp (h.trans (List.Perm.swap ..));have h3:=h2.mem_iff.mp (aO);simp only[YU,List.not_mem_nil,or_false]at h3;exact .inr (by rw[h3])
theorem Aq(a b:Nat):Int.fmod (a:Int) (b:Int)=((a%b:Nat):Int):=by
 rw[aX _ (Wp b)];rfl
theorem ur(a:Int){b:Int}(h:0<b):Int.fdiv a b=a/b:=Int.fdiv_eq_ediv_of_nonneg a (XZ h)
theorem Bd.div{a b:Int}(h:Bd a)(hb:0<b):Bd (a/b):=by
 unfold Bd at *;refine Y2 ?_ h;have e:=Int.mul_ediv_add_emod a b;have r0:=Z3 a (show b≠0 by exact Int.ne_of_gt hb);have r1:=YY a hb;generalize a/b=q at *;generalize a%b=r at *;rcases(by lia:q=0\/1<=q\/q <= -1)with z|z|z
 .subst z;simp
 .have:=Int.mul_le_mul_of_nonneg_right (show 1<=b by lia) (show 0<=q by lia);lia
 .have h1:b*(q+1)<=1*(q+1):=Int.mul_le_mul_of_nonpos_right (show 1<=b by lia) (show q+1<=0 by lia);rw[Int.mul_add]at h1;omega
def TrD(h base:Heap)(e:Addr)(cls:Value)(d:Η)(fl:Value):Prop :=
 ∃oe vs T oT ts,h.get? e=some oe/\(oe.cls=cls/\oe.dict=d)/\oe.data=.fields vs/\vs[1]?=some (.ref T)/\base.get? T=none/\T≠e/\h.get? T=some oT/\oT.data=.fields ts/\ts[3]?=some fl
def vU(base:Heap)(l:List Env)(e:Addr)(cls:Value)(d:Η)(fl:Value)(h:Heap):Prop :=
 base.StaysIn h/\base.get? e=none/\h.FunFrames base l/\TrD h base e cls d fl
theorem vU.first{base h:Heap}{l:List Env}{e:Addr}{cls fl:Value}{d:Η}(x:vU base l e cls d fl h):∃oe vs,h.get? e=some oe/\oe.cls=cls/\oe.dict=d/\oe.data=.fields vs :=
 by obtain⟨_,_,_,oe,vs,_,_,_,he,hc,hd,_⟩:=x;exact⟨oe,vs,he,hc.1,hc.2,hd⟩
section
variable{M:Model}{A:Around}{E:Κ}{s:Shared}{base:Heap}{env:Env}{outer l:List Env}{L e:Addr}{cls:Value}{d:Η}{Q:Unit->Shared->Prop}
theorem GD(o:Obj)(f:Array Value->Array Value):(Obj.mapFields f o).dict=o.dict:=by
 unfold Obj.mapFields;split<;>rfl
theorem YW{oe:Obj}{vs:Array Value}{head:Value}{hadNext:Bool}(hfr:A.frames=some (env::outer))(hl:s.heap.FunFrames base (env::outer))(hf:env.frame=some L)(he:s.heap.get? e=some oe)
 (hkb:base.StaysIn s.heap)(hen:base.get? e=none)(hd:oe.data=.fields vs)(hsz:1<vs.size)(h:∀h',vU base (env::outer) e oe.cls oe.dict (rawInt L) h'->s.heap.UpToSlots h'->Q () { s with heap:=h' }) :
  wpAny M A (do let a <- frameOf env;let pl <- entryPlaceOf L hadNext;let b <- EntryCells.newEntry head a .none (rawInt L) .none pl;setField (.ref e) 1 b) Q E s:=by
 have nofr:e∉(env::outer).filterMap (·.frame):=λz=>by
  obtain⟨_,o,ho,hnf⟩:=hl.mem z;rw[he]at ho;cases ho;exact hnf vs hd
 refine ZU (wpAny_frameOf_fun hfr hl hf λg hg=>ZU (wpAny_entryPlaceOf λpl hpl=>?_));unfold EntryCells.newEntry newFields;refine ZU (wpAny_newObj_type ?_ (hpl.sizeOk5 _ _ _ _ _));have eg:g.get? e=some oe:=(hg.2.1 e nofr).trans he;have kg:base.StaysIn g:=λb o q=>(hg.2.1 b λz=>by rw[(hl.mem z).1]at q;cases q).trans (hkb b o q);generalize ho':({ cls:=.type "traceback",dict:=none,data:=.fields ([head,.ref L,.none,rawInt L,.none]++(if pl.isEmpty then List.replicate 6 Value.none else pl)).toArray } : Obj)=ot;have nTe:g.objs.size≠e:=Nat.ne_of_gt (aJ eg);have e2:(g.push ot).get? e=some oe:=aG _ eg;refine wpAny_setField e2 hd hsz (h _ ?_ ?_)
 all_goals
  have d3:=Obj.data_mapFields hd (·.setIfInBounds 1 (Value.ref g.objs.size));have e3:=Heap.get?_update_self (Obj.mapFields (·.setIfInBounds 1 (Value.ref g.objs.size))) e2 (Obj.isFreed_of_fields d3);have keep:∀b o,b≠e->g.get? b=some o->((g.push ot).update e (Obj.mapFields (·.setIfInBounds 1 (Value.ref g.objs.size)))).get? b=some o:=λb o nb q=>by
   rw[Heap.get?_update_other _ _ (Ne.symm nb)];exact aG _ q
  have nr:∀b o,s.heap.get? b=some o->(∀ws,o.data≠.fields ws)->b≠e:=λb o q nf z=>by
   rw[z,he]at q;cases q;exact nf vs hd
 .refine⟨λb o q=>keep b o (λz=>by rw[z,hen]at q;cases q) (kg b o q),hen,hl.of_keeps λb o q nf=>?_,?_⟩
  .obtain⟨sl,z⟩:=hg.2.2 b o q;exact⟨_,keep b _ (nr b o q nf) z,rfl⟩
  .refine⟨_,_,g.objs.size,ot,_,e3,⟨Obj.cls_mapFields _ _,GD _ _⟩,d3,by simp[hsz],kg.fresh,nTe,?_,by rw[<- ho'],?_⟩
   .rw[Heap.get?_update_other _ _ (Ne.symm nTe)];exact aY g (by rw[<- ho'];rfl)
   .first|(simp;done)|(rcases hpl with rfl|⟨_,_,_,_,_,_,_,rfl⟩<;>simp)
 .intro b o q nf;obtain⟨sl,z⟩:=hg.2.2 b o q;exact⟨sl,keep b _ (nr b o q nf) z⟩
theorem Uh{oe:Obj}{vs:Array Value}(hfr:A.frames=some (env::outer))(hl:s.heap.FunFrames base (env::outer))(hf:env.frame=some L)(he:s.heap.get? e=some oe)
 (hkb:base.StaysIn s.heap)(hen:base.get? e=none)(hd:oe.data=.fields vs)(h1:vs[1]?=some .none)(h:∀h',vU base (env::outer) e oe.cls oe.dict (rawInt L) h'->s.heap.UpToSlots h'->Q () { s with heap:=h' }) :
  wpAny M A (noteFrame (.ref e) env) Q E s:=by
 unfold noteFrame;simp only[hf];refine ZU (wpAny_field he hd h1 ?_);rw[ZZ (by decide)];exact YW hfr hl hf he hkb hen hd (Array.getElem?_eq_some_iff.mp h1).1 h
theorem Lh(hfr:A.frames=some (env::outer))(hf:env.frame=some L)(x:vU base (env::outer) e cls d .none s.heap)
 (h:∀h',vU base (env::outer) e cls d (rawInt L) h'->s.heap.UpToSlots h'->Q () { s with heap:=h' }):wpAny M A (noteFrame (.ref e) env) Q E s:=by
 obtain⟨hkb,hen,hl,oe,vs,T,oT,ts,he,⟨hc,hdd⟩,hd,h1,nT,nTe,hT,hdT,h3⟩:=x;subst hc hdd;unfold noteFrame;simp only[hf];refine ZU (wpAny_field he hd h1 ?_);rw[ZY (show(Value.ref T != Value.none)=true from by simp)];refine ZU (wpAny_field hT hdT h3 ?_);rw[ZZ (show ¬((Value.none==rawInt L)=true)from by simp[rawInt])];refine ZU (wpAny_setField hT hdT (Array.getElem?_eq_some_iff.mp h3).1 ?_);have other:∀b,b≠T->(s.heap.update T (Obj.mapFields (·.setIfInBounds 3 Value.none))).get? b=s.heap.get? b:=λb hb=>Heap.get?_update_other _ _ (Ne.symm hb);have nr:∀b o,s.heap.get? b=some o->(∀ws,o.data≠.fields ws)->b≠T:=λb o q nf z=>by
  rw[z,hT]at q;cases q;exact nf ts hdT
 refine YW (s:={ s with heap:=_ }) hfr (hl.of_keeps λb o q nf=>⟨o,(other b (nr b o q nf)).trans q,rfl⟩) hf ((other e (Ne.symm nTe)).trans he)
  (λb o q=>(other b λz=>by rw[z,nT]at q;cases q).trans (hkb b o q)) hen hd (Array.getElem?_eq_some_iff.mp h1).1 λh' y up=>h h' y λb o q nf=>up b o ((other b (nr b o q nf)).trans q) nf
theorem Wz{fl:Value}(x:vU base l e cls d fl s.heap)(h:∀h',vU base l e cls d .none h'->s.heap.UpToSlots h'->Q () { s with heap:=h' }):wpAny M A (setFlight (.ref e) none) Q E s:=by
 obtain⟨hkb,hen,hl,oe,vs,T,oT,ts,he,hc,hd,h1,nT,nTe,hT,hdT,h3⟩:=x;have z3:3<ts.size:=(Array.getElem?_eq_some_iff.mp h3).1;have other:∀b,b≠T->(s.heap.update T (Obj.mapFields (·.setIfInBounds 3 ((none:Η).elim Value.none λf=>rawInt f)))).get? b=s.heap.get? b:=λb hb=>Heap.get?_update_other _ _ (Ne.symm hb);have nr:∀b o,s.heap.get? b=some o->(∀ws,o.data≠.fields ws)->b≠T:=λb o q nf z=>by
  rw[z,hT]at q;cases q;exact nf ts hdT
 unfold setFlight;refine ZU (wpAny_field he hd h1 ?_);rw[ZY (show(Value.ref T != Value.none)=true from by simp)];refine wpAny_setField hT hdT z3 (h _ ⟨λb o q=>(other b λz=>by rw[z,nT]at q;cases q).trans (hkb b o q),hen,hl.of_keeps λb o q nf=>⟨o,(other b (nr b o q nf)).trans q,rfl⟩,?_⟩ λb o q nf=>⟨o.slots,(other b (nr b o q nf)).trans q⟩);exact⟨oe,vs,T,_,_,(other e (Ne.symm nTe)).trans he,hc,hd,h1,nT,nTe,Heap.get?_update_self _ hT (Obj.isFreed_of_fields (Obj.data_mapFields hdT _)),Obj.data_mapFields hdT _,by simp[z3]⟩
theorem vU.pop{fl:Value}{h:Heap}(x:vU base (env::outer) e cls d fl h):vU base outer e cls d fl h:=⟨x.1,x.2.1,x.2.2.1.2.2,x.2.2.2⟩
theorem Z5(hfr:A.frames=some (env::outer))(hf:env.frame=some L)(x:vU base (env::outer) e cls d .none s.heap)
 (h:∀h',vU base outer e cls d .none h'->s.heap.UpToSlots h'->Q () { s with heap:=h' }):wpAny M A (leaving env (.ref e)) Q E s:=by
 unfold leaving;exact ZU (Lh hfr hf x λh1 y up=>Wz y λh2 z up2=>h h2 z.pop (up.trans up2))
theorem Yh{h0:Heap}{oe:Obj}{vs:Array Value}(hfr:A.frames=some (env::outer))(hf:env.frame=some L)(hkb:base.StaysIn h0)(hl:h0.FunFrames base (env::outer))(keeps:∀b o,h0.get? b=some o->s.heap.get? b=some o)
 (new:h0.get? e=none)(he:s.heap.get? e=some oe)(hd:oe.data=.fields vs)(h1:vs[1]?=some .none)
 (h:∀h',vU base outer e oe.cls oe.dict .none h'->s.heap.UpToSlots h'->Q () { s with heap:=h' }):wpAny M A (leaving env (.ref e)) Q E s:=by
 have hen:base.get? e=none:=by
  cases q:base.get? e with
  |none=>rfl
  |some o=>have:=hkb e o q;rw[new]at this;cases this
 unfold leaving;exact ZU (Uh hfr (hl.of_keeps λb o q _=>⟨o,keeps b o q,rfl⟩) hf he (λb o q=>keeps b o (hkb b o q)) hen hd h1 λh1 y up=>Wz y λh2 z up2=>h h2 z.pop (up.trans up2))
end
theorem eF.there{P:Program}{w:World}{H:Hp}{h:Heap}{a:Addr}{o:HO}(x:eF P w H h a o):∃ob,h.get? a=some ob:=by
 cases o with
 |lst xs=>obtain⟨_,_,_,_,e⟩:=x;exact⟨_,e⟩
 |tup xs=>obtain⟨_,_,_,o,e,_⟩:=x;exact⟨_,e⟩
 |dK kvs=>obtain⟨_,_,_,_,o,_,_,e,_⟩:=x;exact⟨_,e⟩
 |set S n=>obtain⟨o,_,_,_,e,_⟩:=x;exact⟨_,e⟩
 |ins C dx fs=>obtain⟨_,_,_,e,_⟩:=x;exact⟨_,e⟩
 |own y=>exact x
 |xd fs=>obtain⟨_,⟨_,_,_,e,_⟩,_⟩:=x;exact⟨_,e⟩
 |rng lo hi=>obtain⟨_,_,_,e⟩:=x;exact⟨_,e⟩
 |frz ob u=>obtain⟨e,_⟩:=x;exact⟨_,e⟩
 |tbl ps=>exact⟨_,(show h.get? a=some _ from x)⟩
 |met f y=>exact⟨_,(show h.get? a=some _ from x)⟩
 |ext φ=>obtain⟨_,e,_⟩:=x;exact e
structure Fly(P:Program)(w:World)(l:List Env)(H:Hp)(s:Shared)(a:Addr)(C:Value)(H':Hp)(s':Shared)(B:Heap)(d:Η):Prop where
 os:s'.os=s.os
 bare:AllBare s'.gens
 new:s.heap.get? a=none
 un:Un (frs l) [] H H' s.heap s'.heap
 hok:HOk P w H' s'.heap
 frf:∀b∈frs l,H' b=none
 fl:vU B l a C d .none s'.heap
 cov:∀b o,s'.heap.get? b=some o->b∉frs l->((∃u,s.heap.get? b=some u)\/∃u,H' b=some u)->B.get? b=some o
section
variable{P:Program}{w:World}{l:List Env}{H H':Hp}{s s':Shared}{a:Addr}{C:Value}{B:Heap}{d:Η}{h':Heap}
theorem Fly.trk(F:Fly P w l H s a C H' s' B d){b:Addr}{u:HO}{o:Obj}(e:H' b=some u)(q:s'.heap.get? b=some o):B.get? b=some o :=
 F.cov b o q (λz=>by rw[F.frf b z]at e;cases e) (.inr ⟨u,e⟩)
theorem Fly.hok'(F:Fly P w l H s a C H' s' B d)(k:∀b o,B.get? b=some o->h'.get? b=some o):HOk P w H' h':=λb u e =>
 (F.hok b u e).stay (λc v hc q=>k c v (by
  rcases hc with z|z
  .subst z;exact F.trk e q
  .exact F.trk z q)) (λ_ q=>q) λ_ _ q=>q
theorem Fly.un'(F:Fly P w l H s a C H' s' B d)(k:∀b o,B.get? b=some o->h'.get? b=some o)(up:s'.heap.UpToSlots h'):Un (frs l) [] H H' s.heap h':=by
 have nf:∀b∈frs l,∀o,s'.heap.get? b=some o->∀vs,o.data≠.fields vs:=λb hb o e=>by
  obtain⟨_,o',e',d⟩:=F.fl.2.2.1.mem hb;rw[e]at e';cases e';exact d
 refine⟨λb o q n hb hx=>k b o (F.cov b o (F.un.keep b o q n hb hx) hb (.inl ⟨o,q⟩)),λb o q n hb hx=>?_,F.un.free,λb o q hx=>?_,F.un.tups,F.un.frzs,F.un.tbls⟩
 .obtain⟨sl,e⟩:=F.un.slot b o q n hb hx;obtain⟨sl',e'⟩:=up b _ e (nf b hb _ e);exact⟨sl',e'⟩
 .obtain⟨o',e⟩:=F.un.there b o q hx;by_cases hb:b∈frs l
  .obtain⟨sl',e'⟩:=up b _ e (nf b hb _ e);exact⟨_,e'⟩
  .exact⟨o',k b o' (F.cov b o' e hb (.inl ⟨o,q⟩))⟩
end
section
variable{X:Cx}{pins:Ω}{σ:List (Option V)}{H H':Hp}{s s':Shared}{a:Addr}{C:Value}{B:Heap}{d:Η}{h':Heap}
theorem Inv.flown(I:Inv X pins σ H s)(F:Fly X.prog X.w X.stack H s a C H' s' B d)(k:∀b o,B.get? b=some o->h'.get? b=some o)(up:s'.heap.UpToSlots h'):Inv X pins σ H' { s' with heap:=h' } :=
 I.call' (s':={ s' with heap:=h' }) (ch:=[]) F.os (F.un' k up) (F.hok' k) F.bare λ_ z=>nomatch z
theorem Inv.old(I:Inv X pins σ H s)(hx:X.ex=[]){b:Addr}{o:Obj}(e:X.s₀.heap.get? b=some o):(∃u,s.heap.get? b=some u)/\b≠X.env.locals:=by
 obtain⟨u,q⟩:=I.base.there b o e (by rw[hx];simp);exact⟨⟨u,q⟩,aR (aU (aJ e) I.ok.above)⟩
theorem Inv.nostk(I:Inv X pins σ H s){b:Addr}(h1:b≠X.env.locals)(h2:b∉X.fs):b∉frs X.stack:=λz=>by
 rcases YU.mp (I.stkSub b z)with e|e
 .exact h1 e
 .exact h2 e
theorem Inv.flyOut(I:Inv X pins σ H s)(hx:X.ex=[])(F:Fly X.prog X.w X.stack H s a C H' s' B d)(fl:vU B X.outer a C d .none h')(up:s'.heap.UpToSlots h') :
  Fly X.prog X.w X.outer X.H₀ X.s₀ a C H' { s' with heap:=h' } B d:=by
 have J:=I.flown F fl.1 up;refine⟨J.os,J.bare,?_,by have:=J.base;rw[hx]at this;exact this,J.hok,λb hb=>?_,fl,λb o e hb hc=>?_⟩
 .cases q:X.s₀.heap.get? a with
  |none=>rfl
  |some o =>
   obtain⟨⟨u,z⟩,_⟩:=I.old hx q;rw[F.new]at z;cases z
 .obtain⟨_,o,ho,_⟩:=I.ok.funs.mem hb;exact J.base.free b o ho (I.ok.frf b hb) λz=>I.ok.exfs b z hb
 .rcases hc with⟨u,q⟩|⟨u,q⟩
  .obtain⟨⟨v,z⟩,n⟩:=I.old hx q;obtain⟨o',e'⟩:=F.un.there b v z (by simp);have y:=F.cov b o' e' (I.nostk n hb) (.inl ⟨v,z⟩);have e2:=fl.1 b o' y;rw[show({ s' with heap:=h' } : Shared).heap.get? b=h'.get? b from rfl,e2]at e;cases e;exact y
  .obtain⟨o',e'⟩:=(F.hok b u q).there;have y:=F.trk q e';have e2:=fl.1 b o' y;rw[show({ s' with heap:=h' } : Shared).heap.get? b=h'.get? b from rfl,e2]at e;cases e;exact y
theorem Inv.flyNew(I:Inv X pins σ H s)(hx:X.ex=[]){h1:Heap}{t:Nat}(keeps:∀b o,s.heap.get? b=some o->h1.get? b=some o)(new:s.heap.get? a=none)(hB:B=hideAll s.heap (frs X.stack))(fl:vU B X.outer a C d .none h')(up:h1.UpToSlots h') :
  Fly X.prog X.w X.outer X.H₀ X.s₀ a C H { s with heap:=h',toks:=t } B d:=by
 have inB:∀b o,s.heap.get? b=some o->b∉frs X.stack->B.get? b=some o:=λb o e n=>by rw[hB];exact hideAll_get _ e n
 have trk:∀b u o,H b=some u->s.heap.get? b=some o->B.get? b=some o:=λb u o e q=>inB b o q λz=>by
  rw[I.stkFree b z]at e;cases e
 have up2:s.heap.UpToSlots h':=(Heap.UpToSlots.of_keeps keeps).trans up;have nf:∀b∈frs X.stack,∀o,s.heap.get? b=some o->∀vs,o.data≠.fields vs:=λb hb o e=>by
  obtain⟨_,o',e',d⟩:=I.stack.mem hb;rw[e]at e';cases e';exact d
 have hok:HOk X.prog X.w H h':=λb u e=>(I.hok b u e).stay (λc v hc q=>fl.1 c v (by
  rcases hc with z|z
  .subst z;exact trk c u v e q
  .exact trk c _ v z q)) (λ_ q=>q) λ_ _ q=>q
 have un:Un (frs X.stack) [] H H s.heap h':=by
  refine⟨λb o q n hb _=>fl.1 b o (inB b o q hb),λb o q n hb _=>up2 b o q (nf b hb o q),λ_ _ _ n _=>n,λb o q _=>?_,λ_ _ q=>q,λ_ _ _ q=>q,λ_ ps q=>⟨#[],by rw[q];simp⟩⟩;by_cases hb:b∈frs X.stack
  .obtain⟨sl,e⟩:=up2 b o q (nf b hb o q);exact⟨_,e⟩
  .exact⟨o,fl.1 b o (inB b o q hb)⟩
 have J:Inv X pins σ H { s with heap:=h',toks:=t }:=I.call' (s':={ s with heap:=h',toks:=t }) (ch:=[]) rfl un hok I.bare λ_ z=>nomatch z
 refine⟨J.os,J.bare,?_,by have:=J.base;rw[hx]at this;exact this,J.hok,λb hb=>?_,fl,λb o e hb hc=>?_⟩
 .cases q:X.s₀.heap.get? a with
  |none=>rfl
  |some o =>
   obtain⟨⟨u,z⟩,_⟩:=I.old hx q;rw[new]at z;cases z
 .obtain⟨_,o,ho,_⟩:=I.ok.funs.mem hb;exact J.base.free b o ho (I.ok.frf b hb) λz=>I.ok.exfs b z hb
 .rcases hc with⟨u,q⟩|⟨u,q⟩
  .obtain⟨⟨v,z⟩,n⟩:=I.old hx q;have y:=inB b v z (I.nostk n hb);have e2:=fl.1 b v y;rw[show({ s with heap:=h',toks:=t } : Shared).heap.get? b=h'.get? b from rfl,e2]at e;cases e;exact y
  .obtain⟨o',e'⟩:=(I.hok b u q).there;have y:=trk b u o' q e';have e2:=fl.1 b o' y;rw[show({ s with heap:=h',toks:=t } : Shared).heap.get? b=h'.get? b from rfl,e2]at e;cases e;exact y
end
def CXO(P:Program)(w:World):CXT:=λl H s E e s'=>∃a C d H' B,e=.ref a/\Fly P w l H s a C H' s' B d/\E C d H'
def Kh(X:Cx)(Ex:Value->Η->L2.St->Hp->Prop):Prop :=
 ∀pins σ H s a C H' s' B d,Inv X pins σ H s->Fly X.prog X.w X.stack H s a C H' s' B d->Ex C d σ H'->X.xe (.ref a) s'
def aeh(X:Cx)(Ex:Value->Η->L2.St->Hp->Prop):Prop :=
 ∀pins σ H s a C vs h1,Inv X pins σ H s->Heap.MadeExcOf s.heap h1 a C vs->Ex C none σ H->X.xe (.ref a) { s with heap:=h1 }
section
variable{P:Program}{w:World}{K:Frag}{mg:Str->Ζ}{base:Heap}{N:Β}{qual:Str}{scope:Scope}{f:Addr}{cd:Value}{A:Around}{outer:List Env}{s:Shared}{H:Hp}{E:XK}
theorem fK:Kh (Io (CXO P w) P w K mg base N qual scope f cd A outer s H E) (λC d _ H'=>E C d H'):=by
 intro pins σ H1 s1 a C H' s' B d I F q;show wpAny _ _ (leaving _ (.ref a)) _ _ _;refine Z5 (outer:=outer) I.ok.frames rfl F.fl λh' fl up=>?_;exact⟨a,C,d,H',B,rfl,I.flyOut rfl F fl up,q⟩
theorem rZ:aeh (Io (CXO P w) P w K mg base N qual scope f cd A outer s H E) (λC d _ H'=>E C d H'):=by
 intro pins σ H1 s1 a C vs h1 I M q;show wpAny _ _ (leaving _ (.ref a)) _ _ _;have hin:∀env∈(envOfC qual scope s.heap.objs.size f cd::outer),∀b,env.frame=some b->b∈frs (envOfC qual scope s.heap.objs.size f cd::outer):=λenv he b hb=>List.mem_filterMap.mpr ⟨env,he,hb⟩;obtain⟨t,he,_,_⟩:=M.there;refine Yh (base:=hideAll s1.heap (frs (envOfC qual scope s.heap.objs.size f cd::outer))) (h0:=s1.heap) (outer:=outer) I.ok.frames rfl (λb o q=>of_hideAll _ q) (PySem.W.funFrames_hide I.stack hin) M.keeps M.new he rfl rfl λh' fl up=>?_;exact⟨a,C,none,H1,_,rfl,I.flyNew rfl M.keeps M.new rfl fl up,q⟩
end
section
variable{P:Program}{w:World}{K:Frag}{mg:Str->Ζ}{base:Heap}
theorem Fun.okX{x qual:Str}{st:Stmt}{f:Addr}{fd:FuncData}{N ps:Β}{k:Nat}{sp:Sp}(F:Fun K x qual st f fd)(S:bZ N ps (bN st))(len:∀vs H Q E,sp vs H Q E->vs.length=ps.length)
 (hbody:∀(cdv:Value)(A:Around)(outer:List Env)(s:Shared)(H:Hp)(vs:Μ)(Q:VK)(E:XK),gU k (A.deeper (envOfC qual (bN st) s.heap.objs.size f cdv))->sp vs H Q E ->
   ∃t,PSs (Io (CXO P w) P w K mg base N qual (bN st) f cdv A outer s H E) (fQ st) t/\t { nx:=λ_ H'=>Q .non H',rt:=Q } (L2.start N vs) H):cF P w K mg base (CXO P w) (k+1) f fd ps sp:=by
 obtain⟨oc,od,kV,doc,pm,an,cdv,ct,osl,rfl,lk,hcd⟩:=F.ex;exact YF lk hcd S len λA outer s H vs Q E hr hsp=>hbody cdv A outer s H vs Q E hr hsp
def OkX(P:Program)(w:World)(K:Frag)(mg:Str->Ζ)(base:Heap)(k:Nat)(x:Str)(ps:Β)(sp:Sp):Prop :=
 ∃f fd,cF P w K mg base (CXO P w) k f fd ps sp/\Binds K fd ps []/\mg x=some (.ref f)/\keepIn K (.ref f)=true
theorem dO.okX{k:Nat}{x:Str}{st:Stmt}{ps:Β}{sp:Sp}(h:dO K mg x st ps)
 (hf:∀f fd,Fun K x x st f fd->cF P w K mg base (CXO P w) k f fd ps sp):OkX P w K mg base k x ps sp:=by
 obtain⟨f,fd,a,b,c⟩:=h;exact⟨f,fd,hf f fd a,.all b,c,a.kp⟩
end
section
variable{X:Cx}{p pos:Pos}{e:Expr}{es:List Expr}{t:TA}{x:Str}{k:Nat}{ps:Β}{sp:Sp}{Ex:Value->Η->L2.St->Hp->Prop}
def Du(sp:Sp)(Ex:Value->Η->L2.St->Hp->Prop)(t:TA):TE:=λσ H Q=>t σ H λvs H1=>sp vs H1 Q λC d H'=>Ex C d σ H'
theorem eN(G:OkX X.prog X.w X.K X.mg X.base k x ps sp)(hr:gU k X.A)(hg:Gl X x)(hx:Kh X Ex)(ha:PA X (e::es) t)(hdb:(x==("__debug__":Str))=false:=by decide)
 (he:starEach (e::es) X.env=(false,eval e X.env)::starEach es X.env:=by rfl)(hpl:(backTo pos (starEach es X.env)).any (·.1)=false:=by rfl):PE X (.Call (.Name x p) (e::es) [] pos) (Du sp Ex t):=by
 obtain⟨f,fd,F,hb,hm,kp⟩:=G;intro pins s σ H Q I h;refine wpAny_Call_Name_kw (sG I hg hm ?_ hdb);refine callWith_K (h₀:=X.base) I.ok.mod.kin kp (thn (ha pos pins s σ H _ I h) λus s1 ⟨vs,H1,I1,r,q⟩=>⟨I1.kIn,?_⟩) he hpl;have hl:us.length=ps.length:=by rw[<- r.length];exact F.len _ _ _ _ q
 have hb':=hb s1 us I1.kIn (by simpa using hl);simp only[List.append_nil]at hb';refine wpAny_call (codeAny_mono (F.run X.A X.stack s1 H1 ⟨us,[]⟩ us vs Q _ hr I1.env0 hb' r q) λr s' hq=>?_);cases r with
 |error e =>
  obtain⟨a,C,d,H',B,rfl,Fl,q'⟩:=hq;exact hx pins σ H1 s1 a C H' s' B d I1 Fl q'
 |ok fl =>
  cases fl with
  |ret u=>exact I1.after hq
  |next=>exact False.elim hq
  |brk=>exact False.elim hq
  |cont=>exact False.elim hq
end
abbrev bmV:Ξ:=[.type "ValueError",.type "Exception",.type "BaseException",.type "object"]
def Vd(K:Frag)(C:Addr):Prop:=excIn K C bmV "ValueError.__new__"=true
theorem adb{K:Frag}{h:Heap}{C:Addr}(X:K.In h)(q:Vd K C):∃bm N nm qn bs hdct sn sub ab col dd k0 k1 k2 k3 k5 mN,h.get? C=some (excClassObj nm qn C N bs bm hdct sn sub ab col dd k0 k1 k2 k3 k5 "ValueError.__new__") /\
  h.Ns N mN/\mN "__init__"=none/\OwnTail h bmV bm:=by
 unfold Vd excIn at q;split at q
 .rename_i dd cd sl ho
  split at q
  .rename_i C' bm k0 k1 k2 k3 n k5 hm hs
   simp only[Bool.and_eq_true,beq_iff_eq,Bool.not_eq_true']at q;obtain⟨⟨⟨⟨⟨rfl,rfl⟩,hdel⟩,ht⟩,hok⟩,hni⟩:=q;obtain⟨nm,bs,mro,ns,qn,hd,sn,sub,ab,col,del⟩:=cd;dsimp only at hm hdel hok hni;subst hm hdel;have hsl:sl = #[k0,k1,k2,k3,some (.builtin "ValueError.__new__"),k5]:=by
    obtain⟨l⟩:=sl;simp only at hs;rw[hs]
   subst hsl;exact⟨bm,ns,nm,qn,bs,hd,sn,sub,ab,col,dd,k0,k1,k2,k3,k5,_,X _ _ ho,.of_isNs (PySem.W.isNs_of_in X hok),PySem.W.nsMap_none_of_in X hok hni,PySem.W.tail_of_in X ht⟩
  .cases q
 .cases q
section
variable{X:Cx}{x:Str}{np cpos pos:Pos}{e₀:Expr}{rest:List Expr}{ta:TA}{C:Addr}{Ex:Value->Η->L2.St->Hp->Prop}
def Nt(C:Addr)(Ex:Value->Η->L2.St->Hp->Prop)(ta:TA):TS:=λ_ σ H=>ta σ H λvs H1=>vs.length<=sizeLine/\Ex (.ref C) none σ H1
theorem rC(hc:X.calm=true)(hg:Gl X x)(hm:X.mg x=some (.ref C))(q:Vd X.K C)(hx:aeh X Ex)(ha:PA X (e₀::rest) ta)(hd:(x==("__debug__":Str))=false:=by decide)
 (he:starEach (e₀::rest) X.env=(false,eval e₀ X.env)::starEach rest X.env:=by rfl)(hplain:(backTo cpos (starEach rest X.env)).any (·.1)=false:=by rfl) :
  PS X (.Raise (some (.Call (.Name x np) (e₀::rest) [] cpos)) none pos) (Nt C Ex ta):=by
 intro pins s σ H D I h;obtain⟨tl,N,nm,qn,bs,hdct,sn,sub,ab,col,dd,k0,k1,k2,k3,k5,mN,hC,hN,hni,T⟩:=adb I.ok.mod.kin q;have FB:=PySem.F.excBase_ValueError;refine wpAny_Raise_call_subT (C:=C) (nm:=nm) (q:=qn) (N:=N) (bs:=bs) (bm:=tl) (hdct:=hdct) (sn:=sn) (sub:=sub) (ab:=ab) (col:=col) (dd:=dd) (k0:=k0) (k1:=k1) (k2:=k2) (k3:=k3) (k5:=k5)
  FB (mN:=mN) (T.hasType FB.hasBase) (I.ok.hd hc) (by rw[he];show(false || (backTo cpos (starEach rest X.env)).any (·.1))=false;rw[hplain];rfl) hni (sG I hg hm ⟨rfl,?_⟩ hd)
 have h2:=ha cpos pins s σ H _ I h;rw[he]at h2 ⊢;exact Calls.evalArgs_plain (wpAny_mono h2 (λus s₂ hP=>by obtain⟨vs,H1,I1,r,hl,ex⟩:=hP;exact⟨rfl,by rw[<- r.length];exact hl,I1.bk _ _ hC,hN.keeps I1.bk,T.keeps I1.bk,λh' e M=>hx pins σ H1 s₂ e _ us h' I1 M ex⟩) λ_ _ y=>y)
end
noncomputable abbrev Cx.tryc(X:Cx)(pn:Ω)(E:Κ):Cx:={ X with pn:=pn,xe:=E }
noncomputable abbrev Cx.marked(X:Cx)(a:Addr)(E:Κ):Cx:={ X with A:=X.A.mark (some (.ref a)),calm:=false,xe:=E }
section
variable{X:Cx}{pins pins' pn:Ω}{σ:L2.St}{H H':Hp}{s:Shared}{E:Κ}{a:Addr}
theorem Cx.Ok.tryc(ok:X.Ok):(X.tryc pn E).Ok:=⟨ok.mod,ok.kind,ok.glob,ok.blt,ok.above,ok.inj,ok.has,ok.cab,ok.hd,ok.frames,ok.stk,ok.exf,ok.bs,ok.bsz,ok.noex,ok.exfs,ok.funs,ok.frf⟩
theorem Cx.Ok.untry(ok:(X.tryc pn E).Ok):X.Ok:=⟨ok.mod,ok.kind,ok.glob,ok.blt,ok.above,ok.inj,ok.has,ok.cab,ok.hd,ok.frames,ok.stk,ok.exf,ok.bs,ok.bsz,ok.noex,ok.exfs,ok.funs,ok.frf⟩
theorem Inv.tryc(I:Inv X pins σ H s):Inv (X.tryc (X.pn++pins) E) [] σ H s:=⟨I.ok.tryc,I.os,I.bare,I.base,I.loc,I.cell,I.free,I.freeC,λp hp=>I.pin p (by simpa using hp),I.hok,I.len⟩
theorem Inv.untry(I:Inv (X.tryc (X.pn++pins) E) pins' σ H s):Inv X pins σ H s:=⟨I.ok.untry,I.os,I.bare,I.base,I.loc,I.cell,I.free,I.freeC,λp hp=>I.pin p (List.mem_append_left _ hp),I.hok,I.len⟩
theorem Cx.Ok.marked(ok:X.Ok):(X.marked a E).Ok:=⟨ok.mod,ok.kind,ok.glob,ok.blt,ok.above,ok.inj,ok.has,ok.cab,λz=>(nomatch z),ok.frames,ok.stk,ok.exf,ok.bs,ok.bsz,ok.noex,ok.exfs,ok.funs,ok.frf⟩
theorem Inv.marked(I:Inv X pins σ H s):Inv (X.marked a E) pins σ H s:=⟨I.ok.marked,I.os,I.bare,I.base,I.loc,I.cell,I.free,I.freeC,I.pin,I.hok,I.len⟩
theorem Inv.unmarked(ok:X.Ok)(I:Inv (X.marked a E) pins σ H s):Inv X pins σ H s:=⟨ok,I.os,I.bare,I.base,I.loc,I.cell,I.free,I.freeC,I.pin,I.hok,I.len⟩
theorem Inv.track{o:HO}(I:Inv X pins σ H s)(hn:H a=none)(ha:X.s₀.heap.get? a=none)(hL:a≠X.env.locals)(hC:∀x c,X.env.cells.lookup x=some c->c≠a)(hp:∀p∈X.pn++pins,p.1≠a)
 (ok:eF X.prog X.w (upd H a o) s.heap a o):Inv X pins σ (upd H a o) s:=by
 have ne:∀b u,H b=some u->b≠a:=λb u e=>bH e hn;have ne0:∀b u,X.s₀.heap.get? b=some u->b≠a:=λb u e z=>by rw[z,ha]at e;cases e
 refine⟨I.ok,I.os,I.bare,⟨I.base.keep,I.base.slot,λb ob e n hx=>by rw[bK (ne0 b ob e)];exact I.base.free b ob e n hx,I.base.there,λb xs e=>?_,λb ob u e=>?_,λb ps e=>?_⟩,I.loc,I.cell,by rw[bK hL.symm];exact I.free,λx c e=>by rw[bK (hC x c e)];exact I.freeC x c e,λp q=>?_,λb u e=>?_,I.len⟩
 .have z:=I.base.tups b xs e;rw[bK (ne b _ z)];exact z
 .have z:=I.base.frzs b ob u e;rw[bK (ne b _ z)];exact z
 .obtain⟨m,z⟩:=I.base.tbls b ps e;exact⟨m,by rw[bK (ne b _ z)];exact z⟩
 .obtain⟨h1,h2,h3⟩:=I.pin p q;exact⟨h1,by rw[bK (hp p q)];exact h2,h3⟩
 .by_cases z:b=a
  .subst z;rw[bI]at e;cases e;exact ok
  .rw[bK z]at e;exact(I.hok b u e).stay (λ_ _ _ q=>q) (λc q=>by rw[bK (ne c _ q)];exact q) λc xs q=>by rw[bK (ne c _ q)];exact q
theorem Inv.unname{M:Model}{A:Around}{E:Κ}{i:Nat}{n:Str}{pos:Pos}{Q:Unit->Shared->Prop}(I:Inv X pins σ H s)(hN:X.N.Nodup)(hi:X.N[i]?=some n)(hk:X.env.scope.names.lookup n=some .local)
 (h:∀s',Inv X pins (σ.set i none) H s'->Q () s'):wpAny M A (do bindName X.env n .none;unbindBehindTheSuite X.env n pos) Q E s:=by
 obtain⟨m,hn,hl⟩:=id I.loc;have hcls:(X.env.scope.kind == .class || (X.env.scope.kind == .module&&X.env.locals != X.env.globals))=false:=by rw[I.ok.kind];rfl
 have cne:=I.cne;have hiσ:i<σ.length:=by rw[I.len];exact(ao.mp hi).1
 refine wpAny_nameGoes_keeps hk hn hcls λh' v hn' hs=>?_;have hok:HOk X.prog X.w H h':=λb ob e=>(I.hok b ob e).stay (λc w' hc q=>(hs.2 c (by
  rintro rfl;rcases hc with rfl|hc
  .rw[I.free]at e;cases e
  .rw[I.free]at hc;cases hc)).trans q) (λ_ q=>q) λ_ _ q=>q
 refine h _ ⟨I.ok,I.os,I.bare,⟨λb o e n' hb hx=>?_,λb o e n' hb hx=>?_,I.base.free,λb o e hx=>?_,I.base.tups,I.base.frzs,I.base.tbls⟩,⟨_,hn',λj y v' e1 e2 e3=>?_⟩,λy c e=>?_,I.free,I.freeC,λp hp=>?_,hok,by simpa using I.len⟩
 .exact(hs.2 b (aR (aU (aJ e) I.ok.above))).trans (I.base.keep b o e n' hb hx)
 .obtain⟨sl,e1⟩:=I.base.slot b o e n' hb hx;exact⟨sl,(hs.2 b (aR (aU (aJ e) I.ok.above))).trans e1⟩
 .obtain⟨o',e1⟩:=I.base.there b o e hx;exact⟨o',(hs.2 b (aR (aU (aJ e) I.ok.above))).trans e1⟩
 .by_cases hj:j=i
  .subst hj;rw[List.getElem?_set_self hiσ]at e2;cases e2
  .rw[List.getElem?_set_ne (Ne.symm hj)]at e2;obtain⟨u',r',q⟩:=hl j y v' e1 e2 e3;refine⟨u',r',?_⟩;rcases q with⟨k,e⟩|⟨k,c,e,z⟩
   .refine .inl ⟨k,?_⟩;have:y≠n:=λe=>hj (uz hN e1 (e ▸ hi));simp[this,e]
   .exact .inr ⟨k,c,e,z.sameBut hs (cne y c e)⟩
 .obtain⟨w',z⟩:=I.cell y c e;exact⟨w',z.sameBut hs (cne y c e)⟩
 .obtain⟨e,n',ne,nf,d⟩:=I.pin p hp;exact⟨(hs.2 p.1 ne).trans e,n',ne,nf,d⟩
end
noncomputable def XO(a C:Addr)(d:Η):HO:=.ext λh=>∃o,h.get? a=some o/\o.cls=.ref C/\o.dict=d/\∃vs,o.data=.fields vs
theorem Sh{M:Model}{A:Around}{E:Κ}{K:Frag}{h:Heap}{g:Array GenState}{d:Drawn}{t:Nat}{os:OsState}{a C D:Addr}{oe:Obj}{Q:Bool->Shared->Prop}{b:Bool}(X:K.In h)
 (qD:mroIn K D (.type "BaseException")=some true)(tyD:typeIn K (.ref D)=some (.type "type"))(he:h.get? a=some oe)(hc:oe.cls=.ref C)(qS:mroIn K C (.ref D)=some b)
 (hq:Q b ⟨h,g,d,t,os⟩):wpAny M A (excMatches (.ref a) (.ref D)) Q E ⟨h,g,d,t,os⟩:=by
 have l1:PySem.W.Looks M h (isInstance (.ref D) (.type "tuple")) false:=(PySem.W.looks_typeIn X tyD).andThen (PySem.W.Looks.of_pure tc_notTuple);have l2:PySem.W.Looks M h (isType (.ref D)) true:=by
  obtain⟨cdD,hcD,_⟩:=Option.bind_eq_some_iff.mp qD;unfold clsIn at hcD;split at hcD
  .rename_i c' d' cd' sl' ho
   intro A' Q' E' s' k q;unfold isType loadHead;exact ZU (wpAny_loadPart (k _ _ (X _ _ ho)) (ZT q))
  .cases hcD
 have l3:PySem.W.Looks M h (isSubtype (.ref D) (.type "BaseException")) true:=looks_mroIn X qD;have l4:PySem.W.Looks M h (isSubtype (.ref C) (.ref D)) b:=looks_mroIn X qS;have l5:PySem.W.Looks M h (typeOf (.ref a)) (.ref C):=by
  intro A' Q' E' s' k q;rw[<- hc]at q;unfold typeOf;exact ZU (wpAny_loadPart (k _ _ he) (ZT q))
 unfold excMatches;refine ZU (l1.at ?_);simp only[XX,if_false];refine ZU (ZT ?_);simp only[List.forIn_cons,List.forIn_nil];unfold isExcClass;refine ZU (ZU (ZU (ZU (l2.at ?_))));simp only[if_true];refine l3.at ?_;simp only[Bool.not_true,XX,if_false];refine ZT (ZT (ZU (l5.at ?_)));refine ZU (ZU (ZU (l4.at ?_)));cases b with
 |true =>
  simp only[if_true];exact ZT (ZT (ZT hq))
 |false =>
  simp only[XX,if_false];exact ZT (ZT (ZT hq))
section
variable{X:Cx}{pos hpos np:Pos}{body suite:List Stmt}{b₀:Stmt}{n Dn:Str}{D:Addr}{i:Nat}{tb:(Value->Η->L2.St->Hp->Prop)->TS}{th:TS}
noncomputable def Ends.unset(R:Ends)(i:Nat):Ends:={ nx:=λσ H=>R.nx (σ.set i none) H,rt:=R.rt,bk:=λσ H=>R.bk (σ.set i none) H,ct:=λσ H=>R.ct (σ.set i none) H }
def Pn(K:Frag)(D:Addr)(i:Nat)(tb:(Value->Η->L2.St->Hp->Prop)->TS)(th:TS):TS:=λR σ H =>
 ∃Ex:Value->Η->L2.St->Hp->Prop,tb Ex R σ H/\∀C' d σ' H',Ex C' d σ' H'->∃C,C'=.ref C/\mroIn K C (.ref D)=some true /\
  ∀a,H' a=none->th (R.unset i) (σ'.set i (some (.ref a))) (upd H' a (XO a C d))
theorem aaP(hN:X.N.Nodup)(hi:X.N[i]?=some n)(hln:X.env.scope.names.lookup n=some .local)(hgD:Gl X Dn)(hmD:X.mg Dn=some (.ref D))(qD:mroIn X.K D (.type "BaseException")=some true)
 (tyD:typeIn X.K (.ref D)=some (.type "type"))(hst:X.stack=X.env::X.outer)(hfr:X.env.frame=some X.env.locals)(hex:X.ex=[])
 (hb:∀pn' E' Ex,Kh (X.tryc pn' E') Ex->PSs (X.tryc pn' E') body (tb Ex))(hh:∀a E',PSs (X.marked a E') (b₀::suite) th)(hdb:(Dn==("__debug__":Str))=false:=by decide) :
  PS X (.Try body [.ExceptHandler (some (.Name Dn np)) (some n) (b₀::suite) hpos] [] [] pos) (Pn X.K D i tb th):=by
 intro pins s σ H R I h;obtain⟨Ex,h1,h2⟩:=h;refine wpAny_Try_except ?_;have ends:∀{Y:Cx}{pn:Ω}{f:Flow}{s':Shared},(∀{σ':L2.St}{H':Hp},Inv Y pn σ' H' s'->Inv X pins σ' H' s')->SP Y pn R f s'->SP X pins R f s':=λ{Y pn f s'}k q=>by
  cases f with
  |next=>obtain⟨σ',H',J,z⟩:=q;exact⟨σ',H',k J,z⟩
  |brk=>obtain⟨σ',H',J,z⟩:=q;exact⟨σ',H',k J,z⟩
  |cont=>obtain⟨σ',H',J,z⟩:=q;exact⟨σ',H',k J,z⟩
  |ret u=>obtain⟨v,σ',H',J,z⟩:=q;exact⟨v,σ',H',k J,z⟩
 refine wpAny_mono (hb (X.pn++pins) _ Ex ?_ [] s σ H R I.tryc h1) (λf s1 q=>?_) λ_ _ z=>z
 rotate_left
 .have q':=ends (λJ=>J.untry) q;cases f with
  |next=>exact wpAny_execs_nil q'
  |brk=>exact q'
  |cont=>exact q'
  |ret u=>exact q'
 intro pins' σ1 H1 s1 a C' H' s' B d J F ex;have J0:Inv X pins σ1 H1 s1:=J.untry;obtain⟨C,rfl,qS,k⟩:=h2 C' d σ1 H' ex;have F0:Fly X.prog X.w X.stack H1 s1 a (.ref C) H' s' B d:=F;have fl0:vU B (X.env::X.outer) a (.ref C) d .none s'.heap:=by rw[<- hst];exact F0.fl
 show wpAny _ _ (noteFrame (.ref a) X.env) _ _ _;refine Lh (outer:=X.outer) (L:=X.env.locals) (I.ok.frames.trans (by rw[hst])) hfr fl0 λh₄ hheld₄ sm₄=>?_;refine Wz hheld₄ λh₅ fl₅ sm₅=>?_;have J5:Inv X pins σ1 H' { s' with heap:=h₅ }:=J0.flown F0 fl₅.1 (sm₄.trans sm₅);obtain⟨oe,vs,he,hcls,_,hd⟩:=fl₅.first;refine wpAny_handleBy_cons (codeAny_handlers_test ?_) (by intro q;cases q);refine sG (X:=X.marked a (λ_ _=>False)) J5.marked hgD hmD ?_ hdb;refine Sh (K:=X.K) J5.kIn qD tyD he hcls qS ?_;show codeAny _ _ _ _ _;refine codeAny_handlers_suite_as ?_;refine Wz fl₅ λh₆ fl₆ sm₆=>?_;have J6:Inv X pins σ1 H' { s' with heap:=h₆ }:=J0.flown F0 fl₆.1 ((sm₄.trans sm₅).trans sm₆);obtain⟨oe6,vs6,he6,hcls6,hda,hd6⟩:=fl₆.first;have na:H' a=none:=by
  cases q:H' a with
  |none=>rfl
  |some u =>
   obtain⟨o',e'⟩:=(F0.hok a u q).there;have y:=F0.trk q e';rw[F0.fl.2.1]at y;cases y
 have ns:X.s₀.heap.get? a=none:=by
  cases q:X.s₀.heap.get? a with
  |none=>rfl
  |some o =>
   obtain⟨⟨u,z⟩,_⟩:=J0.old hex q;rw[F0.new]at z;cases z
 have nL:a≠X.env.locals:=λz=>by
  obtain⟨m,⟨o,es,ep,e,dd,_⟩,_⟩:=J6.loc;rw[<- z]at e;have e':h₆.get? a=some o:=e;rw[he6]at e';cases e';rw[hd6]at dd;cases dd
 have nC:∀x c,X.env.cells.lookup x=some c->c≠a:=λx c e z=>by
  obtain⟨v,o,e',dd⟩:=J6.cell x c e;rw[z]at e';have e2:h₆.get? a=some o:=e';rw[he6]at e2;cases e2;rw[hd6]at dd;cases dd
 have nP:∀p∈X.pn++pins,p.1≠a:=λp hp z=>by
  have:=(J0.pin p hp).1;rw[z,F0.new]at this;cases this
 have okx:eF X.prog X.w (upd H' a (XO a C d)) h₆ a (XO a C d):=⟨⟨oe6,he6,hcls6,hda,vs6,hd6⟩,⟨oe6,he6⟩,λg1 g2 ⟨o,e1,e2⟩ kk=>⟨o,kk o e1,e2⟩⟩;have J7:Inv X pins σ1 (upd H' a (XO a C d)) { s' with heap:=h₆ }:=J6.track na ns nL nC nP okx;refine vV (X:=X.marked a (λ_ _=>False)) J7.marked hN hi (.inl hln) (v:=.ref a) rfl (λs8 J8=>?_) (.inr hln);have J8':Inv X pins (σ1.set i (some (.ref a))) (upd H' a (XO a C d)) s8:=J8.unmarked I.ok;refine wpAny_mono (hh a _ pins s8 _ _ _ J8'.marked (k a na)) (λf s9 q=>?_) λ_ _ z=>z;cases f with
 |next =>
  obtain⟨σ',H2,J9,z⟩:=q;exact(J9.unmarked I.ok).unname hN hi hln λs10 J10=>⟨_,_,J10,z⟩
 |brk =>
  obtain⟨σ',H2,J9,z⟩:=q;exact(J9.unmarked I.ok).unname hN hi hln λs10 J10=>⟨_,_,J10,z⟩
 |cont =>
  obtain⟨σ',H2,J9,z⟩:=q;exact(J9.unmarked I.ok).unname hN hi hln λs10 J10=>⟨_,_,J10,z⟩
 |ret u =>
  obtain⟨v,σ',H2,J9,rv,z⟩:=q;exact(J9.unmarked I.ok).unname hN hi hln λs10 J10=>⟨v,_,_,J10,rv,z⟩
end
structure Rr(K:Frag)(C:Addr):Prop where
 ga:findIn K (.ref C) "__getattribute__"=some (some (.builtin "BaseException.__getattribute__"))
 gn:findIn K (.ref C) "__getattr__"=some none
 cl:findIn K (.ref C) "__class__"=some (some (.builtin "object.__class__"))
 mo:mroIn K C (.type "object")=some true
 mb:mroIn K C (.type "BaseException")=some true
section
variable{prog:Program}{w:World}{A:Around}{E:Κ}{h:Heap}{g:Array GenState}{d:Drawn}{t:Nat}{os:OsState}{a C:Addr}{o:Obj}{K:Frag}
theorem nQ{M:Model}(hx:h.get? a=some o)(hc:o.cls=.ref C):PySem.W.Looks M h (typeOf (.ref a)) (.ref C):=by
 intro A' Q' E' s' k q;rw[<- hc]at q;unfold typeOf;exact ZU (wpAny_loadPart (k _ _ hx) (ZT q))
theorem Km{R:Result->Shared->Prop}(X:K.In h)(T:Rr K C)(hx:h.get? a=some o)(hc:o.cls=.ref C)(hq:R (.ok (.ret (.ref C))) ⟨h,g,d,t,os⟩) :
  codeAny (model prog w) A (.call (.builtin "getset_descriptor.__get__") ⟨[.builtin "object.__class__",.ref a,.ref C],[]⟩) R ⟨h,g,d,t,os⟩:=by
 have hT5:(⟨h,g,d,t,os⟩ : Shared).TypeIs (.builtin "object.__class__") "getset_descriptor":=F.typeOf_object_class;have LT:=nQ (M:=model prog w) hx hc;have LO:PySem.W.Looks (model prog w) h (isSubtype (.ref C) (.type (".".intercalate ("object.__class__".cutAt '.').dropLast))) true:=by
  rw[F.owner_object_class];exact looks_mroIn X T.mo
 refine codeAny_call_builtin F.slot_gs_get.plain F.entry_gs_get (F.slot_gs_get.check _ _ _ _ _ _ _ _ hT5 (F.args_gs_get _ _ _) ?_)
 repeat (any_goals (first|assumption|with_reducible refine LT.at ?_|with_reducible refine LO.at ?_|(with_reducible refine wpAny_loadPart_at hx ?_;rw[hc])|wp_step))
 refine⟨Code.quiet_builtin _ (by decide +kernel),codeAny_builtin F.entry_object_class ?_⟩
 repeat (any_goals (first|assumption|with_reducible refine LT.at ?_|(with_reducible refine wpAny_loadPart_at hx ?_;rw[hc])|wp_step))
theorem FP{tk:Tok}{Q:Fin->Shared->Prop}(X:K.In h)(T:Rr K C)(hx:h.get? a=some o)(hc:o.cls=.ref C)(hq:Q (.done (.ret (.ref C))) ⟨h,g,d,t,os⟩) :
  wpAny (model prog w) A (Builtin.«object.__getattribute__» ⟨[.ref a,.str "__class__" tk],[]⟩) Q E ⟨h,g,d,t,os⟩:=by
 have hT5:(⟨h,g,d,t,os⟩ : Shared).TypeIs (.builtin "object.__class__") "getset_descriptor":=F.typeOf_object_class;have f5:=F.typeOf_object_class;have f6:=F.slot_gs_get.lookup;have f7:=F.slot_gs_set.lookup;have LT:=nQ (M:=model prog w) hx hc;have LC:=looks_findIn (M:=model prog w) X T.cl
 repeat (any_goals (first|assumption|with_reducible refine LT.at ?_|with_reducible refine LC.at ?_|(with_reducible refine wpAny_loadPart_at hx ?_;rw[hc])|wp_step))
 refine Km X T hx hc ?_
 repeat (any_goals (first|assumption|wp_step))
theorem Ov{M:Model}{nameV:Value}{Q:Unit->Shared->Prop}(X:K.In h)(T:Rr K C)(hx:h.get? a=some o)(hc:o.cls=.ref C)(hq:Q () ⟨h,g,d,t,os⟩) :
  wpAny M A (checkBuiltinCall "BaseException.__getattribute__" ⟨[.ref a,nameV],[]⟩) Q E ⟨h,g,d,t,os⟩:=by
 have hk:builtinKind "BaseException.__getattribute__"=some .slot:=by decide +kernel
 have hsplit:splitId "BaseException.__getattribute__"=some ("BaseException","__getattribute__"):=by decide +kernel
 have ha:=F.args_bexc_ga (.ref a) nameV;have LT:=nQ (M:=M) hx hc;have LB:=looks_mroIn (M:=M) X T.mb;simp only[checkBuiltinCall,hk,hsplit];refine ZU ?_;unfold isInstance
 repeat (first|with_reducible refine LT.at ?_|with_reducible refine LB.at ?_|(with_reducible refine wpAny_loadPart_at hx ?_;rw[hc])|wp_step)
 exact hq
theorem PX{tk:Tok}{Q:Κ}(X:K.In h)(T:Rr K C)(hx:h.get? a=some o)(hc:o.cls=.ref C)(hq:Q (.ref C) ⟨h,g,d,t,os⟩) :
  wpAny (model prog w) A (getAttrBy (.ref a) (.str "__class__" tk) false) Q E ⟨h,g,d,t,os⟩:=by
 have f3:=F.excAttr_ValueError.ga.bind (.ref a);have hx2:(Value.builtin "BaseException.__getattribute__"== Value.builtin "object.__getattribute__")=false:=by decide +kernel
 have hx1:(onTheHeap (Value.ref C)&&Value.builtin "BaseException.__getattribute__"== Value.builtin "object.__getattribute__")=false:=by rw[hx2];exact Bool.and_false _
 have LT:=nQ (M:=model prog w) hx hc;have LG:=looks_findIn (M:=model prog w) X T.ga;have LN:=looks_findIn (M:=model prog w) X T.gn
 repeat (any_goals (first|assumption|with_reducible refine LT.at ?_|with_reducible refine LG.at ?_|with_reducible refine LN.at ?_|(with_reducible refine wpAny_loadPart_at hx ?_;rw[hc])|wp_step))
 refine codeAny_call_builtin F.excAttr_ValueError.ga.plain F.entry_bexc_ga (Ov X T hx hc (FP X T hx hc ?_))
 repeat (any_goals (first|assumption|wp_step))
theorem HN{Q:Ζ->Shared->Prop}(X:K.In h)(T:Rr K C)(hx:h.get? a=some o)(hc:o.cls=.ref C)(hq:Q (some (.ref C)) ⟨h,g,d,t+1,os⟩) :
  wpAny (model prog w) A (getAttr? (.ref a) "__class__") Q E ⟨h,g,d,t,os⟩:=by
 unfold getAttr? getAttrBy?
 repeat (any_goals (first|assumption|with_reducible apply PX X T hx hc|wp_step))
end
noncomputable def Dw(cells:List (Str×Addr)):List (Str×NameKind)->List (Str×Addr)->List (Str×Addr)
 |[],acc=>acc
 |(n,k)::r,acc=>Dw cells r (if k == .free then(n,(cells.lookup n).getD 0)::acc else acc)
theorem Vc{scope:Scope}{env:Env}(h:∀y∈scope.names,y.2=.free->∃c,env.cells.lookup y.1=some c):closureFor scope env=pure (Dw env.cells scope.names []):=by
 unfold closureFor;have go:∀(l:List (Str×NameKind))(acc:List (Str×Addr)),(∀y∈l,y.2=.free->∃c,env.cells.lookup y.1=some c) ->
   (forIn l acc (λ(x:Str×NameKind)(r:List (Str×Addr))=>if(x.2==NameKind.free)=true then(do let a <- cellOf env x.1;pure (ForInStep.yield ((x.1,a)::r)))else pure (ForInStep.yield r)):Sem (List (Str×Addr)))=pure (Dw env.cells l acc):=by
  intro l
  induction l with
  |nil=>intro acc _;rfl
  |cons y r ih =>
   intro acc hy;obtain⟨n,k⟩:=y;rw[List.forIn_cons];by_cases hk:k=.free
   .subst hk;obtain⟨c,hc⟩:=hy (n,.free) aO rfl;have e1:cellOf env n=pure c:=by unfold cellOf;rw[show env.cells.lookup n=some c from hc]
    simp only[beq_self_eq_true,if_true,e1,pure_bind];rw[ih _ λz hz=>hy z (aH _ hz)];show pure _=pure (Dw env.cells r (if(NameKind.free==NameKind.free)=true then(n,(env.cells.lookup n).getD 0)::acc else acc));rw[show env.cells.lookup n=some c from hc]
    rfl
   .have hb:(k==NameKind.free)=false:=by simpa using hk
    simp only[hb,XX,if_false,pure_bind];rw[ih _ λz hz=>hy z (aH _ hz)];show pure _=pure (Dw env.cells r (if(k==NameKind.free)=true then(n,(env.cells.lookup n).getD 0)::acc else acc));rw[hb]
    rfl
 have e:=go scope.names [] h;show(forIn scope.names [] (λ(x:Str×NameKind)(r:List (Str×Addr))=>if(x.2==NameKind.free)=true then(do let a <- cellOf env x.1;pure (ForInStep.yield ((x.1,a)::r)))else pure (ForInStep.yield r)):Sem (List (Str×Addr))) >>= (λcs=>pure cs)=_;rw[e]
 rfl
theorem Tj{cells:List (Str×Addr)} : ∀{names:List (Str×NameKind)}{acc:List (Str×Addr)}{x:Str}{c:Addr},(∀y∈names,y.2=.free->∃c,cells.lookup y.1=some c)->(x,c)∈Dw cells names acc->(x,c)∈acc\/cells.lookup x=some c
 |[],_,_,_,_,h=>.inl h
 |(n,k)::r,acc,x,c,hf,h=>by
  unfold Dw at h;rcases Tj (λy hy=>hf y (aH _ hy)) h with z|z
  .by_cases hk:k=.free
   .subst hk;simp only[beq_self_eq_true,if_true]at z;rcases YU.mp z with e|e
    .obtain⟨c',hc'⟩:=hf (n,.free) aO rfl;cases e;rw[show cells.lookup n=some c' from hc'];exact .inr rfl
    .exact .inl e
   .have hb:(k==NameKind.free)=false:=by simpa using hk
    simp only[hb,XX,if_false]at z;exact .inl z
  .exact .inr z
theorem RG{cells:List (Str×Addr)} : ∀{names:List (Str×NameKind)}{acc:List (Str×Addr)}{x:Str},((x,NameKind.free)∈names\/∃c,(x,c)∈acc)->∃c,(x,c)∈Dw cells names acc
 |[],_,_,h=>by
  rcases h with h|h
  .cases h
  .exact h
 |(n,k)::r,acc,x,h=>by
  unfold Dw;refine RG ?_;rcases h with h|⟨c,h⟩
  .rcases YU.mp h with e|e
   .cases e;exact .inr ⟨_,by simp only[beq_self_eq_true,if_true];exact aO⟩
   .exact .inl e
  .refine .inr ⟨c,?_⟩;split
   .exact aH _ h
   .exact h
theorem rB{α:Type}{x:Str}{c:α} : ∀{l:List (Str×α)},(x,c)∈l->∃c',l.lookup x=some c'
 |(y,d)::r,h=>by
  rw[List.lookup_cons];cases hb:x==y with
  |true=>exact⟨d,rfl⟩
  |false =>
   rcases YU.mp h with e|e
   .cases e;simp at hb
   .exact rB e
section
variable{X:Cx}{elt iter:Expr}{x:Str}{px pos:Pos}{scope:Scope}{wi:TI}{te:TE}
theorem Inv.nostk'{pins:Ω}{σ:L2.St}{H:Hp}{s:Shared}(I:Inv X pins σ H s){b:Addr}(h1:b≠X.env.locals)(h2:b∉X.fs):b∉frs X.stack:=λz=>by
 rcases YU.mp (I.stkSub b z)with e|e
 .exact h1 e
 .exact h2 e
theorem Bw{env:Env} : ∀{names:List (Str×NameKind)}{y:Str},(names.map λ(n,k)=>if(k==NameKind.free&&env.scope.kind == .function&&env.kindOf n==some .cell)then(n,NameKind.cell)else(n,k)).lookup y=some .cell \/
  (names.map λ(n,k)=>if(k==NameKind.free&&env.scope.kind == .function&&env.kindOf n==some .cell)then(n,NameKind.cell)else(n,k)).lookup y=some .free->(∀z∈names,z.2≠.cell)->(y,NameKind.free)∈names
 |[],y,h,_=>by rcases h with h|h<;>cases h
 |(n,k)::r,y,h,hc=>by
  have ih:=@Bw env r y;simp only[List.map_cons]at h;by_cases hcond:(k==NameKind.free&&env.scope.kind == .function&&env.kindOf n==some .cell)=true
  .rw[ZY hcond]at h;simp only[List.lookup_cons]at h;cases hb:y==n with
   |true =>
    have hk:k=.free:=by
     simp only[Bool.and_eq_true,beq_iff_eq]at hcond;exact hcond.1.1
    have:y=n:=by simpa using hb
    subst this hk;exact aO
   |false =>
    rw[hb]at h;exact aH _ (ih h λz hz=>hc z (aH _ hz))
  .rw[ZZ hcond]at h;simp only[List.lookup_cons]at h;cases hb:y==n with
   |true =>
    rw[hb]at h;have:y=n:=by simpa using hb
    subst this;rcases h with h|h
    .exact absurd (Option.some.inj h) (hc (y,k) aO)
    .have:k=.free:=Option.some.inj h;subst this;exact aO
   |false =>
    rw[hb]at h;exact aH _ (ih h λz hz=>hc z (aH _ hz))
end
section
variable{X:Cx}
theorem vm{x:Str}{D:Addr}{pos:Pos}(hg:Gl X x)(hm:X.mg x=some (.ref D))(hd:(x==("__debug__":Str))=false:=by decide):PE X (.Name x pos) (tC (.ref D)):=MF hg hm rfl hd
theorem aa3{K:Frag}{a C:Addr}(T:Rr K C):KitX K (.ref a) (.ref C) (λh=>∃o,h.get? a=some o/\o.cls=.ref C) where
 ty:=λM h _ hP=>by obtain⟨o,e,c⟩:=hP;exact nQ e c
 it:=λM h Y _=>by
  obtain⟨cdD,hcD,_⟩:=Option.bind_eq_some_iff.mp T.mo;unfold clsIn at hcD;split at hcD
  .rename_i c' d' cd' sl' ho
   intro A' Q' E' s' k q;unfold isType loadHead;exact ZU (wpAny_loadPart (k _ _ (Y _ _ ho)) (ZT q))
  .cases hcD
 ne:=λh tp dd its n sl Y htp=>by
  obtain⟨cdD,hcD,_⟩:=Option.bind_eq_some_iff.mp T.mo;refine Bool.eq_false_iff.mpr λq=>?_;have e:C=tp:=Value.ref.inj (beq_iff_eq.mp q);subst e;unfold clsIn at hcD;split at hcD
  .rename_i c' d' cd' sl' ho
   have z:=(Y _ _ ho).symm.trans htp;cases z
  .cases hcD
 ca:=λ{prog w A E Q s}Y ⟨o,e,c⟩ k=>by
  obtain⟨h,g,d,t,os⟩:=s;exact HN Y T e c k
def aei(K:Frag):Μ->Hp->VK->Prop:=λxs H Q=>∃a C d c cv b,xs=[.ref a,c]/\H a=some (XO a C d)/\((∃T,c=.ty T/\cv=Value.type T)\/∃D,c=.ref D/\cv=Value.ref D)/\Rr K C/\kitOne K (.ref C) cv=some b/\Q (.bl b) H
theorem XJ:gF X (.builtin "isinstance") (aei X.K):=by
 intro pins s σ H xs us Q I r h;obtain⟨a,C,d,c,cv,b,rfl,ha,rc,T,e,q⟩:=h;obtain⟨u,v,rfl,ru,rv⟩:=r.two;cases ru;have e2:v=cv:=by
  rcases rc with⟨T,rfl,rfl⟩|⟨T,rfl,rfl⟩
  .exact rv
  .exact rv
 subst e2;obtain⟨⟨o,e1,e2,_⟩,_⟩:=I.hok a _ ha;exact kia_one (aa3 T) I.kIn ⟨o,e1,e2⟩ e (λz=>nomatch z) λtk=>⟨.bl b,H,I.tok _,rfl,q⟩
def aeC(neg:Bool):R2:=λx y H Q=>∃b,y=.bl b/\Q (.bl (if neg then !decide (x=.bl b)else decide (x=.bl b))) H
def eqF:Μ->Μ->Bool
 |[],[]=>true
 |x::xs,y::ys=>eqV x y&&eqF xs ys
 |_,_=>false
theorem Lx:∀(xs ys:Μ),(((List.range (min xs.length ys.length)).all λj=>eqV (xs.getD j .non) (ys.getD j .non))&&(xs.length==ys.length))=eqF xs ys
 |[],[]=>rfl
 |[],y::ys=>by simp[eqF]
 |x::xs,[]=>by simp[eqF]
 |x::xs,y::ys=>by
  have ih:=Lx xs ys;unfold eqF;rw[<- ih];have e:min (x::xs).length (y::ys).length=min xs.length ys.length+1:=by simp only[List.length_cons];lia
  rw[e,List.range_succ_eq_map,List.all_cons,List.all_map];have e2:((x::xs).length==(y::ys).length)=(xs.length==ys.length):=by simp
  rw[e2];simp only[List.getD_cons_zero,Function.comp_def,List.getD_cons_succ,Bool.and_assoc]
theorem Q0{xs:Μ}(f:xs.all m_=true){j:Nat}{x:V}(e:xs[j]?=some x):m_ x=true:=List.all_eq_true.mp f x (aB e)
theorem aam{A:Around}{s:Shared}{xs ys:Μ}{us ws:Ξ}(ru:Vals xs us)(rw':Vals ys ws)(fx:xs.all m_=true)(fy:ys.all m_=true)(j:Nat)(h1:j<us.toArray.size)(h2:j<ws.toArray.size) :
  SeqAt.EqAt A s us.toArray[j] ws.toArray[j] (eqV (xs.getD j .non) (ys.getD j .non)):=by
 have l1:=ru.length;have l2:=rw'.length;simp only[aZ]at h1 h2;have g1:xs[j]?=some (xs.getD j .non):=by rw[au,aj (by lia)];rfl
 have g2:ys[j]?=some (ys.getD j .non):=by rw[au,aj (by lia)];rfl
 obtain⟨u,e1,r1⟩:=ru.get g1;obtain⟨v,e2,r2⟩:=rw'.get g2;have e1':us.toArray[j]=u:=by simp only[List.getElem_toArray];exact(ao.mp e1).2
 have e2':ws.toArray[j]=v:=by simp only[List.getElem_toArray];exact(ao.mp e2).2
 rw[e1',e2'];exact abU r1 r2 (Q0 fx g1) (Q0 fy g2)
def eqH(H:Hp)(x y:V):Option Bool :=
 match x,y with
 |.ref a,.ref b=>match H a,H b with
  |some (.tup xs),some (.tup ys)=>if xs.all m_&&ys.all m_ then some (eqF xs ys)else none
  |some (.lst xs),some (.lst ys)=>if xs.all m_&&ys.all m_ then some (eqF xs ys)else none
  |some (.lst _),some (.tup _)=>some false
  |some (.tup _),some (.lst _)=>some false
  |_,_=>none
 |.ref a,y=>if m_ y then(match H a with
  |some (.tup _)=>some false
  |some (.lst _)=>some false
  |_=>none)else none
 |x,.ref b=>if m_ x then(match H b with
  |some (.tup _)=>some false
  |some (.lst _)=>some false
  |_=>none)else none
 |x,y=>if yJ x y then some (decide (x=y))else none
def afb:R2:=λx y H Q=>∃k,eqH H x y=some k/\Q (.bl k) H
theorem Inv.tupIs{pins:Ω}{σ:L2.St}{H:Hp}{s:Shared}{a:Addr}{xs:Μ}(I:Inv X pins σ H s)(h:H a=some (.tup xs)):∃its,Vals xs its/\IsTup s.heap a its.toArray/\s.heap.IsTuple a its.toArray:=by
 obtain⟨its,rv,ht,_⟩:=I.tuple (SqT.of h);exact⟨its,rv,ht,ht⟩
theorem Inv.lstIs{pins:Ω}{σ:L2.St}{H:Hp}{s:Shared}{a:Addr}{xs:Μ}(I:Inv X pins σ H s)(h:H a=some (.lst xs)):∃its,Vals xs its/\s.heap.IsList a its.toArray:=by
 obtain⟨its,rv,ht,_⟩:=I.list (SqL.of h);exact⟨its,rv,ht.isList⟩
theorem Rq{A:Around}{s:Shared}{xs ys:Μ}{us ws:Ξ}(ru:Vals xs us)(rw':Vals ys ws)(f:(xs.all m_&&ys.all m_)=true)(j:Nat)(h1:j<us.toArray.size)(h2:j<ws.toArray.size) :
  SeqAt.EqAt A s us.toArray[j] ws.toArray[j] (eqV (xs.getD j .non) (ys.getD j .non)):=by
 rw[Bool.and_eq_true]at f;exact aam ru rw' f.1 f.2 j h1 h2
theorem Dc:Kh X (λ_ _ _ _=>False):=λ_ _ _ _ _ _ _ _ _ _ _ _ z=>z.elim
def IsX(H:Hp)(a C:Addr):Prop:=∃d,H a=some (XO a C d)
def Zq(C D:Addr)(b:Bool):Μ->Hp->VK->Prop:=λxs H Q=>∃a,xs=[.ref a,.ref D]/\IsX H a C/\Q (.bl b) H
def Zr(C:Addr)(T:String)(b:Bool):Μ->Hp->VK->Prop:=λxs H Q=>∃a,xs=[.ref a,.ty T]/\IsX H a C/\Q (.bl b) H
theorem Fw:bootBuiltins "ValueError"=some (.type "ValueError"):=by decide +kernel
end
def Tt(tk tv:TE):TE:=λσ H Q=>∀p,H p=none->tk σ (upd H p (.dK [])) λx H1=>∃i,x=.int i/\tv σ H1 λy H2=>H2 p=some (.dK [])/\Q (.ref p) (upd H2 p (.dK [(.inl i,y)]))
open PySem.SeqAt in
section
variable{X:Cx}
structure PEB(X:Cx)(e:Expr)(t:TE):Prop where
 out:PE X e t
structure PAB(X:Cx)(es:List Expr)(t:TA):Prop where
 out:PA X es t
structure PSB(X:Cx)(st:Stmt)(t:TS):Prop where
 out:PS X st t
structure acE(X:Cx)(b:List Stmt)(t:TS):Prop where
 out:PSs X b t
theorem aai{b j pos} : PEB X (.Constant (.bool b) j pos) (tC (.bl b)):=⟨fU⟩
theorem adE{j pos} : PEB X (.Constant .none j pos) (tC .non):=⟨mX⟩
theorem pR{i j pos} : PEB X (.Constant (.int i) j pos) (tC (.int i)):=⟨bG⟩
theorem adP{x j pos} : PEB X (.Constant (.str x) j pos) (tC (.str x)):=⟨mQ⟩
theorem acB{es:List Expr}{t:TA}{pos:Pos}(h:PAB X es t):PEB X (.List es pos) (aaC t):=⟨o9 h.out⟩
theorem N5:PAB X [] Ij:=⟨bF⟩
theorem sS{c:Const}{k:Nat}{p:Pos}{es:List Expr}{te:TE}{t:TA}(ha:PEB X (.Constant c k p) te)(hr:PAB X es t):PAB X (.Constant c k p::es) (rW te t):=⟨bD ha.out hr.out rfl⟩
theorem agi{l:List Expr}{k:Nat}{p:Pos}{es:List Expr}{te:TE}{t:TA}(ha:PEB X (.Tuple l k p) te)(hr:PAB X es t):PAB X (.Tuple l k p::es) (rW te t):=⟨bD ha.out hr.out rfl⟩
theorem Vu{i:Nat}{x:Str}{e:Expr}{te:TE}{pos pos':Pos}(hN:X.N.Nodup)(hi:X.N[i]?=some x)(hx:Loc X.env.scope x)(he:PEB X e te)(hs:swapsWith e (some (.Name x pos')) pos.line X.env=pure false:=by rfl)(hf:X.fn x=true\/X.env.scope.names.lookup x=some .local:=by first|exact .inl rfl|exact .inr rfl|assumption) :
  PSB X (.Assign [.Name x pos'] e pos) (Ke te (cN i)):=⟨cj hN hi hx he.out hs hf⟩
theorem cU{st:Stmt}{rest:List Stmt}{t u:TS}(h1:PSB X st t)(h2:acE X rest u):acE X (st::rest) (um t u):=⟨bL h1.out h2.out⟩
end
section
variable{P:Program}{w:World}{K:Frag}{mg:Str->Ζ}{base:Heap}
theorem Fun.okB{x qual:Str}{st:Stmt}{f:Addr}{fd:FuncData}{N ps:Β}{k:Nat}{sp:Sp}(F:Fun K x qual st f fd)(S:bZ N ps (bN st))(len:∀vs H Q E,sp vs H Q E->vs.length=ps.length)
 (hbody:∀(cdv:Value)(A:Around)(outer:List Env)(s:Shared)(H:Hp)(vs:Μ)(Q:VK)(E:XK),gU k (A.deeper (envOfC qual (bN st) s.heap.objs.size f cdv))->sp vs H Q E ->
   ∃t,acE (Io CX0 P w K mg base N qual (bN st) f cdv A outer s H E).nox (fQ st) t/\t { nx:=λ_ H'=>Q .non H',rt:=Q } (L2.start N vs) H):cF P w K mg base CX0 (k+1) f fd ps sp :=
 F.ok S len λcdv A outer s H vs Q E hr hsp=>let⟨t,h1,h2⟩:=hbody cdv A outer s H vs Q E hr hsp;⟨t,h1.out,h2⟩
end
mutual
inductive Shows(H:Hp):V->PyData->Prop
 |non:Shows H .non .none
 |bl (b:Bool):Shows H (.bl b) (.bool b)
 |int (i:Int):Shows H (.int i) (.int i)
 |str (x:Str):Shows H (.str x) (.str x)
 |lst {a:Addr}{xs:Μ}{ds:List PyData} : H a=some (.lst xs)->gG H xs ds->Shows H (.ref a) (.list ds)
 |tup {a:Addr}{xs:Μ}{ds:List PyData} : H a=some (.tup xs)->gG H xs ds->Shows H (.ref a) (.tuple ds)
inductive gG(H:Hp):Μ->List PyData->Prop
 |nil:gG H [] []
 |cons {x:V}{xs:Μ}{d:PyData}{ds:List PyData} : Shows H x d->gG H xs ds->gG H (x::xs) (d::ds)
end
mutual
theorem Shows.same{H H':Hp}(S:Same H H'):∀{x:V}{d:PyData},Shows H x d->Shows H' x d
 |_,_,.non=>.non
 |_,_,.bl b=>.bl b
 |_,_,.int i=>.int i
 |_,_,.str x=>.str x
 |_,_,.lst e h=>.lst (S _ _ e) (gG.same S h)
 |_,_,.tup e h=>.tup (S _ _ e) (gG.same S h)
theorem gG.same{H H':Hp}(S:Same H H'):∀{xs:Μ}{ds:List PyData},gG H xs ds->gG H' xs ds
 |_,_,.nil=>.nil
 |_,_,.cons h t=>.cons (Shows.same S h) (gG.same S t)
end
theorem gG.ints(H:Hp):∀ns:List Int,gG H (ns.map V.int) (ns.map PyData.int)
 |[]=>.nil
 |n::ns=>.cons (.int n) (gG.ints H ns)
section
variable{X:Cx}{pins:Ω}{σ:L2.St}{H:Hp}{s:Shared}
mutual
theorem Inv.reads(I:Inv X pins σ H s):∀{x:V}{d:PyData}{v:Value},Shows H x d->RelV x v->∃as,Reads s.heap v d as
 |_,_,_,.non,r=>by cases r;exact⟨_,.none⟩
 |_,_,_,.bl b,r=>by cases r;exact⟨_,.bool b⟩
 |_,_,_,.int i,r=>by obtain⟨t,rfl⟩:=r;exact⟨_,.int i t⟩
 |_,_,_,.str x,r=>by obtain⟨t,rfl⟩:=r;exact⟨_,.str x t⟩
 |_,_,_,.lst e h,r=>by
  cases r;obtain⟨its,rv,⟨o,ho,hc,n,hd⟩⟩:=I.lstIs e;obtain⟨as,q⟩:=Inv.readsAll I h rv;exact⟨_,.list ho hc hd q⟩
 |_,_,_,.tup e h,r=>by
  cases r;obtain⟨its,rv,_,⟨o,ho,hc,n,hd⟩⟩:=I.tupIs e;obtain⟨as,q⟩:=Inv.readsAll I h rv;exact⟨_,.tuple ho hc hd q⟩
theorem Inv.readsAll(I:Inv X pins σ H s):∀{xs:Μ}{ds:List PyData}{vs:Ξ},gG H xs ds->Vals xs vs->∃as,ReadsAll s.heap vs ds as
 |_,_,_,.nil,r=>by cases r;exact⟨_,.nil⟩
 |_,_,_,.cons h t,r=>by
  cases r with
  |cons r1 r2 =>
   obtain⟨a,q1⟩:=Inv.reads I h r1;obtain⟨b,q2⟩:=Inv.readsAll I t r2;exact⟨_,.cons q1 q2⟩
end
def aen(neg:Bool):R2:=λx y H Q=>∃d e,Shows H x d/\Shows H y e/\SeqAt.shaped d=true/\SeqAt.shaped e=true/\Q (.bl (if neg then !PyData.eqv d e else PyData.eqv d e)) H
def WQ:Μ->Hp->VK->Prop:=λxs H Q=>∃(l:Addr)(ns:List Int),xs=[.ref l]/\H l=some (.lst (ns.map V.int))/\Q (.int ns.sum) H
theorem Dz(hc:X.calm=true):gF X (.builtin "sum") WQ:=by
 intro pins s σ H xs us Q I r h;obtain⟨l,ns,rfl,hl,q⟩:=h;obtain⟨u,rfl,ru⟩:=r.one;cases ru;obtain⟨its,rv,p⟩:=I.lstIs hl;have hI:=intsAre_of rv;obtain⟨xs,e⟩:=hI.allInts.items;have hn:=hI.numsOf;rw[show its=its.toArray.toList from rfl,e,nums_intItems]at hn;rw[e]at p;refine sum_intListG (I.ok.hd hc) p λh' tk t' k=>⟨.int ns.sum,H,I.kept k,?_,q⟩;rw[preSum_eq,aK (by simp),hn];exact⟨_,rfl⟩
def abn:Μ->Hp->VK->Prop:=λxs H Q=>∃(l:Addr)(ns:List Int),xs=[.ref l]/\H l=some (.lst (ns.map V.int))/\0<ns.length/\∀M,M∈ns->(∀a,a∈ns->a<=M)->Q (.int M) H
def abY:Μ->Hp->VK->Prop:=λxs H Q=>∃(l:Addr)(ns:List Int),xs=[.ref l]/\H l=some (.lst (ns.map V.int))/\0<ns.length/\∀M,M∈ns->(∀a,a∈ns->M<=a)->Q (.int M) H
def aeP(te ts:TE):TE:=λσ H Q=>te σ H λx H1=>ts σ H1 λy H2=>y=.int (-1)/\∃a xs,x=.ref a/\H2 a=some (.lst xs)/\∀p,H2 p=none->Q (.ref p) (upd H2 p (.lst xs.reverse))
end
section
variable{K:Frag}{tl:TE}{ta:TA}{g:TG}{tb:TS}{D:Ends}{σ:L2.St}{H:Hp}
theorem X7(h:tl σ H λx H1=>∃a xs,x=.ref a/\H1 a=some (.lst xs)/\∃J:Nat->L2.St->Hp->Prop,J 0 σ H1 /\
   (∀k x σ' H',xs[k]?=some x->J k σ' H'->H' a=some (.lst xs)->g x σ' H' λσ2 H2=>tb { D with nx:=λσ3 H3=>H3 a=some (.lst xs)/\J (k+1) σ3 H3,ct:=λσ3 H3=>H3 a=some (.lst xs)/\J (k+1) σ3 H3,bk:=D.nx } σ2 H2) /\
   ∀σ' H',J xs.length σ' H'->H' a=some (.lst xs)->D.nx σ' H')(hm:∀(P Q:V->Hp->Prop),(∀x H',P x H'->Q x H')->tl σ H P->tl σ H Q):Rz (Fd K tl) g tb D σ H:=by
 refine hm _ _ ?_ h;rintro x H1 ⟨a,xs,rfl,hx,J,j0,step,fin⟩;refine⟨a,rfl,⟨xs,.of hx⟩,λk m σ' H'=>k<=xs.length/\m=xs.length-k/\H' a=some (.lst xs)/\J k σ' H',⟨_,bw _,rfl,hx,j0⟩,?_⟩;rintro k m σ' H' ⟨hk,rfl,hx',j⟩;by_cases e:k=xs.length
 .subst e;exact .inl ⟨⟨xs,.of hx',aF _⟩,fin σ' H' j hx'⟩
 .have hlt:k<xs.length:=by exact XY hk e
  have e1:xs[k]?=some xs[k]:=aj hlt;refine .inr ⟨⟨xs,_,.of hx',e1⟩,λσ3 H3=>H3 a=some (.lst xs)/\J (k+1) σ3 H3,λσ3 H3 ⟨z1,z2⟩=>⟨xs.length-(k+1),by omega,by exact hlt,rfl,z1,z2⟩,?_⟩;rintro x H'' ⟨rfl,y⟩;exact step k x σ' H'' (y xs (.of hx')) j hx'
theorem XR(h:ta σ H λvs H1=>∃n:Nat,vs=[.int n]/\n<2^61/\∃J:Nat->L2.St->Hp->Prop,J 0 σ H1 /\
   (∀(k:Nat)σ' H',k<n->J k σ' H'->g (.int k) σ' H' λσ2 H2=>tb { D with nx:=J (k+1),ct:=J (k+1),bk:=D.nx } σ2 H2)/\∀σ' H',J n σ' H'->D.nx σ' H')
 (hm:∀(P Q:Μ->Hp->Prop),(∀x H',P x H'->Q x H')->ta σ H P->ta σ H Q):Rz (V1 ta) g tb D σ H:=by
 refine hm _ _ ?_ h;rintro x H1 ⟨n,rfl,hn,J,j0,step,fin⟩;refine⟨n,rfl,by lia,by lia,?_⟩;rw[Int.toNat_natCast];refine⟨λk m σ' H'=>k<=n/\m=n-k/\J k σ' H',⟨_,bw _,rfl,j0⟩,?_⟩;rintro k m σ' H' ⟨hk,rfl,j⟩;by_cases e:k=n
 .subst e;exact .inl ⟨aF _,fin σ' H' j⟩
 .have hlt:k<n:=by exact XY hk e
  refine .inr ⟨hlt,J (k+1),λσ3 H3 z=>⟨n-(k+1),by omega,by exact hlt,rfl,z⟩,?_⟩;rintro x H'' ⟨rfl,rfl⟩;rw[Int.zero_add];exact step k σ' H'' hlt j
end
section
variable{X:Cx}
def tM(t:TE):TE:=λσ H Q=>∃R:VK,t σ H R/\∀x H',R x H'->Q x H'
def tMA(t:TA):TA:=λσ H Q=>∃R:Μ->Hp->Prop,t σ H R/\∀x H',R x H'->Q x H'
theorem PE.mono{a:Expr}{t:TE}(h:PE X a t):PE X a (tM t):=λpins s σ H Q I ⟨R,h1,h2⟩ =>
 thn (h pins s σ H R I h1) λv s' hP=>by obtain⟨x,H',I',r,q⟩:=hP;exact⟨x,H',I',r,h2 x H' q⟩
theorem PA.mono{es:List Expr}{t:TA}(h:PA X es t):PA X es (tMA t):=λpos pins s σ H Q I ⟨R,h1,h2⟩ =>
 thn (h pos pins s σ H R I h1) λv s' hP=>by obtain⟨x,H',I',r,q⟩:=hP;exact⟨x,H',I',r,h2 x H' q⟩
theorem PE.imp{a:Expr}{t t':TE}(h:PE X a t)(i:∀σ H Q,t' σ H Q->t σ H Q):PE X a t':=λpins s σ H Q I q=>h pins s σ H Q I (i σ H Q q)
theorem aee{t:TE}{σ:L2.St}{H:Hp}{Q:VK}(h:t σ H Q):tM t σ H Q:=⟨Q,h,λ_ _ q=>q⟩
theorem gC{K:Frag}{tl:TE}{g:TG}{tb:TS}{D:Ends}{σ:L2.St}{H:Hp}(h:tl σ H λx H1=>∃a xs,x=.ref a/\H1 a=some (.lst xs)/\∃J:Nat->L2.St->Hp->Prop,J 0 σ H1 /\
   (∀k x σ' H',xs[k]?=some x->J k σ' H'->H' a=some (.lst xs)->g x σ' H' λσ2 H2=>tb { D with nx:=λσ3 H3=>H3 a=some (.lst xs)/\J (k+1) σ3 H3,ct:=λσ3 H3=>H3 a=some (.lst xs)/\J (k+1) σ3 H3,bk:=D.nx } σ2 H2) /\
   ∀σ' H',J xs.length σ' H'->H' a=some (.lst xs)->D.nx σ' H'):Rz (Fd K (tM tl)) g tb D σ H :=
 X7 (aee h) λ_ _ i hP=>by obtain⟨R,a,b⟩:=hP;exact⟨R,a,λx H' q=>i x H' (b x H' q)⟩
theorem zu{ta:TA}{g:TG}{tb:TS}{D:Ends}{σ:L2.St}{H:Hp}(h:ta σ H λvs H1=>∃n:Nat,vs=[.int n]/\n<2^61/\∃J:Nat->L2.St->Hp->Prop,J 0 σ H1 /\
   (∀(k:Nat)σ' H',k<n->J k σ' H'->g (.int k) σ' H' λσ2 H2=>tb { D with nx:=J (k+1),ct:=J (k+1),bk:=D.nx } σ2 H2)/\∀σ' H',J n σ' H'->D.nx σ' H'):Rz (V1 (tMA ta)) g tb D σ H :=
 XR (ta:=tMA ta) ⟨_,h,λ_ _ q=>q⟩ λ_ _ i hP=>by obtain⟨R,a,b⟩:=hP;exact⟨R,a,λx H' q=>i x H' (b x H' q)⟩
def ad7(to:TE)(t:TA):TE:=λσ H Q=>to σ H λx H1=>∃l xs,x=.ref l/\H1 l=some (.lst xs)/\t σ H1 λvs H2=>∃y ys,vs=[y]/\H2 l=some (.lst ys)/\ys.length<sizeLine/\Q .non (upd H2 l (.lst (ys++[y])))
theorem rH{o e:Expr}{to:TE}{t:TA}{apos cpos:Pos}(ho:PE X o to)(ha:PA X [e] t)(hb:attributeBase o "append" X.env (eval o X.env)=eval o X.env:=by rfl)
 (hf:((backTo cpos (starEach [e] X.env)).all (λx=>!x.1)&&(backToKw cpos (keywordEach [] X.env)).all (λx=>x.1.isSome)&&decide ([e].length+([] : List Keyword).length+(if([] : List Keyword).isEmpty then 0 else 1)<30))=true:=by rfl)
 (hl:(apos.endLine==cpos.line)=true:=by rfl)(hs:starEach [e] X.env=(false,eval e X.env)::starEach [] X.env:=by rfl)(hp:(backTo cpos (starEach [] X.env)).any (·.1)=false:=by rfl) :
  PE X (.Call (.Attribute o "append" apos) [e] [] cpos) (ad7 to t):=by
 refine(abG PySem.F.plainAttrs_list PySem.F.slot_list_append PySem.F.type_list_append La ho.mono ha.mono hb hf hl hs hp).imp λσ H Q h=>?_;refine⟨_,h,?_⟩;rintro x H1 ⟨l,xs,rfl,hx,h2⟩;refine⟨.inl ⟨rfl,_,SqL.of hx⟩,_,h2,?_⟩;rintro vs H2 ⟨y,ys,rfl,hy,hz,q⟩;exact⟨l,ys,y,rfl,rfl,hy,hz,q⟩
def aez(to:TE):TE:=λσ H Q=>to σ H λx H1=>∃l xs,x=.ref l/\H1 l=some (.lst xs)/\Q .non (upd H1 l (.lst []))
def Oz:Μ->Hp->VK->Prop:=λxs H Q=>∃p ys,xs=[.ref p]/\H p=some (.lst ys)/\∀l,H l=none->Q (.ref l) (upd H l (.lst ys))
theorem HY:gF X (.type "list") Oz:=O1.imp λxs H Q hP=>by obtain⟨p,ys,a,b,c⟩:=hP;exact⟨p,ys,a,.inl (.of b),c⟩
end
mutual
theorem Us:∀ns:List Int,PyData.canLayAll0 (ns.map PyData.int)=true
 |[]=>rfl
 |n::ns=>by
  rw[List.map_cons];unfold PyData.canLayAll0;rw[Us ns];rfl
end
inductive FL(H:Hp):Μ->Ψ->Prop
 |nil:FL H [] []
 |cons {p:Addr}{f:Ι}{xs:Μ}{fs:Ψ} : H p=some (.tup [.int f.1,.int f.2])->FL H xs fs->FL H (.ref p::xs) (f::fs)
theorem FL.imp{H H':Hp}(h:∀p a b,H p=some (.tup [.int a,.int b])->H' p=some (.tup [.int a,.int b])):∀{xs:Μ}{fs:Ψ},FL H xs fs->FL H' xs fs
 |_,_,.nil=>.nil
 |_,_,.cons e t=>.cons (h _ _ _ e) (FL.imp h t)
theorem FL.same{H H':Hp}(S:Same H H'){xs:Μ}{fs:Ψ}(h:FL H xs fs):FL H' xs fs:=h.imp λp _ _ e=>S p _ e
theorem FL.length{H:Hp} : ∀{xs:Μ}{fs:Ψ},FL H xs fs->xs.length=fs.length
 |_,_,.nil=>rfl
 |_,_,.cons _ t=>by rw[List.length_cons,List.length_cons,FL.length t]
theorem FL.get{H:Hp}{xs:Μ}{fs:Ψ}{k:Nat}{x:V}(g:FL H xs fs)(h:xs[k]?=some x):∃p f,x=.ref p/\fs[k]?=some f/\H p=some (.tup [.int f.1,.int f.2]):=by
 induction g generalizing k with
 |nil=>cases h
 |cons e t ih =>
  cases k with
  |zero=>cases h;exact⟨_,_,rfl,rfl,e⟩
  |succ k=>exact ih h
theorem FL.append{H:Hp} : ∀{xs ys:Μ}{fs gs:Ψ},FL H xs fs->FL H ys gs->FL H (xs++ys) (fs++gs)
 |_,_,_,_,.nil,h=>h
 |_,_,_,_,.cons e t,h=>.cons e (FL.append t h)
theorem FL.one{H:Hp}{p:Addr}{a b:Int}(h:H p=some (.tup [.int a,.int b])):FL H [.ref p] [(a,b)]:=.cons (f:=(a,b)) h .nil
noncomputable def Its(x:Str):It:=⟨λi _=>i<x.cps.size,λi H v H'=>H'=H/\∃c,x.cps[i]?=some c/\v=.str ⟨#[c]⟩,λi _=>i=x.cps.size⟩
theorem Ra{P:Program}{w:World}{K:Frag}{tg:Expr}(it:Addr)(x:Str)(t:Tok)(ty:String)(hty : ["enumerate","zip","dict_itemiterator","dict_reverseitemiterator","odict_iterator","itertools.zip_longest","itertools.pairwise"].contains ty=false)
 (W:∀A:Around,A.handled=none->Walks P w A it [it] [it] x.cps.size (SignAt x) (λi h=>h.IsStrIter it ty x t i))
 (hself:∀(A:Around)(i:Nat)(s:Shared)(Q:Κ)(E:Κ),s.heap.IsStrIter it ty x t i->Q (.ref it) s->wpAny (model P w) A (pyIter (.ref it)) Q E s):Turn P w K tg (Its x) [it] it (λi h=>h.IsStrIter it ty x t i) where
 mem:=by simp
 obj:=λi h st b hb=>by
  have e:b=it:=by simpa using hb
  subst e;obtain⟨o,ho,_,hd⟩:=st;exact⟨o,ho,λv z=>by rw[hd]at z;cases z⟩
 keep:=λi h h' st k=>let⟨o,ho,r⟩:=st;⟨o,k it (by simp) o ho,r⟩
 item:=by
  intro X hP hw hK hc i pins s σ H E I hf st hg;subst hP hw hK;obtain⟨f0,f1,f2,f3,f4,f5⟩:=hf it (by simp);refine(W X.A (I.ok.hd hc)).item i s _ _ hg st λv h' tk hv st' kk=>?_;obtain⟨c,u,hx,rfl⟩:=hv;have I1:Inv X pins σ H { s with heap:=h',toks:=tk }:=I.turned (λb o hb e=>kk b o (by simpa using hb) e) f0 f1 f3 f4 f5;obtain⟨o,ho,hcl,hd⟩:=id st';exact⟨_,rfl,QD (s:={ s with heap:=h',toks:=tk }) ho hcl hd hty ⟨.str ⟨#[c]⟩,H,I1,⟨u,rfl⟩,⟨rfl,c,hx,rfl⟩,st',λb hb=>(hf b hb).1⟩⟩
 done:=by
  intro X hP hw hK hc i pins s σ H E I hf st hg;subst hP hw hK;obtain⟨f0,f1,f2,f3,f4,f5⟩:=hf it (by simp);have hg':i=x.cps.size:=hg;subst hg';exact(W X.A (I.ok.hd hc)).done s _ _ st λh' tk kk=>⟨rfl,I.turned (λb o hb e=>kk b o (by simpa using hb) e) f0 f1 f3 f4 f5⟩
 self:=hself
section
variable{X:Cx}{tg:Expr}
def ahU(te:TE):TI:=λσ H R=>te σ H λv H1=>∃x,v=.str x/\R (Its x) H1
theorem aeO{l:Expr}{tl:TE}(hl:PE X l tl):PI X tg l (ahU tl):=by
 intro pins s σ H R I h;refine thn (hl pins s σ H _ I h) λv s1 hP=>?_;obtain⟨x,H1,I1,r1,y,ey,q⟩:=hP;subst ey;obtain⟨t,rfl⟩:=r1;have fp:∀b∈[s1.heap.objs.size],FQ X pins H1 b:=λb hb=>by
  have e:b=s1.heap.objs.size:=by simpa using hb
  subst e;exact I1.fpOk (aF _) (I1.hok.fresh (aF _))
 have k:∀o:Obj,Inv X pins σ H1 { s1 with heap:=s1.heap.push o }:=λo=>I1.kept (t':=s1.toks) λb ob z=>aG _ z;cases ha:y.cps.all (· < 128)
 .exact wpAny_pyIter_wide ha ⟨s1.heap.objs.size,[s1.heap.objs.size],_,Its y,H1,rfl,k _,Ra _ y t "str_iterator" (by decide) (λA hA=>Walks.strWide hA _ y t) (λA i s Q E st h=>wpAny_pyIter_striter_wide st h),⟨_,aY _ rfl,rfl,rfl⟩,fp,q⟩
 .exact wpAny_pyIter_ascii ha ⟨s1.heap.objs.size,[s1.heap.objs.size],_,Its y,H1,rfl,k _,Ra _ y t "str_ascii_iterator" (by decide) (λA hA=>Walks.strAscii hA _ y t) (λA i s Q E st h=>wpAny_pyIter_striter_ascii st h),⟨_,aY _ rfl,rfl,rfl⟩,fp,q⟩
end
noncomputable def HW(x:Str)(lo hi:Option Int):Str:=⟨((x.cps.toList.drop (HT.sIx x.length 0 lo)).take (HT.sIx x.length x.length hi-HT.sIx x.length 0 lo)).toArray⟩
theorem strIdx(lo hi:Option Int)(n:Nat):Builtin.Str.strSliceIndices lo hi 1 n=(List.range (HT.sIx n n hi-HT.sIx n 0 lo)).map (HT.sIx n 0 lo + ·):=by
 rw[<- sliceRange_one];unfold Builtin.Str.strSliceIndices;have h1:∀(o:Option Int)(d:Nat),d<=n->(match o with
   |none=>(d:Int)
   |some i=>(let i:=if i<0 then i+(n:Int)else i;if(1:Int)>0 then max 0 (min i n)else max (-1) (min i (n-1))))=((HT.sIx n d o:Nat):Int):=by
  intro o d hd;cases o with
  |none=>rfl
  |some i =>
   simp only[HT.sIx,show(1:Int)>0 by decide,if_true];by_cases h:i<0
   .simp only[h,if_true]<;>lia
   .simp only[h,if_false]<;>lia
 have e1:=h1 lo 0 (bw _);have e2:=h1 hi n (aF _);simp only[show(1:Int)>0 by decide,if_true]at e1 e2 ⊢;rw[<- e1,<- e2]
 rfl
theorem adY(x:Str)(lo hi:Option Int):(⟨((Builtin.Str.strSliceIndices lo hi 1 x.length).filterMap (x.cps[·]?)).toArray⟩ : Str)=HW x lo hi:=by
 rw[strIdx,pick_run];rfl
theorem Uv(x:Str)(lo hi:Option Int)(h:(Builtin.Str.strSliceIndices lo hi 1 x.length).length=x.length):HW x lo hi=x:=by
 rw[strIdx,ak,List.length_range]at h;have h2:=HT.afv x.length x.length (aF _) hi;unfold HW;have hx:x.length=x.cps.size:=rfl;have e:x.cps.toList.length=x.length:=by simp[hx]
 by_cases z:x.length=0
 .have:x.cps.toList=[]:=List.length_eq_zero_iff.mp (Eq.trans e z);rw[this];obtain⟨⟨l⟩⟩:=x;simp at this;subst this;simp
 .have e0:HT.sIx x.length 0 lo=0:=by lia
  rw[e0,List.drop_zero,aK (by lia)]
def acn:V->Option Int->Option Int->Hp->VK->Prop:=λx lo hi H Q=>∃y,x=.str y/\y.length<=sizeLine/\Q (.str (HW y lo hi)) H
theorem part_of{v:Value}{o:Option Int}(h:IsPart v o):∃l:Option (Int×Tok),v=partValue l/\l.map (·.1)=o:=by
 cases h with
 |none=>exact⟨none,rfl,rfl⟩
 |int i t=>exact⟨some (i,t),rfl,rfl⟩
theorem abC{X:Cx} : SlR X acn:=by
 intro pins s σ H x v vl vu lo hi sl Q I rx hs pl pu h;obtain⟨y,rfl,hz,q⟩:=h;obtain⟨t,rfl⟩:=rx;obtain⟨l,rfl,el⟩:=part_of pl;obtain⟨u,rfl,eu⟩:=part_of pu;refine⟨"str",_,F.slot_str_getitem.lookup,typeIs_str s y t,wpAny_getItem_str_slice (l:=l) (u:=u) (st:=none) hs rfl ?_⟩;unfold sliceMade slicePicked;rw[el,eu];split
 .rename_i hw
  have hw':=(Bool.and_eq_true_iff.mp hw).2;rw[beq_iff_eq]at hw';have e:=Uv y lo hi hw';rw[e]at q;exact⟨.str y,H,I,⟨t,rfl⟩,q⟩
 .have e:=adY y lo hi;refine⟨?_,.str (HW y lo hi),H,I.tok _,⟨s.toks,?_⟩,q⟩
  .refine aM ?_ hz;refine aM (Nat.le_of_eq (ZH Str.length e)) ?_;show((y.cps.toList.drop _).take _).toArray.size<=y.cps.size;rw[aZ,bh,List.length_drop,Array.length_toList];lia
  .rw[<- e];rfl
def Vb(tk tv:TE):TE:=λσ H Q=>∀p,H p=none->tk σ (upd H p (.dK [])) λx H1=>∃i,x=.str i/\tv σ H1 λy H2=>H2 p=some (.dK [])/\Q (.ref p) (upd H2 p (.dK [(.inr i,y)]))
section
variable{X:Cx}
def VF:R2:=λx y H Q=>∃i j,x=.str i/\y=.str j/\i.length+j.length<=sizeLine/\Q (.str (i++j)) H
theorem V4:OpR X (binaryOp .Add) VF:=TJ
def ac0:R2:=λx y H Q=>∃i j,x=.str i/\y=.str j/\Q (.bl (!decide (j.cps.toList<i.cps.toList))) H
theorem abB:OpR X (compareOp .LtE) ac0:=by
 intro pins s σ H x y v u Q I rx ry h;obtain⟨i,j,rfl,rfl,q⟩:=h;obtain⟨t,rfl⟩:=rx;obtain⟨t',rfl⟩:=ry;exact PySem.P.le_str (dY I q rfl)
def afj(neg:Bool):R2:=λx y H Q=>∃i j,x=.str i/\y=.str j/\∃c,i=⟨#[c]⟩/\Q (.bl (if neg then !decide (c∈j.cps.toList)else decide (c∈j.cps.toList))) H
theorem OpR.imp{f:Value->Value->Sem Value}{r r':R2}(h:OpR X f r)(i:∀x y H Q,r' x y H Q->r x y H Q):OpR X f r':=λpins s σ H x y v u Q I rx ry q=>h pins s σ H x y v u Q I rx ry (i _ _ _ _ q)
def abJ:Μ->Hp->VK->Prop:=λxs H Q=>∃x n,xs=[.str x]/\x.length<=640/\PySem.intText? x=some n/\Q (.int n) H
theorem DK:∀{bs:List Bool}{us:Ξ},Vals (bs.map V.bl) us->∀(i:Nat)(v:Value),us[i]?=some v->∃b,bs[i]?=some b/\v=.bool b
 |[],_,.nil,i,v,h=>by cases i<;>cases h
 |b::bs,_,.cons r t,0,v,h=>by
  rw[List.getElem?_cons_zero]at h;cases h;exact⟨b,rfl,r⟩
 |b::bs,_,.cons r t,i+1,v,h=>by
  rw[List.getElem?_cons_succ]at h;exact DK t i v h
def Vz:Μ->Hp->VK->Prop:=λxs H Q=>∃(l:Addr)(bs:List Bool),xs=[.ref l]/\H l=some (.lst (bs.map V.bl))/\Q (.bl (bs.all id)) H
theorem vO:∀bs:List Bool,((List.range bs.length).all λi=>(bs[i]?).getD true)=bs.all id
 |[]=>rfl
 |b::bs=>by
  rw[List.length_cons,List.range_succ_eq_map,List.all_cons,List.all_map,List.all_cons];have:=vO bs;simp only[Function.comp_def,List.getElem?_cons_succ,List.getElem?_cons_zero,Option.getD_some,id]at this ⊢;rw[this]
theorem yX(hc:X.calm=true):gF X (.builtin "all") Vz:=by
 intro pins s σ H xs us Q I r h;obtain⟨l,bs,rfl,hl,q⟩:=h;obtain⟨u,rfl,ru⟩:=r.one;cases ru;obtain⟨its,rv,p⟩:=I.lstIs hl;have hlt:l<s.heap.objs.size:=by obtain⟨_,e,_⟩:=p;exact aJ e
 refine call_all_walk (wpAny_pyIter_list p ?_);refine⟨s.heap.objs.size,[s.heap.objs.size,l],[s.heap.objs.size],its.toArray.size,_,_,λi=>(bs[i]?).getD true,rfl,Walks.list (A:=X.A.in1) (I.ok.hd hc) _ l (aR hlt) its.toArray,
  ⟨⟨_,aY _ rfl,rfl,rfl⟩,p.push _⟩,λi v s' Q' E' hP hQ=>?_,λh' tk hk=>?_⟩
 .obtain⟨b,e,rfl⟩:=DK rv i v (by simpa using hP);simp only[e,Option.getD_some]at hQ;exact wpAny_truthy_bool hQ
 .have e:((List.range its.toArray.size).all λi=>(bs[i]?).getD true)=bs.all id:=by
   rw[aZ,<- rv.length,ak];exact vO bs
  refine⟨.bl (bs.all id),H,I.kept (t':=tk) λb o q=>hk b o (λhm=>?_) (aG _ q),?_,q⟩
  .rw[YR.mp hm]at q;exact X9 _ (aJ q)
  .rw[e];rfl
def N8:V->Μ->Hp->VK->Prop:=λx vs H Q=>∃a b,x=.str a/\vs=[.str b]/\Q (.bl (decide (0+b.length<=a.length)&&Builtin.Str.subAt a b 0)) H
noncomputable def agD:List Nat->Int
 |i::_=>(i:Int)
 |[]=>-1
def aaR:V->Μ->Hp->VK->Prop:=λx vs H Q=>∃a b,x=.str a/\vs=[.str b]/\Q (.int (agD (Builtin.Str.occurrences a b 0 a.length 1))) H
def Tr:V->Μ->Hp->VK->Prop:=λx vs H Q=>∃a b,x=.str a/\vs=[.str b]/\1<=b.length/\a.length<sizeLine/\∀p,H p=none->Q (.ref p) (upd H p (.lst ((Txt.split a b).map V.str)))
def tSM(r:V->Μ->Hp->VK->Prop)(to:TE)(t:TA):TE:=λσ H Q=>to σ H λx H1=>(∃y,x=.str y)/\t σ H1 λvs H2=>r x vs H2 Q
theorem agA{o e:Expr}{to:TE}{t:TA}{name:Str}{id:String}{r:V->Μ->Hp->VK->Prop}{apos cpos:Pos}(slot:Slot "str" name id)(hty:typeOf (.builtin id)=pure (.type "method_descriptor"))(hm:MtM X id r)(ho:PE X o to)(ha:PA X [e] t)
 (hb:attributeBase o name X.env (eval o X.env)=eval o X.env:=by rfl)
 (hf:((backTo cpos (starEach [e] X.env)).all (λx=>!x.1)&&(backToKw cpos (keywordEach [] X.env)).all (λx=>x.1.isSome)&&decide ([e].length+([] : List Keyword).length+(if([] : List Keyword).isEmpty then 0 else 1)<30))=true:=by rfl)
 (hl:(apos.endLine==cpos.line)=true:=by rfl)(hs:starEach [e] X.env=(false,eval e X.env)::starEach [] X.env:=by rfl)(hp:(backTo cpos (starEach [] X.env)).any (·.1)=false:=by rfl) :
  PE X (.Call (.Attribute o name apos) [e] [] cpos) (tSM r to t):=by
 refine(abG PySem.F.plainAttrs_str slot hty hm ho.mono ha hb hf hl hs hp).imp λσ H Q h=>?_;refine⟨_,h,?_⟩;rintro x H1 ⟨⟨y,rfl⟩,h2⟩;exact⟨rfl,h2⟩
theorem HS{x:Str}{v:V}{pos:Pos}(hg:Gl X x)(hm:∃u,X.mg x=some u/\RelV v u)(hd:(x==("__debug__":Str))=false:=by decide):PE X (.Name x pos) (tC v):=by
 obtain⟨u,h1,h2⟩:=hm;exact MF hg h1 h2 hd
def abq:R2:=λx y H Q=>∃i n,x=.str i/\y=.int n/\i.length=1/\0<=n/\n<=1000/\∀z:Str,z.length<=n.toNat+1->Q (.str z) H
theorem VL{a b:Expr}{ta tb:TE}{pos:Pos}(ha:PEB X a ta)(hb:PE X b tb)(hs:Vy b):PEB X (.Subscript a b pos) (tOp Rw ta tb):=⟨bQ bY ha.out hb hs⟩
theorem Hv{st:Stmt}{t:TS}(h1:PSB X st t):acE X [st] t:=⟨bM h1.out⟩
end
theorem cF.calm{P:Program}{w:World}{K:Frag}{mg:Str->Ζ}{base:Heap}{k:Nat}{f:Addr}{fd:FuncData}{ps:Β}{sp:Sp}(F:cF P w K mg base (CXO P w) k f fd ps sp) :
  cF P w K mg base CX0 k f fd ps (λvs H Q _=>sp vs H Q λ_ _ _=>False):=by
 refine⟨λvs H Q E h=>F.len _ _ _ _ h,λA outer s H args us vs Q E hr e0 hb r h=>?_⟩;refine codeAny_mono (F.run A outer s H args us vs Q _ hr e0 hb r h) λres s' hs=>?_;cases res with
 |error e =>
  obtain⟨_,_,_,_,_,_,_,z⟩:=hs;exact z.elim
 |ok fl =>
  cases fl with
  |ret u=>exact hs
  |next=>exact hs
  |brk=>exact hs
  |cont=>exact hs
theorem OkX.calm{P:Program}{w:World}{K:Frag}{mg:Str->Ζ}{base:Heap}{k:Nat}{x:Str}{ps:Β}{sp:Sp}(F:OkX P w K mg base k x ps sp) :
  OkF P w K mg base k x ps (λvs H Q _=>sp vs H Q λ_ _ _=>False):=by obtain⟨f,fd,a,b⟩:=F;exact⟨f,fd,a.calm,b⟩
noncomputable def hid(y:Str):Str:=Str.ofString "?"++y
def LQ(xs:Β)(N:Β):Β:=N.map λy=>if y∈xs then hid y else y
def Cx.compG(X:Cx)(N':Β)(scope:Scope)(xs:Β)(C:Addr)(s₀:Shared)(H₀:Hp)(ex:Ε)(pn:Ω):Cx :=
 { X with env:=compEnvC scope (Dw X.env.cells scope.names []) C X.env,N:=xs++N',s₀:=s₀,H₀:=H₀,outer:=X.stack,ex:=ex,fn:=λ_=>false,pn:=pn,xe:=λ_ _=>False }
def PTs(X:Cx)(ifs:List Expr)(tc:TT):Prop:=∀(pins:Ω)(s:Shared)(σ:L2.St)(H:Hp)(Q:Bool->Hp->Prop),Inv X pins σ H s->tc σ H Q ->
 wpAny (model X.prog X.w) X.A (forIn ifs true λc r=>if r=true then do let ok <- isTrue c X.env (eval c X.env);pure (ForInStep.yield ok)else pure (ForInStep.yield r)) (λb s'=>∃H',Inv X pins σ H' s'/\Q b H') X.xe s
def Qs:TT:=λ_ H Q=>Q true H
theorem dz{X:Cx} : PTs X [] Qs:=λ_ _ _ H _ I q=>wpAny_tests_nil ⟨H,I,q⟩
theorem ab2{X:Cx}{c:Expr}{tc:TT}(h:PT X c tc):PTs X [c] tc:=λpins s σ H Q I q=>wpAny_tests_one (h pins s σ H Q I q)
def mV(wi:TI)(n:Nat)(gt:TG)(tc:TT)(te:TE):TE:=λσ H Q=>wi σ H λJ H1=>∀D,H1 D=none->∃W:Nat->Nat->Μ->Hp->Prop,(∃m,W 0 m [] (upd H1 D (.lst [])))/\∀i m ys Hc,W i m ys Hc ->
 (J.stop i Hc/\Q (.ref D) Hc)\/(J.go i Hc/\∀x H',J.yld i Hc x H'->∀pre:L2.St,pre.length=n->gt x (pre++σ) H' λσ2 H2=>∃pre':L2.St,pre'.length=n/\σ2=pre'++σ/\tc σ2 H2 λb H3 =>
  match b with
  |true=>te σ2 H3 λy H4=>ys.length<sizeLine/\H4 D=some (.lst ys)/\∃m',m'<m/\W (i+1) m' (ys++[y]) (upd H4 D (.lst (ys++[y])))
  |false=>∃m',m'<m/\W (i+1) m' ys H3)
section
variable{X:Cx}{elt iter:Expr}{pos:Pos}{scope:Scope}{wi:TI}{te:TE}
theorem Gx{use:Option (Value->Sem Unit)}{post:Κ}{Qv:VK}{pins:Ω}{s:Shared}{σ:L2.St}{H:Hp}{pp:Pos}{xs N':Β}{tg:Expr}{ifs:List Expr}{gt:TG}{tc:TT}(hc:X.calm=true)(hsh:LQ xs X.N=N')(hN:(xs++N').Nodup)(hkind:scope.kind=.function)(hcell:∀y∈scope.names,y.2≠.cell)(hnames:∀y∈scope.names,y.2=.local->scope.names.lookup y.1=some .local)
 (hfree:∀y∈scope.names,y.2=.free->X.env.kindOf y.1=some .cell\/X.env.kindOf y.1=some .free)(hloc:∀y∈X.N,y∉xs->(relabel scope X.env).names.lookup y≠some .local)(hq:∀y∈X.N,y∈xs->(relabel scope X.env).names.lookup (hid y)=none)(hi:PI X tg iter wi)
 (hg:∀C s₀ H₀ ex pn,PG (X.compG N' scope xs C s₀ H₀ ex pn) tg gt)(ht:∀C s₀ H₀ ex pn,PTs (X.compG N' scope xs C s₀ H₀ ex pn) ifs tc)(he:∀C s₀ H₀ ex pn,PE (X.compG N' scope xs C s₀ H₀ ex pn) elt te)(hs:∀z,foldedSetIterable iter X.env z=pure z)(I:Inv X pins σ H s)(h:mV wi xs.length gt tc te σ H Qv)
 (endC:∀(C D:Addr)(Hc:Hp)(s6:Shared)(m:Str->Ζ)(fl:Flow),s6.heap.Ns C m->Inv X pins σ Hc s6->FQ X pins Hc C->Qv (.ref D) Hc->compPost (model X.prog X.w) X.A X.xe use post (.ref D) C (.ok fl) s6) :
  wpAny (model X.prog X.w) X.A (comprehension (.ListComp elt [⟨tg,iter,ifs,0⟩] scope pos) scope X.env pp (newList []) false (eval iter X.env) use) post X.xe s:=by
 have hfr:∀y∈scope.names,y.2=.free->∃c,X.env.cells.lookup y.1=some c:=λy hy e=>I.ok.has y.1 (hfree y hy e);refine wpAny_comprehension_free (use:=use) (Q:=post) rfl hs (Vc hfr) hkind hnames (thn (hi pins s σ H _ I h) λv s1 h1=>thn h1 λitv s2 h2=>?_);obtain⟨it,fp,tn,J,H2,e,I2,T,st2,f2,R⟩:=h2;subst e;have nD:H2 s2.heap.objs.size=none:=I2.hok.fresh (aF _);obtain⟨W,⟨m0,w0⟩,turn⟩:=R s2.heap.objs.size nD;refine wpAny_newObj_type ?_ (by show 0<=sizeLine;exact bw _);have I3:Inv X pins σ (upd H2 s2.heap.objs.size (.lst [])) { s2 with heap:=s2.heap.push { cls:=.type "list",dict:=none,data:=.seq ([] : Ξ).toArray } }:=I2.lnew (t':=s2.toks) (ys:=[]) (its:=[]) .nil (bw _);have oldT:∀b o,s2.heap.get? b=some o->(s2.heap.push { cls:=.type "list",dict:=none,data:=.seq ([] : Ξ).toArray }).get? b=some o:=λb o e=>aG _ e;generalize hs3:({ s2 with heap:=s2.heap.push { cls:=.type "list",dict:=none,data:=.seq ([] : Ξ).toArray } } : Shared)=s3 at I3 ⊢;have st3:tn 0 s3.heap:=T.keep _ _ _ st2 λb _ o e=>by rw[<- hs3];exact oldT b o e
 generalize hH3:upd H2 s2.heap.objs.size (.lst [])=H3 at I3 w0;have f3:∀b∈fp,FQ X pins H3 b:=λb hb=>by
  obtain⟨a1,a2⟩:=f2 b hb;refine⟨?_,a2⟩;obtain⟨o,e,_⟩:=T.obj _ _ st2 b hb;rw[<- hH3,bK (aR (aJ e))];exact a1
 refine wpAny_newFunctionEnv hcell (by intro y hy;simp at hy) (λg hns hsb=>?_) hkind;have kg:∀b o,s3.heap.get? b=some o->g.get? b=some o:=λb o e=>(hsb.2 b (aR (aJ e))).trans (aG _ e);have clm:∀{y:Str}{c:Addr},(Dw X.env.cells scope.names []).lookup y=some c->X.env.cells.lookup y=some c:=λ{y c}e=>by
  rcases Tj hfr (PySem.mem_of_lookup e)with z|z
  .cases z
  .exact z
 have kinds:∀{y:Str},((relabel scope X.env).names.lookup y=some .cell\/(relabel scope X.env).names.lookup y=some .free)->(X.env.kindOf y=some .cell\/X.env.kindOf y=some .free)/\∃c,(Dw X.env.cells scope.names []).lookup y=some c:=λ{y}e=>by
  have z:=Bw e hcell;obtain⟨c,hc'⟩:=RG (cells:=X.env.cells) (acc:=[]) (.inl z);exact⟨hfree _ z rfl,rB hc'⟩
 have lt3:∀b∈fp,b<s3.heap.objs.size:=λb hb=>by
  obtain⟨o,e,_⟩:=T.obj _ _ st3 b hb;exact aJ e
 have nst:∀b∈fp,b∉frs X.stack:=λb hb=>I3.nostk' (f3 b hb).2.1 (f3 b hb).2.2.1;generalize hX:X.compG N' scope xs s3.heap.objs.size s3 H3 fp (X.pn++pins)=Y;have ok':Y.Ok:=by
  subst hX;exact⟨I3.ok.mod,hkind,I3.ok.glob,I3.ok.blt,aF _,λy z c h1 h2=>I3.ok.inj y z c (clm h1) (clm h2),λy hy=>(kinds hy).2,λ_ _ z=>(nomatch z),I3.ok.hd,I3.ok.frames,.inl rfl,
   λb hb=>⟨aR (lt3 b hb),λy c e=>(f3 b hb).2.2.2.2.1 y c (clm e)⟩,I3.bs,aM I3.ok.bsz I3.sz,λb o e hb=>by
    rcases(f3 b hb).2.2.2.1 with z|z
    .exact I3.ok.noex b o e z
    .exact absurd (aU (aU (aJ e) I3.ok.bsz) z) (X9 _),nst,I3.stack,I3.stkFree⟩
 have J4:∀tk,Inv Y [] (List.replicate xs.length none++σ) H3 { s3 with heap:=g,toks:=tk }:=λtk=>by
  subst hX;refine⟨ok',rfl,I3.bare,Un.kept kg,⟨_,hns,λi y v e1 e2 e3=>?_⟩,λy c e=>?_,I3.hok.fresh (aF _),λy c e=>I3.freeC y c (clm e),λp hp=>?_,I3.hok.kept kg,?_⟩
  .by_cases hin:i<xs.length
   .rw[aD (by rw[aN];exact hin),XG,ZY hin]at e2;cases e2
   .obtain⟨j,rfl⟩ : ∃j,i=xs.length+j:=⟨i-xs.length,by lia⟩;have e0:N'[j]?=some y:=by
     have e1:(xs++N')[xs.length+j]?=some y:=e1;rw[aC (X2 _ _)]at e1;rw[show xs.length+j-xs.length=j by exact Nat.add_sub_cancel_left _ _]at e1;exact e1
    have e2':σ[j]?=some (some v):=by
     rw[aC (by rw[aN];exact X2 _ _),aN]at e2;rw[show xs.length+j-xs.length=j by exact Nat.add_sub_cancel_left _ _]at e2;exact e2
    rw[<- hsh]at e0;obtain⟨y0,e1',ey⟩ : ∃y0,X.N[j]?=some y0/\(if y0∈xs then hid y0 else y0)=y:=by
     unfold LQ at e0;rw[aq]at e0;cases hz:X.N[j]? with
     |none=>rw[hz]at e0;cases e0
     |some y0=>rw[hz]at e0;exact⟨y0,rfl,Option.some.inj e0⟩
    have e3:(relabel scope X.env).names.lookup y=some .local\/(relabel scope X.env).names.lookup y=some .cell\/(relabel scope X.env).names.lookup y=some .free:=e3;have ne:¬y0∈xs:=λz=>by
     rw[ZY z]at ey;subst ey;rw[hq y0 (aB e1') z]at e3;rcases e3 with z|z|z<;>cases z
    rw[ZZ ne]at ey;subst ey;have e3':(relabel scope X.env).names.lookup y0=some .cell\/(relabel scope X.env).names.lookup y0=some .free:=by
     rcases e3 with z|z
     .exact absurd z (hloc y0 (aB e1') ne)
     .exact z
    obtain⟨kd,c,hcl⟩:=kinds e3';obtain⟨m,_,hl⟩:=I3.loc;obtain⟨u,r,lk⟩:=hl j y0 v e1' e2' (.inr kd);refine⟨u,r,.inr ⟨e3',c,hcl,?_⟩⟩;rcases lk with⟨k1,_⟩|⟨_,c',q1,o,q2,q3⟩
    .exfalso;have k1':X.env.kindOf y0=some .local:=k1;rcases kd with k2|k2<;>rw[k1']at k2<;>cases k2
    .rw[clm hcl]at q1;cases q1;exact⟨o,kg _ _ q2,q3⟩
  .obtain⟨v,o,q2,q3⟩:=I3.cell y c (clm e);exact⟨v,o,kg _ _ q2,q3⟩
  .have hp':p∈X.pn++pins:=by simpa[Cx.compG]using hp
   obtain⟨a1,a2,a3,a4,a5⟩:=I3.pin p hp';exact⟨kg _ _ a1,a2,aR (aJ a1),I3.nostk' a3 a4,a5⟩
  .show(List.replicate xs.length none++σ).length=(xs++N').length;have hln:N'.length=X.N.length:=by rw[<- hsh];unfold LQ;rw[ak]
   rw[aA,aN,aA,I3.len,hln]
 have fpY:∀{Hc:Hp},(∀b∈fp,Hc b=none)->∀b∈fp,FQ Y [] Hc b:=λ{Hc}hn b hb=>by
  subst hX;exact⟨hn b hb,aR (lt3 b hb),nst b hb,.inl hb,λy c e=>(f3 b hb).2.2.2.2.1 y c (clm e),λp hp=>(f3 b hb).2.2.2.2.2 p (by simpa[Cx.compG]using hp)⟩
 have loop:∀s4:Shared,s4={ s3 with heap:=g,toks:=s3.toks+([] : List (Str×Value)).length } ->
   codeAny (model X.prog X.w) X.A (.compLoop (.ListComp elt [⟨tg,iter,ifs,0⟩] scope pos) 0 (.ref it) (.ref s2.heap.objs.size) Y.env) (compPost (model X.prog X.w) X.A X.xe use post (.ref s2.heap.objs.size) s3.heap.objs.size) s4:=by
  rintro s4 rfl;have YP:Y.prog=X.prog/\Y.w=X.w/\Y.K=X.K/\Y.calm=X.calm/\Y.A=X.A/\Y.env.locals=s3.heap.objs.size:=by subst hX;exact⟨rfl,rfl,rfl,rfl,rfl,rfl⟩
  obtain⟨y1,y2,y3,y4,y5,y6⟩:=YP;have he':PE Y elt te:=by subst hX;exact he _ _ _ _ _
  have hg':PG Y tg gt:=by subst hX;exact hg _ _ _ _ _
  have ht':PTs Y ifs tc:=by subst hX;exact ht _ _ _ _ _
  have xeY:Y.xe=λ_ _=>False:=by subst hX;rfl
  have yb:∀{Hc:Hp}{w':L2.St}{pn:Ω}{s':Shared},Inv Y pn w' Hc s'->Un (frs X.stack) fp H3 Hc s3.heap s'.heap:=λ{Hc w' pn s'}Z=>by
   have:=Z.base;subst hX;exact this
  have yos:∀{Hc:Hp}{w':L2.St}{pn:Ω}{s':Shared},Inv Y pn w' Hc s'->s'.os=s3.os:=λ{Hc w' pn s'}Z=>by
   have:=Z.os;subst hX;exact this
  refine codeAny_loop rfl (λn s'=>∃i ys Hc,∃w':L2.St,w'.length=xs.length/\Inv Y [] (w'++σ) Hc s'/\tn i s'.heap/\(∀b∈fp,Hc b=none)/\W i n ys Hc) (λn s5 hI=>?_) m0 ⟨0,[],H3,List.replicate xs.length none,aN,J4 _,T.keep _ _ _ st3 λb _ o e=>kg b o e,λb hb=>(f3 b hb).1,w0⟩;obtain⟨i,ys,Hc,w',hw',Z,stc,frc,wc⟩:=hI;show wpAny _ _ ((compTurn (.ListComp elt [⟨tg,iter,ifs,0⟩] scope pos) 0 (.ref it) (.ref s2.heap.objs.size) Y.env).onRaise (λz=>do noteFrame z Y.env;theTreesLotGoes z)) _ _ s5;refine wpAny_noted (wpAny_noRaise ?_);rw[compTurn_list];show wpAny (model X.prog X.w) X.A _ _ _ _;rcases turn i n ys Hc wc with⟨stop,qn⟩|⟨go,step⟩
  .have hd:=T.done Y y1 y2 y3 (y4.trans hc) i [] s5 (w'++σ) Hc (λ_ _=>False) Z (fpY frc) stc stop;rw[y5]at hd;refine ZU (wpAny_standAt (ZU (thn hd λr s6 hP=>?_)));obtain⟨hr,Z6⟩:=hP;subst hr;refine ZT ?_;obtain⟨m,hn6,_⟩:=Z6.loc;rw[y6]at hn6;have u6:=yb Z6;have hok:HOk X.prog X.w Hc s6.heap:=by
    have z:=Z6.hok;rw[y1,y2]at z;exact z
   have cn:Hc s3.heap.objs.size=none:=by
    have z:=Z6.free;rw[y6]at z;exact z
   have I6:Inv X pins σ Hc s6:=I3.call' (s':=s6) (ch:=fp) (yos Z6) u6 hok Z6.bare λb hb=>⟨(f3 b hb).2.2.2.1,(f3 b hb).2.1,(f3 b hb).2.2.2.2.1,(f3 b hb).2.2.2.2.2⟩;have fC:FQ X pins Hc s3.heap.objs.size:=I3.fpOk (aF _) cn;exact endC _ _ Hc s6 m _ hn6 I6 fC qn
  .have hd:=T.item Y y1 y2 y3 (y4.trans hc) i [] s5 (w'++σ) Hc (λ_ _=>False) Z (fpY frc) stc go;rw[y5]at hd;refine ZU (wpAny_standAt (ZU (thn hd λr s6 hP=>?_)));obtain⟨u,hr,h6⟩:=hP;subst hr;refine ZU (thn h6 λ_ s7 hP=>?_);obtain⟨xv,H7,Z7,r7,yl,st7,fr7⟩:=hP;have Z7':=Z7.pinned (fpY fr7) (T.obj _ _ st7);have hst:=hg' _ s7 _ H7 xv u _ Z7' r7 (step xv H7 yl w' hw');rw[y1,y2,y5,xeY]at hst;refine ZU (thn hst λ_ s8 hP=>?_);obtain⟨σ8,H8,Z8,pre,hpre,e8,q8⟩:=hP;subst e8;have hte:=ht' _ s8 _ H8 _ Z8 q8;rw[y1,y2,y5,xeY]at hte;have fin:∀{m':Nat}{ys':Μ}{H9:Hp}{s9:Shared},Inv Y ([]++Hh fp s7.heap) (pre++σ) H9 s9->m'<n->W (i+1) m' ys' H9->∃m,m<n/\∃i ys Hc,∃w':L2.St,w'.length=xs.length/\Inv Y [] (w'++σ) Hc s9/\tn i s9.heap/\(∀b∈fp,Hc b=none)/\W i m ys Hc:=λ{m' ys' H9 s9}Z9 hm' w9 =>
    ⟨m',hm',i+1,ys',H9,pre,hpre,Z9.unpinned,T.keep _ _ _ st7 λb hb o e=>(Z9.pin (b,o) (aQ _ (aQ _ (rQ hb e)))).1,λb hb=>by
     obtain⟨o,e,_⟩:=T.obj _ _ st7 b hb;exact(Z9.pin (b,o) (aQ _ (aQ _ (rQ hb e)))).2.1,w9⟩
   refine ZU (thn hte λok s9 hP=>?_);obtain⟨H9,Z9,q9⟩:=hP;cases ok with
   |false =>
    obtain⟨m',hm',w9⟩:=q9;exact ZT ⟨rfl,fin Z9 hm' w9⟩
   |true =>
    have hel:=he' _ s9 _ H9 _ Z9 q9;rw[y1,y2,y5,xeY]at hel;refine ZU (ZU (thn hel λev s10 hP=>?_));obtain⟨yv,H10,Z10,r10,hz,hD10,m',hm',w10⟩:=hP;have hap:=La (X:=Y) _ s10 _ H10 (.ref s2.heap.objs.size) [yv] (.ref s2.heap.objs.size) [ev] (λ_ Hf=>Hf=upd H10 s2.heap.objs.size (.lst (ys++[yv]))) Z10 rfl (.cons r10 .nil) ⟨_,ys,yv,rfl,rfl,hD10,hz,rfl⟩;rw[y1,y2,y5,xeY]at hap;refine ZU (thn hap λav s11 hP=>?_);obtain⟨_,H11,Z11,_,e11⟩:=hP;subst e11;exact ZT (ZT ⟨rfl,fin Z11 hm' w10⟩)
 have henv:Y.env=compEnvC scope (Dw X.env.cells scope.names []) s3.heap.objs.size X.env:=by subst hX;rfl
 rw[henv]at loop;exact codeAny_compStart_list (loop _ rfl) (T.self _ 0 _ _ _ (T.keep _ _ _ st3 λb _ o e=>kg b o e) (loop _ rfl))
theorem aaW{xs N':Β}{tg:Expr}{ifs:List Expr}{gt:TG}{tc:TT}(hc:X.calm=true)(hsh:LQ xs X.N=N')(hN:(xs++N').Nodup)(hkind:scope.kind=.function)(hcell:∀y∈scope.names,y.2≠.cell)(hnames:∀y∈scope.names,y.2=.local->scope.names.lookup y.1=some .local)
 (hfree:∀y∈scope.names,y.2=.free->X.env.kindOf y.1=some .cell\/X.env.kindOf y.1=some .free)(hloc:∀y∈X.N,y∉xs->(relabel scope X.env).names.lookup y≠some .local)(hq:∀y∈X.N,y∈xs->(relabel scope X.env).names.lookup (hid y)=none)(hi:PI X tg iter wi)
 (hg:∀C s₀ H₀ ex pn,PG (X.compG N' scope xs C s₀ H₀ ex pn) tg gt)(ht:∀C s₀ H₀ ex pn,PTs (X.compG N' scope xs C s₀ H₀ ex pn) ifs tc)(he:∀C s₀ H₀ ex pn,PE (X.compG N' scope xs C s₀ H₀ ex pn) elt te)(hs:∀z,foldedSetIterable iter X.env z=pure z:=by intro _;rfl) :
  PE X (.ListComp elt [⟨tg,iter,ifs,0⟩] scope pos) (mV wi xs.length gt tc te):=by
 intro pins s σ H Q I h;rw[eval_ListComp];exact Gx hc hsh hN hkind hcell hnames hfree hloc hq hi hg ht he hs I h λC D Hc s6 m fl hn I6 fC q=>⟨m,hn,λh' hs'=>⟨.ref D,Hc,I6.turned (it:=C) (h':=h') (t':=s6.toks) (λb o hb e=>(hs'.2 b hb).trans e) fC.1 fC.2.1 fC.2.2.2.1 fC.2.2.2.2.1 fC.2.2.2.2.2,rfl,q⟩⟩
end
section
variable{X:Cx}{k:Nat}{f C:Addr}{fd:FuncData}{ps:Β}{sp:Sp}{dvs:Μ}{ds:Ξ}{x m:Str}{p pos apos:Pos}{e o:Expr}{es:List Expr}{ta:TE}{t:TA}{Ex:Value->Η->L2.St->Hp->Prop}
def aeJ(C:Addr)(sp:Sp)(dvs:Μ)(Ex:Value->Η->L2.St->Hp->Prop)(t:TA):TE:=λσ H Q=>t σ H λvs H1=>∀x dx,H1 x=none->H1 dx=none->dx≠x->sp (.ref x::(vs++dvs)) (upd (upd H1 dx (.own x)) x (.ins C dx [])) (λv H2=>v=.non/\Q (.ref x) H2) λC d H'=>Ex C d σ H'
theorem adB{pins:Ω}{σ:St}{H:Hp}{s:Shared}{Q:VK}{us:Ξ}{vs:Μ}(F:cF X.prog X.w X.K X.mg X.base (CXO X.prog X.w) k f fd ps sp)(hr:gU k X.A)(hb:Binds X.K fd ps ds)(hd:Vals dvs ds)(hx:Kh X Ex)
 (I:Inv X pins σ H s)(r:Vals vs us)(h:sp (vs++dvs) H Q λC d H'=>Ex C d σ H'):wpAny (model X.prog X.w) X.A (call (.ref f) us) (EP X pins σ Q) X.xe s:=by
 have r2:Vals (vs++dvs) (us++ds):=r.append hd;have hl:(us++ds).length=ps.length:=by rw[<- r2.length];exact F.len _ _ _ _ h
 refine wpAny_call (codeAny_mono (F.run X.A X.stack s H ⟨us,[]⟩ (us++ds) (vs++dvs) Q _ hr I.env0 (hb s us I.kIn hl) r2 h) λr s' hq=>?_);cases r with
 |error e =>
  obtain⟨a,C,d,H',B,rfl,Fl,q'⟩:=hq;exact hx pins σ H s a C H' s' B d I Fl q'
 |ok fl =>
  cases fl with
  |ret u=>exact I.after hq
  |next=>exact False.elim hq
  |brk=>exact False.elim hq
  |cont=>exact False.elim hq
theorem Xw{pins:Ω}{σ:St}{H:Hp}{s:Shared}{Q:VK}{us:Ξ}{vs:Μ}(M:Mk X.K C f)(F:cF X.prog X.w X.K X.mg X.base (CXO X.prog X.w) k f fd ps sp)(hr:gU (k+1) X.A)(hb:Binds X.K fd ps ds)(hd:Vals dvs ds)
 (hx:Kh X Ex)(I:Inv X pins σ H s)(r:Vals vs us)
 (h:∀x dx,H x=none->H dx=none->dx≠x->sp (.ref x::(vs++dvs)) (upd (upd H dx (.own x)) x (.ins C dx [])) (λv H2=>v=.non/\Q (.ref x) H2) λC d H'=>Ex C d σ H') :
  wpAny (model X.prog X.w) X.A (call (.ref C) us) (EP X pins σ Q) X.xe s:=by
 have hq:=h (s.heap.objs.size+1) s.heap.objs.size (I.hok.fresh (Y3 _)) (I.hok.fresh (aF _)) (aR (X1 _));have I2:=Inv.made (C:=C) I;have r2:Vals (V.ref (s.heap.objs.size+1)::(vs++dvs)) (Value.ref (s.heap.objs.size+1)::(us++ds)):=.cons rfl (r.append hd);have hl:(Value.ref (s.heap.objs.size+1)::us++ds).length=ps.length:=by
  have e:=r2.length;rw[F.len _ _ _ _ hq]at e;exact e.symm
 refine wpAny_call (abM (f:=f) I.kIn M.makes M.init (beq_iff_eq.mp M.fn) (codeAny_mono (F.run _ X.stack _ _ ⟨Value.ref (s.heap.objs.size+1)::us,[]⟩ (Value.ref (s.heap.objs.size+1)::(us++ds)) _ _ _ (hr.make C us [])
  (I2.env0.make C us []) (hb _ (Value.ref (s.heap.objs.size+1)::us) I2.kIn hl) r2 hq) λr s' hq'=>?_))
 cases r with
 |error e =>
  obtain⟨a,C,d,H',B,rfl,Fl,q'⟩:=hq';exact hx pins σ _ _ a C H' s' B d I2 Fl q'
 |ok fl =>
  cases fl with
  |ret u =>
   obtain⟨v,H',I3,rv,ev,q3⟩:=I2.after hq';subst ev;exact⟨rv,⟨V.ref (s.heap.objs.size+1),H',I3,rfl,q3⟩⟩
  |next=>exact False.elim hq'
  |brk=>exact False.elim hq'
  |cont=>exact False.elim hq'
theorem aaL(M:Mk X.K C f)(F:cF X.prog X.w X.K X.mg X.base (CXO X.prog X.w) k f fd ps sp)(hr:gU (k+1) X.A)(hg:Gl X x)(hm:X.mg x=some (.ref C))(hb:Binds X.K fd ps ds)(hd:Vals dvs ds)(hx:Kh X Ex)
 (ha:PA X (e::es) t)(hdb:(x==("__debug__":Str))=false:=by decide)(he:starEach (e::es) X.env=(false,eval e X.env)::starEach es X.env:=by rfl)(hpl:(backTo pos (starEach es X.env)).any (·.1)=false:=by rfl) :
  PE X (.Call (.Name x p) (e::es) [] pos) (aeJ C sp dvs Ex t):=by
 intro pins s σ H Q I h;refine wpAny_Call_Name_kw (sG I hg hm ?_ hdb);refine callWith_K (h₀:=X.base) I.ok.mod.kin M.kp (thn (ha pos pins s σ H _ I h) λus s1 ⟨vs,H1,I1,r,q⟩=>⟨I1.kIn,?_⟩) he hpl;exact Xw M F hr hb hd hx I1 r q
end
structure I_(K:Frag)(B:Addr)(m:Str)(f:Addr):Prop where
 ga:specialIn K (.ref B) "__getattribute__"=some (some (.builtin "type.__getattribute__"))
 rd:readsIn K B (.type "type")=true
 at_:findCls K (.ref B) (.type "type") m=some (.val (.ref f))
 hd:handedIn (.ref f)=true
 kp:keepIn K (.ref f)=true
section
variable{X:Cx}{k:Nat}{f B:Addr}{fd:FuncData}{ps:Β}{sp:Sp}{dvs:Μ}{ds:Ξ}{x m:Str}{p pos apos:Pos}{e:Expr}{es:List Expr}{t:TA}{Ex:Value->Η->L2.St->Hp->Prop}
theorem I_.get{pins:Ω}{σ:L2.St}{H:Hp}{s:Shared}{pl:Sem Bool}{A:Around}{E:Κ}{Q:Value×Ξ->Shared->Prop}(c:I_ X.K B m f)(I:Inv X pins σ H s)(h:∀t,Q (.ref f,[]) { s with toks:=t }) :
  wpAny (model X.prog X.w) A (getMethod (.ref B) m pl) Q E s :=
 PySem.W.method_cls I.kIn c.ga (PySem.W.cls_value I.kIn c.rd c.at_ c.hd (h _))
theorem Z_{pl:Sem Bool}(c:I_ X.K B m f)(F:cF X.prog X.w X.K X.mg X.base (CXO X.prog X.w) k f fd ps sp)(hr:gU k X.A)(hg:Gl X x)(hm:X.mg x=some (.ref B))(hb:Binds X.K fd ps [])(hx:Kh X Ex)(ha:PA X (e::es) t)(hdb:(x==("__debug__":Str))=false:=by decide)
 (hst:starEach (e::es) X.env=(false,eval e X.env)::starEach es X.env:=by rfl)(hpl:(backTo pos (starEach es X.env)).any (·.1)=false:=by rfl)
 (ht:eval (.Call (.Attribute (.Name x p) m apos) (e::es) [] pos) X.env=(do
   let ov <- eval (.Name x p) X.env
   standAt apos.atName
   let(f,first) <- holding [ov] (getMethod ov m pl)
   callWith pos f first (backTo pos (starEach (e::es) X.env)) (backToKw pos (keywordEach [] X.env))):=by rfl) :
  PE X (.Call (.Attribute (.Name x p) m apos) (e::es) [] pos) (Du sp Ex t):=by
 intro pins s σ H Q I h;refine methodCall_KW (pl:=pl) (sG I hg hm (c.get I λtk=>?_) hdb) ht;refine callWith_K (first:=[]) (h₀:=X.base) I.ok.mod.kin c.kp (thn (ha pos pins _ σ H _ (I.tok tk) h) λus s2 ⟨vs,H2,I2,r,q2⟩=>⟨I2.kIn,?_⟩) hst hpl;exact adB (us:=us) (vs:=vs) F hr hb .nil hx I2 r (by rw[List.append_nil];exact q2)
end
section
variable{κ:Type}[DecidableEq κ]
noncomputable def sE(kvs:List (κ×V))(k:κ):Option V:=(kvs.find? λkv=>decide (kv.1=k)).map (·.2)
noncomputable def putK(kvs:List (κ×V))(k:κ)(v:V):List (κ×V) :=
 if(kvs.any λkv=>decide (kv.1=k))=true then kvs.map (λkv=>if kv.1=k then(kv.1,v)else kv)else kvs++[(k,v)]
theorem G_{p:κ×V}{r:List (κ×V)}{k:κ}(e:p.1=k):sE (p::r) k=some p.2:=by simp[sE,List.find?_cons,e]
theorem Ib{p:κ×V}{r:List (κ×V)}{k:κ}(e:¬p.1=k):sE (p::r) k=sE r k:=by simp[sE,List.find?_cons,e]
theorem Ro(kvs:List (κ×V))(k:κ)(v:V):(putK kvs k v).length<=kvs.length+1:=by
 unfold putK;split
 .rw[ak];exact Y3 _
 .rw[aA,List.length_cons,List.length_nil];exact aF _
theorem zB.isSome_eq{o:Option V}{u:Ζ}(r:zB o u):o.isSome=u.isSome:=by
 cases o with
 |none=>cases u with
  |none=>rfl
  |some _=>exact(show False from r).elim
 |some _=>cases u with
  |none=>exact(show False from r).elim
  |some _=>rfl
theorem zB.getD{o:Option V}{u:Ζ}{d:V}{d':Value}(r:zB o u)(rd:RelV d d'):RelV (o.getD d) (u.getD d'):=by
 cases o with
 |none=>cases u with
  |none=>exact rd
  |some _=>exact(show False from r).elim
 |some _=>cases u with
  |none=>exact(show False from r).elim
  |some _=>exact r
theorem KV.val{kvs:List (κ×V)}{vs:List (κ×Value)}(r:KV kvs vs)(k:κ):zB (sE kvs k) (valueAt vs k):=by
 unfold KV at r
 induction r with
 |nil=>exact True.intro
 |@cons p q ps qs h t ih =>
  obtain⟨h1,h2⟩:=h;by_cases e:p.1=k
  .have e':q.1=k:=h1.symm.trans e;have b:valueAt (q::qs) k=some q.2:=by simp[valueAt,List.find?_cons,e']
   rw[G_ e,b];exact h2
  .have e':¬q.1=k:=λz=>e (h1.trans z);have b:valueAt (q::qs) k=valueAt qs k:=by simp[valueAt,List.find?_cons,e']
   rw[Ib e,b];exact ih
theorem KV.any{kvs:List (κ×V)}{vs:List (κ×Value)}(r:KV kvs vs)(k:κ):(kvs.any λkv=>decide (kv.1=k))=vs.any λkv=>decide (kv.1=k):=by
 unfold KV at r
 induction r with
 |nil=>rfl
 |cons h t ih=>rw[List.any_cons,List.any_cons,ih,h.1]
theorem KV.repl{kvs:List (κ×V)}{vs:List (κ×Value)}(r:KV kvs vs)(k:κ){y:V}{u:Value}(ry:RelV y u) :
  KV (kvs.map λkv=>if kv.1=k then(kv.1,y)else kv) (vs.map λkv=>if kv.1=k then(kv.1,u)else kv):=by
 unfold KV at r ⊢
 induction r with
 |nil=>exact .nil
 |@cons p q ps qs h t ih =>
  rw[List.map_cons,List.map_cons];refine .cons ?_ ih;obtain⟨h1,h2⟩:=h;by_cases e:p.1=k
  .rw[ZY e,ZY (h1.symm.trans e)];exact⟨h1,ry⟩
  .rw[ZZ e,ZZ (λz=>e (h1.trans z))];exact⟨h1,h2⟩
theorem KV.put{kvs:List (κ×V)}{vs:List (κ×Value)}(r:KV kvs vs)(k:κ){y:V}{u:Value}(ry:RelV y u):KV (putK kvs k y) (stored vs k u):=by
 unfold putK stored;rw[r.any k];by_cases e:(vs.any λkv=>decide (kv.1=k))=true
 .rw[ZY e,ZY e];exact r.repl k ry
 .rw[ZZ e,ZZ e];exact Paired.snoc r ⟨rfl,ry⟩
theorem KV.length{kvs:List (κ×V)}{vs:List (κ×Value)}(r:KV kvs vs):kvs.length=vs.length:=Paired.length r
end
theorem RW{P:Program}{w:World}{k:Key}{u:Value}(r:RelV (kV k) u):(mH P w).is k u=true:=by
 cases k with
 |inl i=>obtain⟨t,e⟩:=(show ∃t,u=Value.int i t from r);subst e;exact RP P w i t
 |inr x=>obtain⟨t,e⟩:=(show ∃t,u=Value.str x t from r);subst e;exact Tc P w x t
section
variable{P:Program}{w:World}{H:Hp}{h:Heap}{a:Addr}
theorem agQ{u:HO}(ok:HOk P w H h)(e:Rd H a u):eF P w H h a u:=e.ok ok
theorem JC{kvs:List (Key×V)}(ok:HOk P w H h)(e:Rd H a (.dK kvs)):kvs.length<=sizeLine/\(a==sysModules)=false/\∃vs,KV kvs vs/\h.DictOf (mH P w) a vs :=
 show eF P w H h a (.dK kvs)from agQ ok e
theorem ahP{kvs:List (Key×V)}(ok:HOk P w H h)(e:H a=some (.dK kvs)):kvs.length<=sizeLine/\(a==sysModules)=false/\∃vs,KV kvs vs/\h.DictOf (mH P w) a vs:=JC ok (.inl e)
end
def yI(H:Hp)(a:Addr)(y:V)(r:Option V):Prop :=
 (∃kvs k,Rd H a (.dK kvs)/\y=kV k/\r=sE kvs k)\/False
def Uj(H:Hp)(a:Addr)(y v:V)(H':Hp):Prop :=
 (∃kvs k,H a=some (.dK kvs)/\y=kV k/\kvs.length<sizeLine/\H'=upd H a (.dK (putK kvs k v)))\/False
theorem yI.k{H:Hp}{a:Addr}{kvs:List (Key×V)}{k:Key}(e:H a=some (.dK kvs)):yI H a (kV k) (sE kvs k):=.inl ⟨kvs,k,.inl e,rfl,rfl⟩
theorem Uj.k{H:Hp}{a:Addr}{kvs:List (Key×V)}{k:Key}{v:V}(e:H a=some (.dK kvs))(hl:kvs.length<sizeLine):Uj H a (kV k) v (upd H a (.dK (putK kvs k v))):=.inl ⟨kvs,k,e,rfl,hl,rfl⟩
section
variable{X:Cx}{pins:Ω}{σ:St}{H:Hp}{s:Shared}{a:Addr}{y v:V}{u r:Value}{o:Option V}{A:Around}{E:Κ}
theorem Inv.big(I:Inv X pins σ H s):sysModules<s.heap.objs.size:=by
 have h:mainGlobals<s.heap.objs.size:=(I.mod.glob.keeps I.bk).lt;exact Nat.lt_trans (by decide) h
theorem XC{Q:Κ}(hu:A.units+1<cLine)(I:Inv X pins σ H s)(g:yI H a y (some v))(ry:RelV y u)(h:∀w' s',Inv X pins σ H s'->RelV v w'->Q w' s') :
  wpAny (model X.prog X.w) A (getItem (.ref a) u) Q E s:=by
 rcases g with⟨kvs,k,e,ey,l⟩|hF
 .subst ey;obtain⟨z,hd,vs,rel,dd⟩:=JC I.hok e;obtain⟨w',hw,rw'⟩:=zB.some_of (v:=v) (o:=valueAt vs k) (by rw[l];exact rel.val k);exact wpAny_getItem_of (RW ry) dd.mapOf hw (h w' _ (I.tok _) rw')
 .exact hF.elim
theorem ajy{Q:Κ}(hu:A.units+1<cLine)(I:Inv X pins σ H s)(g:yI H a y o)(ry:RelV y u)(h:∀s',Inv X pins σ H s'->Q (.bool o.isSome) s') :
  wpAny (model X.prog X.w) A (compareOp .In u (.ref a)) Q E s:=by
 rcases g with⟨kvs,k,e,ey,l⟩|hF
 .subst ey;obtain⟨z,hd,vs,rel,dd⟩:=JC I.hok e;refine wpAny_in_of (RW ry) hd dd.mapOf ?_;rw[<- (rel.val k).isSome_eq,<- l];exact h _ (I.tok _)
 .exact hF.elim
theorem acA{Q:Κ}(hu:A.units+1<cLine)(I:Inv X pins σ H s)(g:yI H a y o)(ry:RelV y u)(h:∀s',Inv X pins σ H s'->Q (.bool (!o.isSome)) s') :
  wpAny (model X.prog X.w) A (compareOp .NotIn u (.ref a)) Q E s:=by
 rcases g with⟨kvs,k,e,ey,l⟩|hF
 .subst ey;obtain⟨z,hd,vs,rel,dd⟩:=JC I.hok e;refine wpAny_notIn_of (RW ry) hd dd.mapOf ?_;rw[<- (rel.val k).isSome_eq,<- l];exact h _ (I.tok _)
 .exact hF.elim
theorem ad8{h':Heap}{t':Nat}{ob:HO}(I:Inv X pins σ H s)(mu:Mut (H a))(hs:Heap.SameBut a s.heap h')(he:∃q,h'.get? a=some q)(new:eF X.prog X.w (upd H a ob) h' a ob) :
  Inv X pins σ (upd H a ob) { s with heap:=h',toks:=t' } :=
 I.write (x:=a) (e:=a) mu (.inl rfl) (λb q hb z=>(hs.2 b hb).trans z) he new
theorem aeU{P:Program}{w:World}{H':Hp}{h':Heap}{kvs:List (Key×V)}{vs:List (Key×Value)}(z:kvs.length<=sizeLine)(hd:(a==sysModules)=false)(rel:KV kvs vs)(dd:h'.DictOf (mH P w) a vs) :
  eF P w H' h' a (.dK kvs):=⟨z,hd,vs,rel,dd⟩
theorem Yd{H':Hp}{Q:Unit->Shared->Prop}(hu:A.units+1<cLine)(I:Inv X pins σ H s)(g:Uj H a y v H')(ry:RelV y u)(rv:RelV v r)(h:∀s',Inv X pins σ H' s'->Q () s') :
  wpAny (model X.prog X.w) A (setItem (.ref a) u r) Q E s:=by
 rcases g with⟨kvs,k,e,ey,l,eH⟩|hF
 .subst ey eH;obtain⟨z,hd,vs,rel,dd⟩:=ahP I.hok e;have hz:vs.length<=sizeLine:=by rw[<- rel.length];exact z
  have hl:(putK kvs k v).length<=sizeLine:=by have:=Ro kvs k v;lia
  refine wpAny_setItem_pairs (hsz:=hz) (RW ry) dd λh' dd' hs=>h _ ?_;have he:∃q,h'.get? a=some q:=by obtain⟨q,_,_,hq,_⟩:=dd';exact⟨q,hq⟩
  exact ad8 I (by rw[e];exact True.intro) hs he (aeU hl hd (rel.put k rv) dd')
 .exact hF.elim
end
def air(i:Expr):Prop:=∀ov iv,subscripted i false ov iv=operate [ov,iv] (getItem ov iv)
theorem acK{prog:Program}{w:World}{A:Around}{E:Κ}{s:Shared}{env:Env}{value slice:Expr}{pos:Pos}{T id:String}{Q:Κ}
 (hl:typeLookup (.type T) "__getitem__"=pure (some (.builtin id)))(hs:air slice)
 (h:wpAny (model prog w) A (eval value env) (λo s₁=>wpAny (model prog w) A (eval slice env) (λi s₂=>s₂.TypeIs o T/\wpAny (model prog w) A (getItem o i) Q E s₂) E s₁) E s) :
  wpAny (model prog w) A (eval (.Subscript value slice pos) env) Q E s:=by
 refine Subscript_ (wpAny_mono h (λo s₁ h₁=>wpAny_mono h₁ (λi s₂ h₂=>?_) λ_ _ x=>x) λ_ _ x=>x);obtain⟨hT,h₂⟩:=h₂;unfold subscriptTail;refine ZU ?_;rw[getitemInPython_of_ne hT.not_modules];refine ZU (wpAny_specialOf hT hl ?_);have fin:wpAny (model prog w) A (subscripted slice false o i) (λr s₃=>wpAny (model prog w) A (letTemporaryGo value o r >>= λ_=>pure r) Q E s₃) E s₂:=by
  rw[hs o i];exact wpAny_operating (wpAny_mono h₂ (λr s₃ h₃=>ZU (wpAny_letTemporaryGo (ZT h₃))) λ_ _ x=>x)
 first
  |exact ZT (ZU fin)
  |exact ZU (ZT (ZU fin))
  |exact ZU fin
theorem QT{X:Cx}{pins:Ω}{σ:St}{H:Hp}{s:Shared}{a:Addr}{y:V}{o:Option V}(I:Inv X pins σ H s)(g:yI H a y o):s.TypeIs (.ref a) "dict":=by
 rcases g with⟨kvs,k,e,_,_⟩|hF
 .obtain⟨_,_,vs,_,dd⟩:=JC I.hok e;exact dd.typeIs
 .exact hF.elim
def VP(td ty:TE):TE:=λσ H Q=>td σ H λx H1=>ty σ H1 λy H2=>∃a v,x=.ref a/\yI H2 a y (some v)/\Q v H2
def adA(ty td:TE):TE:=λσ H Q=>ty σ H λy H1=>td σ H1 λx H2=>∃a o,x=.ref a/\yI H2 a y o/\Q (.bl o.isSome) H2
def FZ(ty td:TE):TE:=λσ H Q=>ty σ H λy H1=>td σ H1 λx H2=>∃a o,x=.ref a/\yI H2 a y o/\Q (.bl (!o.isSome)) H2
def Wc(td ty tv:TE):TS:=λD σ H=>tv σ H λv H1=>td σ H1 λx H2=>ty σ H2 λy H3=>∃a H4,x=.ref a/\Uj H3 a y v H4/\D.nx σ H4
section
variable{X:Cx}{o i e value:Expr}{pos pos' tpos:Pos}{td ty tv:TE}
theorem O4(hu:X.A.units+1<cLine)(ho:PE X o td)(hi:PE X i ty)(hs:air i):PE X (.Subscript o i pos) (VP td ty):=by
 intro pins s σ H Q I h;refine acK PySem.F.slot_dict_getitem.lookup hs (thn (ho pins s σ H _ I h) λu s1 ⟨x,H1,I1,rx,q1⟩=>thn (hi pins s1 σ H1 _ I1 q1) λiv s2 hP=>?_);obtain⟨y,H2,I2,ry,a,v,ex,g,q2⟩:=hP;subst ex;obtain rfl:u=Value.ref a:=rx;exact⟨QT I2 g,XC hu I2 g ry λw' s3 I3 rw'=>⟨v,H2,I3,rw',q2⟩⟩
theorem aaH(hu:X.A.units+1<cLine)(hi:PE X i ty)(ho:PE X o td):PC X .In i o (adA ty td):=by
 intro pins s σ H Q I h;refine thn (hi pins s σ H _ I h) λiv s1 ⟨y,H1,I1,ry,q1⟩=>thn (ho pins s1 σ H1 _ I1 q1) λu s2 hP=>?_;obtain⟨x,H2,I2,rx,a,ov,ex,g,q2⟩:=hP;subst ex;obtain rfl:u=Value.ref a:=rx;exact ajy hu I2 g ry λs3 I3=>⟨.bl ov.isSome,H2,I3,rfl,q2⟩
theorem Xn(hu:X.A.units+1<cLine)(hi:PE X i ty)(ho:PE X o td):PC X .NotIn i o (FZ ty td):=by
 intro pins s σ H Q I h;refine thn (hi pins s σ H _ I h) λiv s1 ⟨y,H1,I1,ry,q1⟩=>thn (ho pins s1 σ H1 _ I1 q1) λu s2 hP=>?_;obtain⟨x,H2,I2,rx,a,ov,ex,g,q2⟩:=hP;subst ex;obtain rfl:u=Value.ref a:=rx;exact acA hu I2 g ry λs3 I3=>⟨.bl (!ov.isSome),H2,I3,rfl,q2⟩
theorem Pg(hu:X.A.units+1<cLine)(ho:PE X o td)(hi:PE X i ty)(hv:PE X value tv)(hs:swapsWith value (some (.Subscript o i pos')) pos.line X.env=pure false) :
  PS X (.Assign [.Subscript o i pos'] value pos) (Wc td ty tv):=by
 intro pins s σ H D I h;refine wpAny_Assign_Subscript (thn (hv pins s σ H _ I h) λr s1 ⟨v,H1,I1,rv,q1⟩=>thn (ho pins s1 σ H1 _ I1 q1) λu s2 ⟨x,H2,I2,rx,q2⟩=>thn (hi pins s2 σ H2 _ I2 q2) λiv s3 hP=>?_) hs;obtain⟨y,H3,I3,ry,a,H4,ex,g,q3⟩:=hP;subst ex;obtain rfl:u=Value.ref a:=rx;exact Yd hu I3 g ry rv λs4 I4=>⟨σ,H4,I4,q3⟩
end
theorem YL{P:Program}{w:World}{H:Hp}(h:Heap)(hb:sysModules<h.objs.size):eF P w H (h.push { cls:=.type "dict",data:=.dict #[] }) h.objs.size (.dK []) :=
 ⟨bw _,beq_eq_false_iff_ne.mpr (Ne.symm (aR hb)),[],.nil,Heap.DictOf.new h⟩
def Nu:TE:=λ_ H Q=>∀p,H p=none->Q (.ref p) (upd H p (.dK []))
section
variable{X:Cx}{pos:Pos}
theorem Hi:PE X (.Dict [] [] pos) Nu:=λpins s σ H Q I h =>
 wpAny_Dict_empty ⟨.ref s.heap.objs.size,_,I.laid (a:=s.heap.objs.size) (o:=.dK []) (t':=s.toks) (λ_ _ q=>aG _ q) (aF _) (YL s.heap I.big),rfl,h _ (I.hok.fresh (aF _))⟩
end
structure M2(X:Cx)(o:Expr)(m:Str)(apos:Pos)(e f:Expr)(cpos:Pos):Prop where
 base:attributeBase o m X.env (eval o X.env)=eval o X.env
 few:((backTo cpos (starEach [e,f] X.env)).all (λx=>!x.1)&&(backToKw cpos (keywordEach [] X.env)).all (λx=>x.1.isSome)
  && decide (([e,f] : List Expr).length+([] : List Keyword).length+(if([] : List Keyword).isEmpty then 0 else 1)<30))=true
 line:(apos.endLine==cpos.line)=true
 trees:backTo cpos (starEach [e,f] X.env)=[(false,eval e X.env),(false,eval f X.env)]
def IsD(H:Hp)(a:Addr):Prop:=(∃kvs,Rd H a (.dK kvs))\/False
theorem afn{X:Cx}{pins:Ω}{σ:St}{H:Hp}{s:Shared}{a:Addr}(I:Inv X pins σ H s)(d:IsD H a) :
  s.TypeIs (.ref a) "dict"/\(∀b,Value.ref a=.ref b->∃ob,s.heap.get? b=some ob/\ob.dict=none)/\(a==sysModules)=false:=by
 rcases d with⟨kvs,e⟩|hF
 .obtain⟨_,hd,vs,_,dd⟩:=JC I.hok e;refine⟨dd.typeIs,λb q=>?_,hd⟩;cases q;obtain⟨ob,_,_,h1,h2,_⟩:=dd;exact⟨ob,h1,h2.2.1⟩
 .exact hF.elim
section
variable{X:Cx}{pins:Ω}{σ:St}{H:Hp}{s:Shared}{a:Addr}{y d:V}{u r:Value}{o:Option V}{A:Around}{E:Κ}
theorem ae9{Q:Κ}(hu:A.units+1<cLine)(I:Inv X pins σ H s)(g:yI H a y o)(ry:RelV y u)(rd:RelV d r)(h:∀w' s',Inv X pins σ H s'->RelV (o.getD d) w'->Q w' s') :
  wpAny (model X.prog X.w) A (call (.builtin "dict.get") [.ref a,u,r]) Q E s:=by
 rcases g with⟨kvs,k,e,ey,l⟩|hF
 .subst ey;obtain⟨z,hd,vs,rel,dd⟩:=JC I.hok e;refine call_meetsIn PySem.F.slot_dict_get dd.typeIs PySem.F.entry_dict_get (PySem.F.args_dict_get_3 _ _ _) (meets_dict_get_default (mH X.prog X.w) a (RW ry) hd r) ⟨_,dd.mapOf,h _ _ (I.tok _) ?_⟩;rw[l];exact(rel.val k).getD rd
 .exact hF.elim
end
def Qo(td ty tx:TE):TE:=λσ H Q=>td σ H λx H1=>∃a,x=.ref a/\IsD H1 a/\ty σ H1 λy H2=>tx σ H2 λz H3=>∃o,yI H3 a y o/\Q (o.getD z) H3
section
variable{X:Cx}{o e f:Expr}{apos cpos:Pos}{td ty tx:TE}
theorem abu(hu:X.A.units+1<cLine)(ho:PE X o td)(he:PE X e ty)(hf:PE X f tx)(m:M2 X o "get" apos e f cpos):PE X (.Call (.Attribute o "get" apos) [e,f] [] cpos) (Qo td ty tx):=by
 intro pins s σ H Q I h;refine wpAny_Call_method m.base m.few m.line PySem.F.plainAttrs_dict PySem.F.slot_dict_get PySem.F.type_dict_get (thn (ho pins s σ H _ I h) λu s1 hP=>?_);obtain⟨x,H1,I1,rx,a,ex,d,q1⟩:=hP;subst ex;obtain rfl:u=Value.ref a:=rx;obtain⟨t1,t2,_⟩:=afn I1 d;refine⟨t1,t2,?_⟩;rw[m.trees];refine Calls.callWith_builtin rfl (Calls.evalArgs_plain (Calls.spliced_cons (thn (he pins s1 σ H1 _ I1 q1) λiv s2 ⟨y,H2,I2,ry,q2⟩ =>
  Calls.spliced_cons (thn (hf pins s2 σ H2 _ I2 q2) λfv s3 ⟨z,H3,I3,rz,ov,g,q3⟩=>Calls.spliced_nil ?_))))
 exact ae9 hu I3 g ry rz λw' s4 I4 rw'=>⟨_,H3,I4,rw',q3⟩
end
def Itk(a:Addr)(o:Obj)(kvs:List (Key×V)):It:=⟨λi H=>H a=some (.frz o (.dK kvs))/\i<kvs.length,λi H v H'=>H'=H/\∃k y,kvs[i]?=some (k,y)/\v=kV k,λi H=>H a=some (.frz o (.dK kvs))/\i=kvs.length⟩
theorem agK{P:Program}{w:World}{k:Key}{u:Value}(h:(mH P w).is k u=true):RelV (kV k) u:=by
 have h:Dk k u=true:=h;cases k with
 |inl i =>
  cases u<;>simp[Dk,Value.isInt]at h
  .subst h;exact⟨_,rfl⟩
 |inr x =>
  cases u<;>simp[Dk,Value.isStrOf]at h
  .subst h;exact⟨_,rfl⟩
theorem KV.at{κ:Type}{kvs:List (κ×V)}{vs:List (κ×Value)}(r:KV kvs vs):∀{i:Nat}{k:κ}{y:V},kvs[i]?=some (k,y)->∃u,vs[i]?=some (k,u)/\RelV y u:=by
 unfold KV at r
 induction r with
 |nil=>intro i k y h;cases h
 |@cons p q ps qs h t ih =>
  intro i k y e;cases i with
  |zero =>
   rw[List.getElem?_cons_zero]at e;cases e;obtain⟨q1,q2⟩:=q;obtain⟨h1,h2⟩:=h;cases h1;exact⟨q2,rfl,h2⟩
  |succ i =>
   rw[List.getElem?_cons_succ]at e ⊢;exact ih e
theorem XD{P:Program}{w:World}{K:Frag}{tg:Expr}(it a:Addr)(o:Obj)(kvs:List (Key×V))(vs:List (Key×Value))(ep:Nat)(rel:KV kvs vs)(hD:∀h:Heap,h.get? a=some o->h.DictAt (mH P w) a vs ep) :
  Turn P w K tg (Itk a o kvs) [it] it (λi h=>h.IsKeyIter it a i vs.length ep) where
 mem:=by simp
 obj:=λi h st b hb=>by
  have e:b=it:=by simpa using hb
  subst e;obtain⟨o,ho,_,hd⟩:=st;exact⟨o,ho,λv z=>by rw[hd]at z;cases z⟩
 keep:=λi h h' st k=>let⟨o,ho,r⟩:=st;⟨o,k it (by simp) o ho,r⟩
 item:=by
  intro X hP hw hK hc i pins s σ H E I hf st hg;subst hP hw hK;obtain⟨hg,hlt⟩:=hg;obtain⟨ho,_⟩:=(show eF X.prog X.w H s.heap a (.frz o (.dK kvs))from I.hok a _ hg);obtain⟨f0,f1,f2,f3,f4,f5⟩:=hf it (by simp);obtain⟨⟨k,y⟩,hx⟩ : ∃p,kvs[i]?=some p:=⟨kvs[i],by simp[hlt]⟩;obtain⟨u,hu,ru⟩:=rel.at hx;refine wpAny_pyNext_dict_item st (hD _ ho) hu λkey h' hkey st' sb=>?_;have I1:Inv X pins σ H { s with heap:=h' }:=I.turned (t':=s.toks) (λb ob hb e=>(sb.2 b hb).trans e) f0 f1 f3 f4 f5;obtain⟨oi,e,c,d⟩:=id st';exact⟨key,rfl,QD (s:={ s with heap:=h' }) e c d (by decide) ⟨kV k,H,I1,agK hkey,⟨rfl,k,y,hx,rfl⟩,st',λb hb=>(hf b hb).1⟩⟩
 done:=by
  intro X hP hw hK hc i pins s σ H E I hf st hg;subst hP hw hK;obtain⟨hg,rfl⟩:=hg;obtain⟨ho,_⟩:=(show eF X.prog X.w H s.heap a (.frz o (.dK kvs))from I.hok a _ hg);obtain⟨f0,f1,f2,f3,f4,f5⟩:=hf it (by simp);have hl:=rel.length;exact wpAny_pyNext_dict_end (I.ok.hd hc) st (hD _ ho) (by simp;exact Nat.le_of_eq (Eq.symm hl)) λh' eb=>⟨rfl,I.turned (t':=s.toks) (λb ob hb e=>eb b ob hb e) f0 f1 f3 f4 f5⟩
 self:=λ_ _ _ _ _ st h=>wpAny_pyIter_keyiter st h
section
variable{X:Cx}{tg:Expr}
def aem(te:TE):TI:=λσ H R=>te σ H λx H1=>∃a kvs,x=.ref a/\H1 a=some (.dK kvs)/\∀o,R (Itk a o kvs) (upd H1 a (.frz o (.dK kvs)))
theorem acM{l:Expr}{tl:TE}(hl:PE X l tl):PI X tg l (aem tl):=by
 intro pins s σ H R I h;refine thn (hl pins s σ H _ I h) λv s1 hP=>?_;obtain⟨x,H1,I1,r1,a,kvs,ex,ha,q⟩:=hP;subst ex;cases r1;have ok:=(show eF X.prog X.w H1 s1.heap a (.dK kvs)from I1.hok a _ ha);obtain⟨z,hd,vs,rel,o,es,ep,e,ex,ed,ek,epr,en⟩:=ok;have hD:∀h:Heap,h.get? a=some o->h.DictAt (mH X.prog X.w) a vs ep:=λh e=>⟨o,es,e,ex,ed,ek,epr,en⟩;have I2:Inv X pins σ (upd H1 a (.frz o (.dK kvs))) s1:=by
  have:=I1.write (x:=a) (e:=a) (o:=.frz o (.dK kvs)) (h':=s1.heap) (t':=s1.toks) (by rw[ha];exact True.intro) (.inl rfl) (λb u hb z=>z) ⟨o,e⟩ ⟨e,z,hd,vs,rel,o,es,ep,e,ex,ed,ek,epr,en⟩;exact this
 refine wpAny_pyIter_dict hd (hD _ e) ?_;refine⟨s1.heap.objs.size,[s1.heap.objs.size],_,Itk a o kvs,_,rfl,I2.kept (t':=s1.toks) λb ob z=>aG _ z,XD _ a o kvs vs ep rel hD,⟨_,aY _ rfl,rfl,rfl⟩,λb hb=>?_,q o⟩;have e:b=s1.heap.objs.size:=by simpa using hb
 subst e;exact I2.fpOk (aF _) (I2.hok.fresh (aF _))
def tMG(g:TG):TG:=λv σ H Q=>∃R:L2.St->Hp->Prop,g v σ H R/\∀σ' H',R σ' H'->Q σ' H'
def tMT(t:TT):TT:=λσ H Q=>∃R:Bool->Hp->Prop,t σ H R/\∀b H',R b H'->Q b H'
theorem PG.mono{e:Expr}{g:TG}(h:PG X e g):PG X e (tMG g):=λpins s σ H v u Q I r hP=>by obtain⟨R,h1,h2⟩:=hP;exact thn (h pins s σ H v u R I r h1) λ_ s' hP=>by obtain⟨σ',H',I',q⟩:=hP;exact⟨σ',H',I',h2 σ' H' q⟩
theorem PTs.mono{ifs:List Expr}{t:TT}(h:PTs X ifs t):PTs X ifs (tMT t):=λpins s σ H Q I hP=>by obtain⟨R,h1,h2⟩:=hP;exact thn (h pins s σ H R I h1) λb s' hP=>by obtain⟨H',I',q⟩:=hP;exact⟨H',I',h2 b H' q⟩
def Fj(n:Nat)(gt:TG)(tc:TT)(te:TE)(x:V)(σ:L2.St)(H:Hp)(Y:VK)(No:Hp->Prop):Prop:=∀pre:L2.St,pre.length=n->gt x (pre++σ) H λσ2 H2=>∃pre':L2.St,pre'.length=n/\σ2=pre'++σ/\tc σ2 H2 λb H3 =>
 match b with
 |true=>te σ2 H3 Y
 |false=>No H3
theorem Fj.weak{n:Nat}{gt:TG}{tc:TT}{te:TE}{x:V}{σ:L2.St}{H:Hp}{Y Y':VK}{No No':Hp->Prop}(h:Fj n gt tc te x σ H Y No)(h1:∀y H',Y y H'->Y' y H')(h2:∀H',No H'->No' H'):Fj n (tMG gt) (tMT tc) (tM te) x σ H Y' No':=λpre hp =>
 ⟨_,h pre hp,λσ2 H2 ⟨pre',e1,e2,q⟩=>⟨pre',e1,e2,_,q,λb H3 z=>match b,z with
  |true,z=>⟨_,z,h1⟩
  |false,z=>h2 H3 z⟩⟩
theorem sV{K:Frag}{tl te:TE}{gt:TG}{tc:TT}{n:Nat}{σ:L2.St}{H:Hp}{Q:VK}(h:tl σ H λx H1=>∃a xs,x=.ref a/\H1 a=some (.lst xs)/\xs.length<=sizeLine/\∀D,H1 D=none->∃J:Nat->Μ->Hp->Prop,J 0 [] (upd H1 D (.lst [])) /\
   (∀k x ys Hc,xs[k]?=some x->J k ys Hc->ys.length<=k->Hc a=some (.lst xs)->Fj n gt tc te x σ Hc (λy H2=>H2 D=some (.lst ys)/\H2 a=some (.lst xs)/\J (k+1) (ys++[y]) (upd H2 D (.lst (ys++[y])))) λH2=>H2 a=some (.lst xs)/\J (k+1) ys H2) /\
   ∀ys Hc,J xs.length ys Hc->ys.length<=xs.length->Q (.ref D) Hc):mV (Fd K (tM tl)) n (tMG gt) (tMT tc) (tM te) σ H Q:=by
 refine⟨_,h,?_⟩;rintro x H1 ⟨a,xs,rfl,hx,hz,rest⟩;refine⟨a,rfl,⟨xs,.of hx⟩,λD hD=>?_⟩;obtain⟨J,j0,step,fin⟩:=rest D hD;have ne:a≠D:=bH hx hD;refine⟨λk m ys Hc=>k<=xs.length/\m=xs.length-k/\ys.length<=k/\Hc a=some (.lst xs)/\J k ys Hc,⟨_,bw _,rfl,bw _,(bK ne).trans hx,j0⟩,?_⟩;rintro k m ys Hc ⟨hk,rfl,hy,hx',j⟩;by_cases e:k=xs.length
 .subst e;exact .inl ⟨⟨xs,.of hx',aF _⟩,fin ys Hc j hy⟩
 .have hlt:k<xs.length:=by exact XY hk e
  refine .inr ⟨⟨xs,_,.of hx',aj hlt⟩,?_⟩;rintro x H'' ⟨rfl,y⟩;refine(step k x ys H'' (y xs (.of hx')) j hy hx').weak ?_ ?_
  .rintro yv H2 ⟨z1,z2,z3⟩;refine⟨by lia,z1,xs.length-(k+1),by lia,by exact hlt,rfl,?_,?_,z3⟩
   .rw[aA];simp;omega
   .rw[bK ne];exact z2
  .rintro H2 ⟨z2,z3⟩;exact⟨xs.length-(k+1),by lia,by exact hlt,rfl,by exact aM hy (X2 _ _),z2,z3⟩
theorem Ti{tl te:TE}{gt:TG}{tc:TT}{n:Nat}{σ:L2.St}{H:Hp}{Q:VK}(h:tl σ H λx H1=>∃a kvs,x=.ref a/\H1 a=some (.dK kvs)/\kvs.length<=sizeLine/\∀o D,upd H1 a (.frz o (.dK kvs)) D=none->∃J:Nat->Μ->Hp->Prop,J 0 [] (upd (upd H1 a (.frz o (.dK kvs))) D (.lst [])) /\
   (∀i k y ys Hc,kvs[i]?=some (k,y)->J i ys Hc->ys.length<=i->Hc a=some (.frz o (.dK kvs))->Fj n gt tc te (kV k) σ Hc (λy H2=>H2 D=some (.lst ys)/\H2 a=some (.frz o (.dK kvs))/\J (i+1) (ys++[y]) (upd H2 D (.lst (ys++[y])))) λH2=>H2 a=some (.frz o (.dK kvs))/\J (i+1) ys H2) /\
   ∀ys Hc,J kvs.length ys Hc->ys.length<=kvs.length->Q (.ref D) Hc):mV (aem (tM tl)) n (tMG gt) (tMT tc) (tM te) σ H Q:=by
 refine⟨_,h,?_⟩;rintro x H1 ⟨a,kvs,rfl,hx,hz,rest⟩;refine⟨a,kvs,rfl,hx,λo D hD=>?_⟩;obtain⟨J,j0,step,fin⟩:=rest o D hD;have ne:a≠D:=bH bI hD;refine⟨λk m ys Hc=>k<=kvs.length/\m=kvs.length-k/\ys.length<=k/\Hc a=some (.frz o (.dK kvs))/\J k ys Hc,⟨_,bw _,rfl,bw _,(bK ne).trans bI,j0⟩,?_⟩;rintro k m ys Hc ⟨hk,rfl,hy,hx',j⟩;by_cases e:k=kvs.length
 .subst e;exact .inl ⟨⟨hx',rfl⟩,fin ys Hc j hy⟩
 .have hlt:k<kvs.length:=by exact XY hk e
  refine .inr ⟨⟨hx',hlt⟩,?_⟩;rintro x H'' ⟨rfl,kk,yy,hkk,rfl⟩;refine(step k kk yy ys H'' hkk j hy hx').weak ?_ ?_
  .rintro yv H2 ⟨z1,z2,z3⟩;refine⟨by lia,z1,kvs.length-(k+1),by lia,by exact hlt,rfl,?_,?_,z3⟩
   .rw[aA];simp;omega
   .rw[bK ne];exact z2
  .rintro H2 ⟨z2,z3⟩;exact⟨kvs.length-(k+1),by lia,by exact hlt,rfl,by exact aM hy (X2 _ _),z2,z3⟩
end
theorem Same.tup{K:Frag}{H H':Hp}{a:Addr}{xs:Μ}(e:Same H H')(h:SqT K H a xs):SqT K H' a xs:=by
 rcases h with(h|⟨o,h⟩)|h
 .exact .inl (.inl (e _ _ h))
 .exact .inl (.inr ⟨o,e _ _ h⟩)
 .exact .inr h
theorem SqT.updO{K:Frag}{H:Hp}{a l:Addr}{xs:Μ}{o u:HO}(h:SqT K H a xs)(hl:H l=some o)(h1:∀ys,o≠.tup ys)(h2:∀ob ys,o≠.frz ob (.tup ys)):SqT K (upd H l u) a xs:=by
 rcases h with(h|⟨ob,h⟩)|h
 .exact .inl (.inl ((bK (i_ h hl (λz=>h1 xs z.symm))).trans h))
 .exact .inl (.inr ⟨ob,(bK (i_ h hl (λz=>h2 ob xs z.symm))).trans h⟩)
 .exact .inr h
mutual
inductive oX(K:Frag)(H:Hp):V->PyData->Prop
 |non:oX K H .non .none
 |bl (b:Bool):oX K H (.bl b) (.bool b)
 |int (i:Int):oX K H (.int i) (.int i)
 |str (x:Str):oX K H (.str x) (.str x)
 |lst {a:Addr}{xs:Μ}{ds:List PyData} : H a=some (.lst xs)->dU K H xs ds->oX K H (.ref a) (.list ds)
 |tup {a:Addr}{xs:Μ}{ds:List PyData} : SqT K H a xs->dU K H xs ds->oX K H (.ref a) (.tuple ds)
inductive dU(K:Frag)(H:Hp):Μ->List PyData->Prop
 |nil:dU K H [] []
 |cons {x:V}{xs:Μ}{d:PyData}{ds:List PyData} : oX K H x d->dU K H xs ds->dU K H (x::xs) (d::ds)
end
mutual
theorem oX.same{K:Frag}{H H':Hp}(S:Same H H'):∀{x:V}{d:PyData},oX K H x d->oX K H' x d
 |_,_,.non=>.non
 |_,_,.bl b=>.bl b
 |_,_,.int i=>.int i
 |_,_,.str x=>.str x
 |_,_,.lst e h=>.lst (S _ _ e) (dU.same S h)
 |_,_,.tup e h=>.tup (S.tup e) (dU.same S h)
theorem dU.same{K:Frag}{H H':Hp}(S:Same H H'):∀{xs:Μ}{ds:List PyData},dU K H xs ds->dU K H' xs ds
 |_,_,.nil=>.nil
 |_,_,.cons h t=>.cons (oX.same S h) (dU.same S t)
end
theorem dU.ints(K:Frag)(H:Hp):∀ns:List Int,dU K H (ns.map V.int) (ns.map PyData.int)
 |[]=>.nil
 |n::ns=>.cons (.int n) (dU.ints K H ns)
section
variable{X:Cx}{pins:Ω}{σ:L2.St}{H:Hp}{s:Shared}
mutual
theorem Inv.readsK(I:Inv X pins σ H s):∀{x:V}{d:PyData}{v:Value},oX X.K H x d->RelV x v->∃as,Reads s.heap v d as
 |_,_,_,.non,r=>by cases r;exact⟨_,.none⟩
 |_,_,_,.bl b,r=>by cases r;exact⟨_,.bool b⟩
 |_,_,_,.int i,r=>by obtain⟨t,rfl⟩:=r;exact⟨_,.int i t⟩
 |_,_,_,.str x,r=>by obtain⟨t,rfl⟩:=r;exact⟨_,.str x t⟩
 |_,_,_,.lst e h,r=>by
  cases r;obtain⟨its,rv,⟨o,ho,hc,n,hd⟩⟩:=I.lstIs e;obtain⟨as,q⟩:=Inv.readsAllK I h rv;exact⟨_,.list ho hc hd q⟩
 |_,_,_,.tup e h,r=>by
  cases r;obtain⟨its,rv,⟨o,ho,hc,n,hd⟩,_⟩:=I.tuple e;obtain⟨as,q⟩:=Inv.readsAllK I h rv;exact⟨_,.tuple ho hc hd q⟩
theorem Inv.readsAllK(I:Inv X pins σ H s):∀{xs:Μ}{ds:List PyData}{vs:Ξ},dU X.K H xs ds->Vals xs vs->∃as,ReadsAll s.heap vs ds as
 |_,_,_,.nil,r=>by cases r;exact⟨_,.nil⟩
 |_,_,_,.cons h t,r=>by
  cases r with
  |cons r1 r2 =>
   obtain⟨a,q1⟩:=Inv.readsK I h r1;obtain⟨b,q2⟩:=Inv.readsAllK I t r2;exact⟨_,.cons q1 q2⟩
end
def aaJ(K:Frag)(neg:Bool):R2:=λx y H Q=>∃d e,oX K H x d/\oX K H y e/\SeqAt.shaped d=true/\SeqAt.shaped e=true/\Q (.bl (if neg then !PyData.eqv d e else PyData.eqv d e)) H
theorem aew(hu:X.A.units+64<cLine):OpR X (compareOp .NotEq) (aaJ X.K true):=by
 intro pins s σ H x y v u Q I rx ry h;obtain⟨d,e,hd,he,sd,se,q⟩:=h;obtain⟨as,ra⟩:=I.readsK hd rx;obtain⟨bs,rb⟩:=I.readsK he ry;exact SeqAt.compareNe_shaped ra rb sd se hu ⟨.bl _,H,I,rfl,q⟩
end
section
variable{X:Cx}
def Wv(K:Frag):Μ->Hp->VK->Prop:=λxs H Q=>∃p ys,xs=[.ref p]/\SqT K H p ys/\Q (.int ys.length) H
theorem Mf:gF X (.builtin "len") (Wv X.K):=vf.imp λxs H Q hP=>by obtain⟨p,ys,a,b,c⟩:=hP;exact⟨p,ys,a,.inr b,c⟩
def Gi(K:Frag):Μ->Hp->VK->Prop:=λxs H Q=>∃p T ys,xs=[.ref p,.ty T]/\T∈["bool","int","str","list","tuple","dict"]/\SqT K H p ys/\Q (.bl (Xo "tuple" T)) H
theorem sY:gF X (.builtin "isinstance") (Gi X.K):=by
 intro pins s σ H xs us Q I r h;obtain⟨p,T,ys,rfl,hT,hp,q⟩:=h;obtain⟨u,v,rfl,ru,rv⟩:=r.two;cases ru;cases rv;obtain⟨its,rvs,⟨o,ho,hc,n,hd⟩,_⟩:=I.tuple hp;refine kia_one (kitx_tuple (a:=p)) I.kIn ⟨o,ho,hc⟩ (W8 (K:=X.K) (t:="tuple") (by decide) hT) (λz=>nomatch z) λtk=>⟨.bl _,H,I.tok _,rfl,q⟩
end
def OkI(P:Program)(w:World)(K:Frag)(mg:Str->Ζ)(base:Heap)(CX:CXT)(k:Nat)(f:Addr)(ps:Β)(sp:Sp):Prop:=∃fd,cF P w K mg base CX k f fd ps sp/\Binds K fd ps []
def Bk(K:Frag)(x qual:Str)(st:Stmt)(ps:Β)(f:Addr):Prop:=∃fd,Fun K x qual st f fd/\∀us:Ξ,us.length=ps.length->bindArgs fd ⟨us,[]⟩=pure (ps.zip us)
theorem Bk.ok{P:Program}{w:World}{K:Frag}{mg:Str->Ζ}{base:Heap}{CX:CXT}{k:Nat}{x qual:Str}{st:Stmt}{ps:Β}{f:Addr}{sp:Sp}(h:Bk K x qual st ps f)(hf:∀fd,Fun K x qual st f fd->cF P w K mg base CX k f fd ps sp):OkI P w K mg base CX k f ps sp :=
 by obtain⟨fd,a,b⟩:=h;exact⟨fd,hf fd a,.all b⟩
theorem acT{K:Frag}{x qual:Str}{st:Stmt}{ps:Β}{f:Addr}{oc:Value}{od an:Η}{osl:Array (Ζ)}{kV doc pm cdv ct:Value}
 (l:K.lookup f=some ⟨oc,od,.func (PySem.W.fnOf x qual (iI st) (fQ st) (bN st) .none kV doc pm an cdv ct),osl⟩)(c:codeIn K cdv qual=true)(k:keepIn K (.ref f)=true)
 (hb:∀(kV doc pm:Value)(an:Η)(cdv ct:Value)(us:Ξ),us.length=ps.length->bindArgs (PySem.W.fnOf x qual (iI st) (fQ st) (bN st) .none kV doc pm an cdv ct) ⟨us,[]⟩=pure (ps.zip us)):Bk K x qual st ps f :=
 ⟨_,U_ l c k,hb kV doc pm an cdv ct⟩
section
variable{X:Cx}{k:Nat}{f C B:Addr}{ps:Β}{sp:Sp}{x m:Str}{p pos apos:Pos}{e o:Expr}{es:List Expr}{ta:TE}{t:TA}{Ex:Value->Η->L2.St->Hp->Prop}
theorem PE.any{ι:Sort _}{R:ι->Prop}{a:Expr}{ts:ι->TE}(h:∀i,R i->PE X a (ts i)):PE X a (λσ H Q=>∃i,R i/\ts i σ H Q):=λpins s σ H Q I hP=>by obtain⟨i,r,q⟩:=hP;exact h i r pins s σ H Q I q
def Mt(C:Addr)(sp:Sp)(Ex:Value->Η->L2.St->Hp->Prop)(t:TA):TE:=λσ H Q=>t σ H λvs H1=>∀x dx,H1 x=none->H1 dx=none->dx≠x->sp (.ref x::vs) (upd (upd H1 dx (.own x)) x (.ins C dx [])) (λv H2=>v=.non/\Q (.ref x) H2) λE d H'=>Ex E d σ H'
theorem wz(M:Mk X.K C f)(G:OkI X.prog X.w X.K X.mg X.base (CXO X.prog X.w) k f ps sp)(hr:gU (k+1) X.A)(hg:Gl X x)(hm:X.mg x=some (.ref C))(hx:Kh X Ex)(ha:PA X (e::es) t)(hdb:(x==("__debug__":Str))=false:=by decide)
 (he:starEach (e::es) X.env=(false,eval e X.env)::starEach es X.env:=by rfl)(hpl:(backTo pos (starEach es X.env)).any (·.1)=false:=by rfl):PE X (.Call (.Name x p) (e::es) [] pos) (Mt C sp Ex t):=by
 obtain⟨fd,F,hb⟩:=G;refine(aaL M F hr hg hm hb .nil hx ha.mono hdb he hpl).imp λσ H Q h=>⟨_,h,λvs H1 q x dx h1 h2 h3=>?_⟩;rw[List.append_nil];exact q x dx h1 h2 h3
def Jj(C:Addr)(m:Str)(sp:Sp)(ta:TE)(t:TA):TE:=λσ H Q=>ta σ H λx H1=>∃a dx fs,x=.ref a/\H1 a=some (.ins C dx fs)/\fs.lookup m=none/\t σ H1 λvs H2=>sp (x::vs) H2 Q E0
theorem xr{pl:Sem Bool}(he:PE X o ta)(c:Cls X.K C)(hm:Meth X.K C m f)(G:OkI X.prog X.w X.K X.mg X.base CX0 k f ps sp)(hr:gU k X.A)(ha:PA X (e::es) t)
 (hst:starEach (e::es) X.env=(false,eval e X.env)::starEach es X.env:=by rfl)(hpl:(backTo pos (starEach es X.env)).any (·.1)=false:=by rfl)
 (ht:eval (.Call (.Attribute o m apos) (e::es) [] pos) X.env=(do
   let ov <- eval o X.env
   standAt apos.atName
   let(f,first) <- holding [ov] (getMethod ov m pl)
   callWith pos f first (backTo pos (starEach (e::es) X.env)) (backToKw pos (keywordEach [] X.env))):=by rfl) :
  PE X (.Call (.Attribute o m apos) (e::es) [] pos) (Jj C m sp ta t):=by
 obtain⟨fd,F,hb⟩:=G;refine(adK (pl:=pl) he.mono c hm F hr hb .nil W2 ha.mono hst hpl ht).imp λσ H Q h=>⟨_,h,?_⟩;rintro x H1 ⟨a,dx,fs,h1,h2,h3,h4⟩;refine⟨a,dx,fs,h1,h2,h3,_,h4,λvs H2 q=>?_⟩;show sp (x::(vs++[])) H2 Q E0;rw[List.append_nil];exact q
theorem qN{pl:Sem Bool}(he:PE X o ta)(c:Cls X.K C)(hm:Meth X.K C m f)(G:OkI X.prog X.w X.K X.mg X.base CX0 k f ps sp)(hr:gU k X.A)
 (ht:eval (.Call (.Attribute o m apos) [] [] pos) X.env=(do
   let ov <- eval o X.env
   standAt apos.atName
   let(f,first) <- holding [ov] (getMethod ov m pl)
   callWith pos f first (backTo pos (starEach [] X.env)) (backToKw pos (keywordEach [] X.env))):=by rfl) :
  PE X (.Call (.Attribute o m apos) [] [] pos) (Jj C m sp ta Ij):=by
 obtain⟨fd,F,hb⟩:=G;refine(abo (pl:=pl) he.mono c hm F hr hb .nil W2 ht).imp λσ H Q h=>⟨_,h,?_⟩;rintro x H1 ⟨a,dx,fs,h1,h2,h3,h4⟩;exact⟨a,dx,fs,h1,h2,h3,h4⟩
theorem BP{pl:Sem Bool}(c:I_ X.K B m f)(G:OkI X.prog X.w X.K X.mg X.base (CXO X.prog X.w) k f ps sp)(hr:gU k X.A)(hg:Gl X x)(hm:X.mg x=some (.ref B))(hx:Kh X Ex)(ha:PA X (e::es) t)(hdb:(x==("__debug__":Str))=false:=by decide)
 (hst:starEach (e::es) X.env=(false,eval e X.env)::starEach es X.env:=by rfl)(hpl:(backTo pos (starEach es X.env)).any (·.1)=false:=by rfl)
 (ht:eval (.Call (.Attribute (.Name x p) m apos) (e::es) [] pos) X.env=(do
   let ov <- eval (.Name x p) X.env
   standAt apos.atName
   let(f,first) <- holding [ov] (getMethod ov m pl)
   callWith pos f first (backTo pos (starEach (e::es) X.env)) (backToKw pos (keywordEach [] X.env))):=by rfl) :
  PE X (.Call (.Attribute (.Name x p) m apos) (e::es) [] pos) (Du sp Ex t):=by
 obtain⟨fd,F,hb⟩:=G;exact Z_ (pl:=pl) c F hr hg hm hb hx ha hdb hst hpl ht
theorem jo{D:Addr}{pos:Pos}(hg:Gl X x)(hm:X.mg x=some (.ref D))(hd:(x==("__debug__":Str))=false:=by decide):PE X (.Name x pos) (tC (.ref D)):=MF hg hm rfl hd
end
theorem WW{X:Cx}{K:Frag}(e:X.K=K)(hu:X.A.units+64<cLine):OpR X (compareOp .NotEq) (aaJ K true):=e ▸ aew hu
theorem L_{h:Heap}{o ob:Obj}{b:Addr}(e:(h.push o).get? b=some ob)(hs:b≠h.objs.size):h.get? b=some ob:=by
 obtain⟨e1,e2⟩:=Heap.get?_some_iff.mp e;refine Heap.get?_some_iff.mpr ⟨?_,e2⟩;cases h;simpa[Heap.push,Array.getElem?_push,hs]using e1
section
variable{X:Cx}
theorem R5:∀{ys:Β}{vs:Ξ},Vals (ys.map V.str) vs->StrsAre vs ys
 |[],_,h=>by cases h;exact .nil
 |y::ys,_,h=>by
  rw[List.map_cons]at h;cases h with
  |cons a b =>
   obtain⟨t,rfl⟩:=a;exact .cons y t (R5 b)
def rJoin:V->Μ->Hp->VK->Prop:=λx vs H Q=>∃a l ys,x=.str a/\vs=[.ref l]/\H l=some (.lst (ys.map V.str))/\(ys.map (·.length)).sum+ys.length*a.length<=16777216/\Q (.str (Txt.join a ys)) H
theorem adQ:MtM X "str.join" rJoin:=by
 intro pins s σ H x vs v us Q I rx rv h;obtain⟨a,l,ys,rfl,rfl,hl,hz,q⟩:=h;obtain⟨t,rfl⟩:=rx;obtain⟨u,rfl,ru⟩:=rv.one;cases ru;obtain⟨_,its,n,r,_,e⟩:=I.lstM hl;exact join_list ⟨_,e,rfl,n,rfl⟩ (by simpa using R5 r) hz λt' k=>⟨.str _,H,I.tok _,⟨_,rfl⟩,q⟩
structure ajz(K:Frag)(C:Addr):Prop where
 ha:findIn K (.ref C) "__class__"=some (some (.builtin "object.__class__"))
 hn:specialIn K (.builtin "object.__class__") "__get__"=some (some (.builtin "getset_descriptor.__get__"))
 tk:takesIn K (.builtin "object.__class__")=some true
 hm:mroIn K C (.type "object")=some true
def ZL(K:Frag):Μ->Hp->VK->Prop:=λxs H Q=>∃a D C dx fs b,xs=[.ref a,.ref D]/\H a=some (.ins C dx fs)/\Cls K C/\ajz K C/\kitOne K (.ref C) (.ref D)=some b/\Q (.bl b) H
def aar:Μ->Hp->VK->Prop:=λxs H Q=>∃i j,xs=[.int i,.int j]/\Q (.int (if j<i then j else i)) H
def Ws:Μ->Hp->VK->Prop:=λxs H Q=>∃i j,xs=[.int i,.int j]/\Q (.int (if j>i then j else i)) H
theorem Yg(hc:X.calm=true):gF X (.builtin "max") Ws:=Xq hc
end
section
variable{X:Cx}{elt iter:Expr}{pos:Pos}{scope:Scope}{wi:TI}{te:TE}
theorem abf{i0:Nat}{y0:Str}{py spos:Pos}{xs N':Β}{tg:Expr}{ifs:List Expr}{gt:TG}{tc:TT}(hc:X.calm=true)(hsh:LQ xs X.N=N')(hN:(xs++N').Nodup)(hkind:scope.kind=.function)(hcell:∀y∈scope.names,y.2≠.cell)(hnames:∀y∈scope.names,y.2=.local->scope.names.lookup y.1=some .local)
 (hfree:∀y∈scope.names,y.2=.free->X.env.kindOf y.1=some .cell\/X.env.kindOf y.1=some .free)(hloc:∀y∈X.N,y∉xs->(relabel scope X.env).names.lookup y≠some .local)(hq:∀y∈X.N,y∈xs->(relabel scope X.env).names.lookup (hid y)=none)(hi:PI X tg iter wi)
 (hg:∀C s₀ H₀ ex pn,PG (X.compG N' scope xs C s₀ H₀ ex pn) tg gt)(ht:∀C s₀ H₀ ex pn,PTs (X.compG N' scope xs C s₀ H₀ ex pn) ifs tc)(he:∀C s₀ H₀ ex pn,PE (X.compG N' scope xs C s₀ H₀ ex pn) elt te)(hgy:PG X (.Name y0 py) (cN i0))(hsw:swapsWith (.ListComp elt [⟨tg,iter,ifs,0⟩] scope pos) (some (.Name y0 py)) spos.line X.env=pure true)(hs:∀z,foldedSetIterable iter X.env z=pure z:=by intro _;rfl) :
  PS X (.Assign [.Name y0 py] (.ListComp elt [⟨tg,iter,ifs,0⟩] scope pos) spos) (Ke (mV wi xs.length gt tc te) (cN i0)):=by
 intro pins s σ H D0 I h;have h:mV wi xs.length gt tc te σ H (λx H1=>cN i0 x σ H1 D0.nx):=h;rw[exec_Assign_Name_used _ _ _ _ hsw];refine ZU (wpAny_standAt (ZU ?_));show wpAny _ X.A (comprehension (.ListComp elt [⟨tg,iter,ifs,0⟩] scope pos) scope X.env _ (newList []) false (eval iter X.env) (some (assign (.Name y0 py) X.env)) >>= λ_=>_) _ _ s;refine ZU (wpAny_mono (Gx (use:=some (assign (.Name y0 py) X.env)) (post:=λ_ s'=>SP X pins D0 .next s') hc hsh hN hkind hcell hnames hfree hloc hq hi hg ht he hs I h λC D Hc s6 m fl hn6 I6 fC qn=>?_) (λ_ s' hq=>ZT (ZT hq)) λ_ _ e=>e);obtain⟨oc,es,ep,ho,hdat,_⟩:=id hn6;have I7:=I6.pinned (fp:=[C]) (λb hb=>by rw[YR.mp hb];exact fC) λb hb=>by
  rw[YR.mp hb];exact⟨oc,ho,λv z=>by rw[hdat]at z;cases z⟩
 show wpAny _ X.A (assign (.Name y0 py) X.env _) _ _ s6;refine thn (hgy _ s6 σ Hc (.ref D) _ D0.nx I7 rfl qn) λ_ s7 hP=>?_;obtain⟨σ7,H7,Z7,q7⟩:=hP;have pn7:=Z7.pin (C,oc) (aQ _ (aQ _ (rQ (by simp) ho)));refine⟨m,hn6.at' λo e=>?_,λh' hs'=>⟨σ7,H7,Z7.unpinned.turned (it:=C) (h':=h') (t':=s7.toks) (λb o hb e=>(hs'.2 b hb).trans e) pn7.2.1 fC.2.1 fC.2.2.2.1 fC.2.2.2.2.1 fC.2.2.2.2.2,q7⟩⟩;rw[ho]at e;cases e;exact pn7.1
theorem aaB{te:TE}{x:V}{σ:L2.St}{H:Hp}{Y:VK}{No:Hp->Prop}(h:te (some x::σ) H Y):Fj 1 (cN 0) Qs te x σ H Y No:=λpre hp=>by
 obtain⟨u,rfl⟩:=List.length_eq_one_iff.mp hp;exact⟨[some x],rfl,rfl,h⟩
theorem dM{K:Frag}{tl te:TE}{σ:L2.St}{H:Hp}{Q:VK}(h:tl σ H λx H1=>∃a xs,x=.ref a/\H1 a=some (.lst xs)/\xs.length<=sizeLine/\∀D,H1 D=none->∃J:Nat->Μ->Hp->Prop,J 0 [] (upd H1 D (.lst [])) /\
   (∀k x ys Hc,xs[k]?=some x->J k ys Hc->ys.length=k->Hc a=some (.lst xs)->te (some x::σ) Hc λy H2=>H2 D=some (.lst ys)/\H2 a=some (.lst xs)/\J (k+1) (ys++[y]) (upd H2 D (.lst (ys++[y])))) /\
   ∀ys Hc,J xs.length ys Hc->ys.length=xs.length->Q (.ref D) Hc):mV (Fd K (tM tl)) 1 (tMG (cN 0)) (tMT Qs) (tM te) σ H Q:=by
 refine⟨_,h,?_⟩;rintro x H1 ⟨a,xs,rfl,hx,hz,rest⟩;refine⟨a,rfl,⟨xs,.of hx⟩,λD hD=>?_⟩;obtain⟨J,j0,step,fin⟩:=rest D hD;have ne:a≠D:=bH hx hD;refine⟨λk m ys Hc=>k<=xs.length/\m=xs.length-k/\ys.length=k/\Hc a=some (.lst xs)/\J k ys Hc,⟨_,bw _,rfl,rfl,(bK ne).trans hx,j0⟩,?_⟩;rintro k m ys Hc ⟨hk,rfl,hy,hx',j⟩;by_cases e:k=xs.length
 .subst e;exact .inl ⟨⟨xs,.of hx',aF _⟩,fin ys Hc j hy⟩
 .have hlt:k<xs.length:=by exact XY hk e
  refine .inr ⟨⟨xs,_,.of hx',aj hlt⟩,?_⟩;rintro x H'' ⟨rfl,y⟩;refine(aaB (No:=λ_=>False) (step k x ys H'' (y xs (.of hx')) j hy hx')).weak ?_ (λ_ z=>z.elim);rintro yv H2 ⟨z1,z2,z3⟩;refine⟨by lia,z1,xs.length-(k+1),by lia,by exact hlt,rfl,?_,?_,z3⟩
  .rw[aA,hy];rfl
  .rw[bK ne];exact z2
theorem Vl{te:TE}{σ:L2.St}{H:Hp}{Q:VK}{lo:Int}{n:Nat}(hn:n<=64)(rest:∀D,H D=none->∃J:Nat->Μ->Hp->Prop,J 0 [] (upd H D (.lst []))/\(∀k ys Hc,k<n->J k ys Hc->ys.length=k->te (some (.int (lo+k))::σ) Hc λy H2=>H2 D=some (.lst ys)/\J (k+1) (ys++[y]) (upd H2 D (.lst (ys++[y]))))/\∀ys Hc,J n ys Hc->ys.length=n->Q (.ref D) Hc) :
  ∀D,H D=none->∃W:Nat->Nat->Μ->Hp->Prop,(∃m,W 0 m [] (upd H D (.lst [])))/\∀i m ys Hc,W i m ys Hc->((Itr lo n).stop i Hc/\Q (.ref D) Hc)\/((Itr lo n).go i Hc/\∀x H',(Itr lo n).yld i Hc x H'->Fj 1 (tMG (cN 0)) (tMT Qs) (tM te) x σ H' (λy H2=>ys.length<sizeLine/\H2 D=some (.lst ys)/\∃m',m'<m/\W (i+1) m' (ys++[y]) (upd H2 D (.lst (ys++[y])))) λH3=>∃m',m'<m/\W (i+1) m' ys H3):=by
 intro D hD;obtain⟨J,j0,step,fin⟩:=rest D hD;have hz:64<=sizeLine:=by decide
 refine⟨λk m ys Hc=>k<=n/\m=n-k/\ys.length=k/\J k ys Hc,⟨_,bw _,rfl,rfl,j0⟩,?_⟩;rintro k m ys Hc ⟨hk,rfl,hy,j⟩;by_cases e:k=n
 .subst e;exact .inl ⟨aF _,fin ys Hc j hy⟩
 .have hlt:k<n:=by exact XY hk e
  refine .inr ⟨hlt,?_⟩;rintro x H'' ⟨rfl,rfl⟩;refine(aaB (No:=λ_=>False) (step k ys H'' hlt j hy)).weak ?_ (λ_ z=>z.elim);rintro yv H2 ⟨z1,z2⟩;exact⟨by lia,z1,n-(k+1),by lia,by exact hlt,rfl,by rw[aA,hy];rfl,z2⟩
theorem qe{ta:TA}{te:TE}{σ:L2.St}{H:Hp}{Q:VK}(h:ta σ H λvs H1=>∃n:Nat,vs=[.int n]/\n<=64/\∀D,H1 D=none->∃J:Nat->Μ->Hp->Prop,J 0 [] (upd H1 D (.lst []))/\(∀(k:Nat)ys Hc,k<n->J k ys Hc->ys.length=k->te (some (.int k)::σ) Hc λy H2=>H2 D=some (.lst ys)/\J (k+1) (ys++[y]) (upd H2 D (.lst (ys++[y]))))/\∀ys Hc,J n ys Hc->ys.length=n->Q (.ref D) Hc) :
  mV (V1 (tMA ta)) 1 (tMG (cN 0)) (tMT Qs) (tM te) σ H Q:=by
 refine⟨_,h,?_⟩;rintro vs H1 ⟨n,rfl,hn,rest⟩;refine⟨n,rfl,by lia,by lia,?_⟩;rw[Int.toNat_natCast];refine Vl hn λD hD=>?_;obtain⟨J,j0,step,fin⟩:=rest D hD;exact⟨J,j0,λk ys Hc h1 h2 h3=>by rw[Int.zero_add];exact step k ys Hc h1 h2 h3,fin⟩
end
theorem cF.wild{P:Program}{w:World}{K:Frag}{mg:Str->Ζ}{base:Heap}{k:Nat}{f:Addr}{fd:FuncData}{ps:Β}{sp:Sp}(F:cF P w K mg base CX0 k f fd ps sp):cF P w K mg base (CXO P w) k f fd ps sp:=by
 refine⟨F.len,λA outer s H args us vs Q E hr e0 hb r h=>?_⟩;refine codeAny_mono (F.run A outer s H args us vs Q E hr e0 hb r h) λres s' hs=>?_;cases res with
 |error e=>exact False.elim hs
 |ok fl =>
  cases fl with
  |ret u=>exact hs
  |next=>exact hs
  |brk=>exact hs
  |cont=>exact hs
theorem OkF.wild{P:Program}{w:World}{K:Frag}{mg:Str->Ζ}{base:Heap}{k:Nat}{x:Str}{ps:Β}{sp:Sp}(F:OkF P w K mg base k x ps sp):OkX P w K mg base k x ps sp:=by obtain⟨f,fd,a,b⟩:=F;exact⟨f,fd,a.wild,b⟩
section
variable{X:Cx}{pins:Ω}{σ:L2.St}{H:Hp}{s:Shared}{h':Heap}
theorem Inv.turnedL{t':Nat}{ch:Ε}(I:Inv X pins σ H s)(k:∀b o,b∉ch->s.heap.get? b=some o->h'.get? b=some o)(hf:∀b∈ch,FQ X pins H b):Inv X pins σ H { s with heap:=h',toks:=t' }:=by
 have nit:∀b u,H b=some u->b∉ch:=λb u e z=>by rw[(hf b z).1]at e;cases e
 refine I.step (g':=s.gens) (d':=s.drawn) (ch:=ch) (λb hb=>⟨(hf b hb).2.2.2.1,(hf b hb).2.1,(hf b hb).2.2.2.2.1,(hf b hb).2.2.2.2.2⟩) (λb o _ _ hc e _=>k b o hc e) (λb o _ _ hc e _=>⟨o.slots,k b o hc e⟩) (λ_ _ _ _ n=>n) (λb o hc e=>⟨o,k b o hc e⟩) (λ_ _ e=>e) (λ_ _ _ e=>e) (λb ps e=>⟨#[],by rw[e];simp⟩) (λm hm=>?_) (λb u e=>?_) I.bare
 .obtain⟨o,es,ep,ho,r⟩:=hm;exact⟨o,es,ep,k _ o (λz=>(hf _ z).2.1 rfl) ho,r⟩
 .refine(I.hok b u e).stay (λc v hc q=>k c v ?_ q) (λ_ q=>q) λ_ _ q=>q;rcases hc with z|z
  .rw[z];exact nit b u e
  .exact nit c _ z
end
def Itz(a b:Addr):It:=⟨λi H=>∃xs ys,H a=some (.lst xs)/\H b=some (.lst ys)/\i<xs.length/\i<ys.length,λi H v H'=>∃xs ys x y t,H a=some (.lst xs)/\H b=some (.lst ys)/\xs[i]?=some x/\ys[i]?=some y/\H t=none/\v=.ref t/\H'=upd H t (.tup [x,y]),λi H=>∃xs ys,H a=some (.lst xs)/\H b=some (.lst ys)/\(xs.length<=i\/ys.length<=i)⟩
theorem qQ{h g:Heap}{a l:Addr}{i:Nat}(x:h.IsListIter a l i)(k:∀o,h.get? a=some o->g.get? a=some o):g.IsListIter a l i:=by obtain⟨o,e,r⟩:=x;exact⟨o,k o e,r⟩
theorem NP{xs:Μ}{vs:Ξ} : Vals xs vs->∀{i:Nat}{x:V},xs[i]?=some x->∃u,vs[i]?=some u/\RelV x u:=by
 intro h
 induction h with
 |nil=>intro i x e;cases e
 |cons a b ih =>
  intro i x e;cases i with
  |zero=>rw[List.getElem?_cons_zero]at e;cases e;exact⟨_,rfl,a⟩
  |succ i=>rw[List.getElem?_cons_succ]at e ⊢;exact ih e
theorem aan{P:Program}{w:World}{K:Frag}{elts:List Expr}{x1}{pos:Pos}(z TI TO i1 i2 l1 l2:Addr)(D:ZipApart z TI TO i1 i2 l1 l2) :
  Turn P w K (.Tuple elts x1 pos) (Itz l1 l2) [z,TI,TO,i1,i2] z (λi h=>IsZip h z TI TO .none/\IsPair h TI (.ref i1) (.ref i2)/\(∃p q,IsPair h TO p q)/\h.IsListIter i1 l1 i/\h.IsListIter i2 l2 i) where
 mem:=by simp
 obj:=by
  rintro i h ⟨s1,s2,⟨p,q,s3⟩,⟨o4,s4,_,d4⟩,⟨o5,s5,_,d5⟩⟩ b hb;simp only[YU,List.not_mem_nil,or_false]at hb;rcases hb with rfl|rfl|rfl|rfl|rfl
  .exact⟨_,s1,λv e=>by cases e⟩
  .exact⟨_,s2,λv e=>by cases e⟩
  .exact⟨_,s3,λv e=>by cases e⟩
  .exact⟨_,s4,λv e=>by rw[d4]at e;cases e⟩
  .exact⟨_,s5,λv e=>by rw[d5]at e;cases e⟩
 keep:=λi h h' ⟨s1,s2,⟨p,q,s3⟩,s4,s5⟩ k=>⟨k z (by simp) _ s1,k TI (by simp) _ s2,⟨p,q,k TO (by simp) _ s3⟩,qQ s4 (k i1 (by simp)),qQ s5 (k i2 (by simp))⟩
 item:=by
  intro X hP hw hK hc i pins s σ H E I hf st hg;subst hP hw hK;obtain⟨s1,s2,⟨p,q,s3⟩,s4,s5⟩:=st;obtain⟨xs,ys,ha,hb,lt1,lt2⟩:=hg;obtain⟨_,it1,n1,rv1,le1,g1⟩:=I.lstM ha;obtain⟨_,it2,n2,rv2,le2,g2⟩:=I.lstM hb;have ex:xs[i]?=some xs[i]:=aj lt1;have ey:ys[i]?=some ys[i]:=aj lt2;obtain⟨u,hu,ru⟩:=NP rv1 ex;obtain⟨v,hv,rv⟩:=NP rv2 ey;refine wpAny_pyNext_zip_item D s1 s2 s3 s4 s5 (xs:=it1.toArray) (ys:=it2.toArray) ⟨_,g1,rfl,n1,rfl⟩ ⟨_,g2,rfl,n2,rfl⟩ (x:=u) (y:=v) (by simpa using hu) (by simpa using hv) λh' a1 a2 a3 a4 a5 a6 a7=>⟨_,rfl,?_⟩;refine wpAny_letOwnedTupleGo_zip a1 λh2 st2 sb=>?_;have nt:H s.heap.objs.size=none:=I.fresh;have I1:=I.laid (a:=s.heap.objs.size) (o:=.tup [xs[i],ys[i]]) (h':=s.heap.push { cls:=.type "tuple",data:=.seq #[u,v] }) (t':=s.toks) (λb q z=>aG _ z) (aF _)
   ⟨(by show 2<=sizeLine;decide),[u,v],.cons ru (.cons rv .nil),_,aY _ rfl,rfl,_,rfl⟩
  have nz:z≠s.heap.objs.size:=aR (aJ s1);have nO:TO≠s.heap.objs.size:=aR (aJ s3);have nI:TI≠s.heap.objs.size:=aR (aJ s2);have n1':i1≠s.heap.objs.size:=by obtain⟨o,e,_⟩:=s4;exact aR (aJ e)
  have n2':i2≠s.heap.objs.size:=by obtain⟨o,e,_⟩:=s5;exact aR (aJ e)
  have fpn:∀b∈[z,TI,TO,i1,i2],upd H s.heap.objs.size (.tup [xs[i],ys[i]]) b=none:=by
   intro b hb;have f0:=(hf b hb).1;simp only[YU,List.not_mem_nil,or_false]at hb;rcases hb with rfl|rfl|rfl|rfl|rfl
   .exact(bK nz).trans f0
   .exact(bK nI).trans f0
   .exact(bK nO).trans f0
   .exact(bK n1').trans f0
   .exact(bK n2').trans f0
  have I2:=I1.turnedL (ch:=[z,TO,i1,i2]) (h':=h2) (t':=s.toks) (λb ob hb e=>by
   simp only[YU,List.not_mem_nil,or_false,not_or]at hb;obtain⟨b1,b2,b3,b4⟩:=hb;refine(sb.2 b b1).trans ?_;by_cases hs:b=s.heap.objs.size
   .subst hs;have e2:=aY s.heap (o:={ cls:=.type "tuple",data:=.seq #[u,v] }) rfl;have e:(s.heap.push { cls:=.type "tuple",data:=.seq #[u,v] }).get? s.heap.objs.size=some ob:=e;rw[e2]at e;cases e;exact a5
   .exact a7 b _ b1 b2 b3 b4 (L_ e hs)) λb hb=>by
    have hb':b∈[z,TI,TO,i1,i2]:=by
     simp only[YU,List.not_mem_nil,or_false]at hb ⊢;rcases hb with h|h|h|h<;>simp[h]
    exact⟨fpn b hb',(hf b hb').2⟩
  have mv:∀c o,c≠z->h'.get? c=some o->h2.get? c=some o:=λc o n e=>(sb.2 c n).trans e;exact⟨.ref _,_,I2,rfl,⟨xs,ys,_,_,_,ha,hb,ex,ey,nt,rfl,rfl⟩,⟨st2,mv _ _ D.TIz (a7 _ _ D.TIz D.TITO D.TIi1 D.TIi2 s2),⟨_,_,mv _ _ D.TOz a2⟩,qQ a3 λo e=>mv _ _ D.i1z e,qQ a4 λo e=>mv _ _ D.i2z e⟩,fpn⟩
 done:=by
  intro X hP hw hK hc i pins s σ H E I hf st hg;subst hP hw hK;obtain⟨s1,s2,⟨p,q,s3⟩,s4,s5⟩:=st;obtain⟨xs,ys,ha,hb,lt⟩:=hg;obtain⟨_,it1,n1,rv1,le1,g1⟩:=I.lstM ha;obtain⟨_,it2,n2,rv2,le2,g2⟩:=I.lstM hb;refine wpAny_pyNext_zip_end (I.ok.hd hc) D s1 s2 s3 s4 s5 (xs:=it1.toArray) (ys:=it2.toArray) ⟨_,g1,rfl,n1,rfl⟩ ⟨_,g2,rfl,n2,rfl⟩ (by simp;lia) λh' k=>⟨rfl,I.turnedL (ch:=[z,TO,i1,i2]) (t':=s.toks) (λb ob hb e=>?_) λb hb=>?_⟩
  .simp only[YU,List.not_mem_nil,or_false,not_or]at hb;exact k b ob hb.1 hb.2.1 hb.2.2.1 hb.2.2.2 e
  .exact hf b (by
    simp only[YU,List.not_mem_nil,or_false]at hb ⊢;rcases hb with h|h|h|h<;>simp[h])
 self:=λ_ _ _ _ _ ⟨s1,_⟩ h=>wpAny_pyIter_zip s1 h
section
variable{X:Cx}
theorem Xl(n l1 l2:Nat)(h1:l1<n)(h2:l2<n):ZipApart (n+4) (n+2) (n+3) n (n+1) l1 l2:=by
 constructor<;>first|exact aR (by omega)|exact Nat.ne_of_gt (by lia)
theorem adg(n b:Nat)(h:b=n+4\/b=n+2\/b=n+3\/b=n\/b=n+1):n<=b:=by lia
theorem boot_zip:bootBuiltins "zip"=some (.type "zip"):=by decide +kernel
def afz(ta:TA):TI:=λσ H R=>ta σ H λvs H1=>∃a b xs ys,vs=[.ref a,.ref b]/\H1 a=some (.lst xs)/\H1 b=some (.lst ys)/\R (Itz a b) H1
theorem DP{a b:Expr}{ta:TA}{elts:List Expr}{x1}{p pos tpos:Pos}(hg:Gl X "zip")(hm:X.mg "zip"=none)(ha:PA X [a,b] ta)(hs:starEach [a,b] X.env=[(false,eval a X.env),(false,eval b X.env)]:=by rfl)(hs2:starEach [b] X.env=[(false,eval b X.env)]:=by rfl) :
  PI X (.Tuple elts x1 tpos) (.Call (.Name "zip" p) [a,b] [] pos) (afz ta):=by
 intro pins s σ H R I h;refine Call_ (D_ I hg hm boot_zip (PyProof.Rows.callWith_type1 (thn (ha pos pins s σ H _ I h) λus s1 hP=>?_) (by rw[hs,hs2]) (by rw[hs2];rfl)));obtain⟨vs,H1,I1,r1,q1⟩:=hP;obtain⟨l1,l2,xs,ys,e,h1,h2,q⟩:=q1;subst e;obtain⟨u,v,rfl,ru,rv⟩:=r1.two;cases ru;cases rv;obtain⟨_,it1,n1,rv1,le1,g1⟩:=I1.lstM h1;obtain⟨_,it2,n2,rv2,le2,g2⟩:=I1.lstM h2;have z1:=aJ g1;have z2:=aJ g2;refine call_zip_2 (xs:=it1.toArray) (ys:=it2.toArray) ⟨_,g1,rfl,n1,rfl⟩ ⟨_,g2,rfl,n2,rfl⟩ λh' a1 a2 a3 a4 a5 a6 a7=>?_;refine wpAny_pyIter_zip a1 ?_;refine⟨_,[s1.heap.objs.size+4,s1.heap.objs.size+2,s1.heap.objs.size+3,s1.heap.objs.size,s1.heap.objs.size+1],_,Itz l1 l2,H1,rfl,I1.kept (t':=s1.toks) λb ob e=>a7 b ob e,aan _ _ _ _ _ l1 l2 (Xl _ _ _ z1 z2),⟨a1,a2,⟨_,_,a3⟩,a4,a5⟩,λb hb=>?_,q⟩;have hb':s1.heap.objs.size<=b:=by
  simp only[YU,List.not_mem_nil,or_false]at hb;exact adg _ _ hb
 exact I1.fpOk hb' (I1.hok.fresh hb')
end
theorem uL{ta:TA}{te:TE}{gt:TG}{tc:TT}{n:Nat}{σ:L2.St}{H:Hp}{Q:VK}(h:ta σ H λvs H1=>∃a b xs ys,vs=[.ref a,.ref b]/\H1 a=some (.lst xs)/\H1 b=some (.lst ys)/\xs.length=ys.length/\xs.length<=64/\∀D,H1 D=none->∃J:Nat->Μ->Hp->Prop,J 0 [] (upd H1 D (.lst [])) /\
   (∀k x y zs Hc t,xs[k]?=some x->ys[k]?=some y->J k zs Hc->zs.length<=k->Hc t=none->Hc a=some (.lst xs)->Hc b=some (.lst ys)->Fj n gt tc te (.ref t) σ (upd Hc t (.tup [x,y])) (λv H2=>H2 D=some (.lst zs)/\H2 a=some (.lst xs)/\H2 b=some (.lst ys)/\J (k+1) (zs++[v]) (upd H2 D (.lst (zs++[v])))) λH2=>H2 a=some (.lst xs)/\H2 b=some (.lst ys)/\J (k+1) zs H2) /\
   ∀zs Hc,J xs.length zs Hc->zs.length<=xs.length->Q (.ref D) Hc):mV (afz (tMA ta)) n (tMG gt) (tMT tc) (tM te) σ H Q:=by
 refine⟨_,h,?_⟩;rintro vs H1 ⟨a,b,xs,ys,rfl,hx,hy,hl,h64,rest⟩;refine⟨a,b,xs,ys,rfl,hx,hy,λD hD=>?_⟩;obtain⟨J,j0,step,fin⟩:=rest D hD;have na:a≠D:=bH hx hD;have nb:b≠D:=bH hy hD;have z64:64<=sizeLine:=by decide
 refine⟨λk m zs Hc=>k<=xs.length/\m=xs.length-k/\zs.length<=k/\Hc a=some (.lst xs)/\Hc b=some (.lst ys)/\J k zs Hc,⟨_,bw _,rfl,bw _,(bK na).trans hx,(bK nb).trans hy,j0⟩,?_⟩;rintro k m zs Hc ⟨hk,rfl,hz,ha',hb',j⟩;by_cases e:k=xs.length
 .subst e;exact .inl ⟨⟨xs,ys,ha',hb',.inl (aF _)⟩,fin zs Hc j hz⟩
 .have hlt:k<xs.length:=by exact XY hk e
  refine .inr ⟨⟨xs,ys,ha',hb',hlt,by exact aU hlt (Nat.le_of_eq hl)⟩,?_⟩;rintro v H'' ⟨xs',ys',x,y,t,e1,e2,e3,e4,e5,rfl,rfl⟩;rw[ha']at e1;rw[hb']at e2;cases e1;cases e2;refine(step k x y zs Hc t e3 e4 j hz e5 ha' hb').weak ?_ ?_
  .rintro yv H2 ⟨z1,z2,z3,z4⟩;refine⟨by lia,z1,xs.length-(k+1),by lia,by exact hlt,rfl,?_,(bK na).trans z2,(bK nb).trans z3,z4⟩;rw[aA];simp;omega
  .rintro H2 ⟨z2,z3,z4⟩;exact⟨xs.length-(k+1),by lia,by exact hlt,rfl,by exact aM hz (X2 _ _),z2,z3,z4⟩
theorem Le{ta:TA}{g:TG}{tb:TS}{D:Ends}{σ:L2.St}{H:Hp}(h:ta σ H λvs H1=>∃a b xs ys,vs=[.ref a,.ref b]/\H1 a=some (.lst xs)/\H1 b=some (.lst ys)/\xs.length=ys.length/\∃J:Nat->L2.St->Hp->Prop,J 0 σ H1 /\
   (∀k x y σ' H' t,xs[k]?=some x->ys[k]?=some y->J k σ' H'->H' a=some (.lst xs)->H' b=some (.lst ys)->H' t=none->g (.ref t) σ' (upd H' t (.tup [x,y])) λσ2 H2=>tb { D with nx:=λσ3 H3=>H3 a=some (.lst xs)/\H3 b=some (.lst ys)/\J (k+1) σ3 H3,ct:=λσ3 H3=>H3 a=some (.lst xs)/\H3 b=some (.lst ys)/\J (k+1) σ3 H3,bk:=D.nx } σ2 H2) /\
   ∀σ' H',J xs.length σ' H'->H' a=some (.lst xs)->H' b=some (.lst ys)->D.nx σ' H'):Rz (afz (tMA ta)) g tb D σ H:=by
 refine⟨_,h,?_⟩;rintro vs H1 ⟨a,b,xs,ys,rfl,hx,hy,hl,J,j0,step,fin⟩;refine⟨a,b,xs,ys,rfl,hx,hy,λk m σ' H'=>k<=xs.length/\m=xs.length-k/\H' a=some (.lst xs)/\H' b=some (.lst ys)/\J k σ' H',⟨_,bw _,rfl,hx,hy,j0⟩,?_⟩;rintro k m σ' H' ⟨hk,rfl,ha',hb',j⟩;by_cases e:k=xs.length
 .subst e;exact .inl ⟨⟨xs,ys,ha',hb',.inl (aF _)⟩,fin σ' H' j ha' hb'⟩
 .have hlt:k<xs.length:=by exact XY hk e
  refine .inr ⟨⟨xs,ys,ha',hb',hlt,by exact aU hlt (Nat.le_of_eq hl)⟩,λσ3 H3=>H3 a=some (.lst xs)/\H3 b=some (.lst ys)/\J (k+1) σ3 H3,λσ3 H3 ⟨z1,z2,z3⟩=>⟨xs.length-(k+1),by lia,by exact hlt,rfl,z1,z2,z3⟩,?_⟩;rintro v H'' ⟨xs',ys',x,y,t,e1,e2,e3,e4,e5,rfl,rfl⟩;rw[ha']at e1;rw[hb']at e2;cases e1;cases e2;exact step k x y σ' H' t e3 e4 j ha' hb' e5
section
variable{X:Cx}
def ahA:Μ->Hp->VK->Prop:=λxs H Q=>∃(l:Addr)(bs:List Bool),xs=[.ref l]/\H l=some (.lst (bs.map V.bl))/\Q (.bl (bs.any id)) H
theorem vR:∀bs:List Bool,((List.range bs.length).any λi=>(bs[i]?).getD true)=bs.any id
 |[]=>rfl
 |b::bs=>by
  rw[List.length_cons,List.range_succ_eq_map,List.any_cons,List.any_map,List.any_cons];have:=vR bs;simp only[Function.comp_def,List.getElem?_cons_succ,List.getElem?_cons_zero,Option.getD_some,id]at this ⊢;rw[this]
theorem Xd(hc:X.calm=true):gF X (.builtin "any") ahA:=by
 intro pins s σ H xs us Q I r h;obtain⟨l,bs,rfl,hl,q⟩:=h;obtain⟨u,rfl,ru⟩:=r.one;cases ru;obtain⟨its,rv,p⟩:=I.lstIs hl;have hlt:l<s.heap.objs.size:=by obtain⟨_,e,_⟩:=p;exact aJ e
 refine call_any_walk (wpAny_pyIter_list p ?_);refine⟨s.heap.objs.size,[s.heap.objs.size,l],[s.heap.objs.size],its.toArray.size,_,_,λi=>(bs[i]?).getD true,rfl,Walks.list (A:=X.A.in1) (I.ok.hd hc) _ l (aR hlt) its.toArray,
  ⟨⟨_,aY _ rfl,rfl,rfl⟩,p.push _⟩,λi v s' Q' E' hP hQ=>?_,λh' tk hk=>?_⟩
 .obtain⟨b,e,rfl⟩:=DK rv i v (by simpa using hP);simp only[e,Option.getD_some]at hQ;exact wpAny_truthy_bool hQ
 .have e:((List.range its.toArray.size).any λi=>(bs[i]?).getD true)=bs.any id:=by
   rw[aZ,<- rv.length,ak];exact vR bs
  refine⟨.bl (bs.any id),H,I.kept (t':=tk) λb o q=>hk b o (λhm=>?_) (aG _ q),?_,q⟩
  .rw[YR.mp hm]at q;exact X9 _ (aJ q)
  .rw[e];rfl
end
def Ite(l:Addr):It:=⟨λi H=>∃xs,H l=some (.lst xs)/\i<xs.length,λi H v H'=>∃xs x t,H l=some (.lst xs)/\xs[i]?=some x/\H t=none/\v=.ref t/\H'=upd H t (.tup [.int i,x]),λi H=>∃xs,H l=some (.lst xs)/\xs.length<=i⟩
theorem Yp{P:Program}{w:World}{K:Frag}{elts:List Expr}{x1}{pos:Pos}(e it l:Addr)(hne:e≠it) :
  Turn P w K (.Tuple elts x1 pos) (Ite l) [e,it] e (λi h=>(∃old,IsEnum h e it ((i:Nat):Int) old)/\h.IsListIter it l i) where
 mem:=by simp
 obj:=by
  rintro i h ⟨⟨old,s1⟩,⟨o4,s4,_,d4⟩⟩ b hb;simp only[YU,List.not_mem_nil,or_false]at hb;rcases hb with rfl|rfl
  .exact⟨_,s1,λv e=>by cases e⟩
  .exact⟨_,s4,λv e=>by rw[d4]at e;cases e⟩
 keep:=λi h h' ⟨⟨old,s1⟩,s4⟩ k=>⟨⟨old,k e (by simp) _ s1⟩,qQ s4 (k it (by simp))⟩
 item:=by
  intro X hP hw hK hc i pins s σ H E I hf st hg;subst hP hw hK;obtain⟨⟨old,s1⟩,s4⟩:=st;obtain⟨xs,ha,lt1⟩:=hg;obtain⟨_,it1,n1,rv1,le1,g1⟩:=I.lstM ha;have ex:xs[i]?=some xs[i]:=aj lt1;obtain⟨u,hu,ru⟩:=NP rv1 ex;refine wpAny_pyNext_enum_item s1 s4 (items:=it1.toArray) ⟨_,g1,rfl,n1,rfl⟩ (x:=u) (by simpa using hu) hne λh' a1 a3 a5 a6 a7=>⟨_,rfl,?_⟩;refine wpAny_letOwnedTupleGo_enum a1 λh2 st2 sb=>?_;have nt:H s.heap.objs.size=none:=I.fresh;have I1:=I.laid (a:=s.heap.objs.size) (o:=.tup [.int i,xs[i]]) (h':=s.heap.push { cls:=.type "tuple",data:=.seq #[.int i s.toks,u] }) (t':=s.toks+1) (λb q z=>aG _ z) (aF _)
   ⟨(by show 2<=sizeLine;decide),[.int i s.toks,u],.cons ⟨_,rfl⟩ (.cons ru .nil),_,aY _ rfl,rfl,_,rfl⟩
  have nz:e≠s.heap.objs.size:=aR (aJ s1);have n1':it≠s.heap.objs.size:=by obtain⟨o,e,_⟩:=s4;exact aR (aJ e)
  have fpn:∀b∈[e,it],upd H s.heap.objs.size (.tup [.int i,xs[i]]) b=none:=by
   intro b hb;have f0:=(hf b hb).1;simp only[YU,List.not_mem_nil,or_false]at hb;rcases hb with rfl|rfl
   .exact(bK nz).trans f0
   .exact(bK n1').trans f0
  have I2:=I1.turnedL (ch:=[e,it]) (h':=h2) (t':=s.toks+1) (λb ob hb z=>by
   simp only[YU,List.not_mem_nil,or_false,not_or]at hb;obtain⟨b1,b3⟩:=hb;refine(sb.2 b b1).trans ?_;by_cases hs:b=s.heap.objs.size
   .subst hs;have e2:=aY s.heap (o:={ cls:=.type "tuple",data:=.seq #[.int i s.toks,u] }) rfl;have z:(s.heap.push { cls:=.type "tuple",data:=.seq #[.int i s.toks,u] }).get? s.heap.objs.size=some ob:=z;rw[e2]at z;cases z;exact a5
   .exact a7 b _ b1 b3 (L_ z hs)) λb hb=>⟨fpn b hb,(hf b hb).2⟩
  have mv:∀c o,c≠e->h'.get? c=some o->h2.get? c=some o:=λc o n z=>(sb.2 c n).trans z;exact⟨.ref _,_,I2,rfl,⟨xs,_,_,ha,ex,nt,rfl,rfl⟩,⟨⟨_,by rw[Int.natCast_add];exact st2⟩,qQ a3 λo z=>mv _ _ (λy=>hne y.symm) z⟩,fpn⟩
 done:=by
  intro X hP hw hK hc i pins s σ H E I hf st hg;subst hP hw hK;obtain⟨⟨old,s1⟩,s4⟩:=st;obtain⟨xs,ha,lt⟩:=hg;obtain⟨_,it1,n1,rv1,le1,g1⟩:=I.lstM ha;have hl:=rv1.length;refine wpAny_pyNext_enum_end (I.ok.hd hc) s1 s4 (items:=it1.toArray) ⟨_,g1,rfl,n1,rfl⟩ (by simp;lia) λh' k=>⟨rfl,I.turnedL (ch:=[e,it]) (t':=s.toks) (λb ob hb z=>?_) hf⟩;simp only[YU,List.not_mem_nil,or_false,not_or]at hb;exact k b ob hb.2 z
 self:=λ_ _ _ _ _ ⟨⟨_,s1⟩,_⟩ h=>wpAny_pyIter_enum s1 h
section
variable{X:Cx}
def aej(ta:TA):TI:=λσ H R=>ta σ H λvs H1=>∃a xs,vs=[.ref a]/\H1 a=some (.lst xs)/\R (Ite a) H1
theorem V0{a:Expr}{ta:TA}{elts:List Expr}{x1}{p pos tpos:Pos}(hg:Gl X "enumerate")(hm:X.mg "enumerate"=none)(ha:PA X [a] ta)(hs:starEach [a] X.env=[(false,eval a X.env)]:=by rfl) :
  PI X (.Tuple elts x1 tpos) (.Call (.Name "enumerate" p) [a] [] pos) (aej ta):=by
 intro pins s σ H R I h;refine Call_ (D_ I hg hm boot_enumerate (PyProof.Rows.callWith_type1 (thn (ha pos pins s σ H _ I h) λus s1 hP=>?_) (by rw[hs];rfl) (by rfl)));obtain⟨vs,H1,I1,r1,q1⟩:=hP;obtain⟨l1,xs,e,h1,q⟩:=q1;subst e;obtain⟨u,rfl,ru⟩:=r1.one;cases ru;obtain⟨_,it1,n1,rv1,le1,g1⟩:=I1.lstM h1;refine call_enumerate_list (items:=it1.toArray) ⟨_,g1,rfl,n1,rfl⟩ λh' a1 a2 a3 a7=>?_;refine wpAny_pyIter_enum a1 ?_;refine⟨_,[s1.heap.objs.size+1,s1.heap.objs.size],_,Ite l1,H1,rfl,I1.kept (t':=s1.toks) λb ob e=>a7 b ob e,Yp _ _ l1 (Nat.succ_ne_self _),⟨⟨_,a1⟩,a2⟩,λb hb=>?_,q⟩;have hb':s1.heap.objs.size<=b:=by
  simp only[YU,List.not_mem_nil,or_false]at hb;rcases hb with z|z
  .rw[z];exact Y3 _
  .rw[z];exact aF _
 exact I1.fpOk hb' (I1.hok.fresh hb')
end
theorem GP{ta:TA}{g:TG}{tb:TS}{D:Ends}{σ:L2.St}{H:Hp}(h:ta σ H λvs H1=>∃a xs,vs=[.ref a]/\H1 a=some (.lst xs)/\∃J:Nat->L2.St->Hp->Prop,J 0 σ H1 /\
   (∀(k:Nat)x σ' H' t,xs[k]?=some x->J k σ' H'->H' a=some (.lst xs)->H' t=none->g (.ref t) σ' (upd H' t (.tup [.int k,x])) λσ2 H2=>tb { D with nx:=λσ3 H3=>H3 a=some (.lst xs)/\J (k+1) σ3 H3,ct:=λσ3 H3=>H3 a=some (.lst xs)/\J (k+1) σ3 H3,bk:=D.nx } σ2 H2) /\
   ∀σ' H',J xs.length σ' H'->H' a=some (.lst xs)->D.nx σ' H'):Rz (aej (tMA ta)) g tb D σ H:=by
 refine⟨_,h,?_⟩;rintro vs H1 ⟨a,xs,rfl,hx,J,j0,step,fin⟩;refine⟨a,xs,rfl,hx,λk m σ' H'=>k<=xs.length/\m=xs.length-k/\H' a=some (.lst xs)/\J k σ' H',⟨_,bw _,rfl,hx,j0⟩,?_⟩;rintro k m σ' H' ⟨hk,rfl,ha',j⟩;by_cases e:k=xs.length
 .subst e;exact .inl ⟨⟨xs,ha',aF _⟩,fin σ' H' j ha'⟩
 .have hlt:k<xs.length:=by exact XY hk e
  refine .inr ⟨⟨xs,ha',hlt⟩,λσ3 H3=>H3 a=some (.lst xs)/\J (k+1) σ3 H3,λσ3 H3 ⟨z1,z3⟩=>⟨xs.length-(k+1),by lia,by exact hlt,rfl,z1,z3⟩,?_⟩;rintro v H'' ⟨xs',x,t,e1,e3,e5,rfl,rfl⟩;rw[ha']at e1;cases e1;exact step k x σ' H' t e3 j ha' e5
section
variable{X:Cx}
def aiP:Μ->Hp->VK->Prop:=λxs H Q=>∃p kvs,xs=[.ref p]/\H p=some (.dK kvs)/\Q (.int kvs.length) H
theorem Ma:gF X (.builtin "len") aiP:=by
 intro pins s σ H xs us Q I r h;obtain⟨p,kvs,rfl,hq,q⟩:=h;obtain⟨u,rfl,rx⟩:=vals1 r;cases rx;obtain⟨z,y,vs,kv,d⟩:=(show eF X.prog X.w H s.heap p (.dK kvs)from I.hok p _ hq);have hl:=v9;have hlen:kvs.length=vs.length:=kv.length;exact call_len_dict y d (by lia) ⟨.int kvs.length,H,I.tok _,⟨_,by rw[hlen]⟩,q⟩
theorem adX{e:Expr}{ta:TE}{f:Str}{pos:Pos}{K':Frag}(hK:X.K=K')(he:PE X e ta)(hb:attributeBase e f X.env (eval e X.env)=eval e X.env):PE X (.Attribute e f pos) (abK K' ta f):=hK ▸ su he hb
theorem Vw(c:Nat):∀(n:Nat)(acc:Array Nat),((List.replicate n #[c]).foldl (· ++ ·) acc).toList=acc.toList++List.replicate n c
 |0,acc=>by simp
 |n+1,acc=>by
  rw[List.replicate_succ,List.foldl_cons,Vw c n,Array.toList_append,List.append_assoc]
  rfl
def aeg:R2:=λx y H Q=>∃c n,x=.str ⟨#[c]⟩/\y=.int n/\1<=n/\n<=1000/\∀z:Str,z.cps.toList=List.replicate n.toNat c->Q (.str z) H
theorem acg:OpR X (binaryOp .Mult) aeg:=by
 intro pins s σ H x y v u Q I rx ry h;obtain⟨c,n,rfl,rfl,h0,h1,q⟩:=h;obtain⟨t,rfl⟩:=rx;obtain⟨t',rfl⟩:=ry;have hi:(⟨#[c]⟩ : Str).length=1:=rfl;have made:∀z:Str,z.cps.toList=List.replicate n.toNat c->(Made.str z).post (EP X pins σ Q) s:=λz hz=>⟨by
  have:z.length=n.toNat:=by
   show z.cps.size=_;rw[<- Array.length_toList,hz,aN]
  exact aM (show z.length<=1001 by lia) (by decide),.str z,H,I.tok _,⟨_,rfl⟩,q z hz⟩
 refine PySem.P.mul_str ?_ (λ_ _=>?_) (λ_ _=>?_) ?_
 .rw[Zp (by lia),Zp (by lia)];rfl
 .rw[hi];have:1<=(2^63-1:Int)/n:=Int.le_ediv_of_mul_le (by omega) (by lia);lia
 .rw[hi];unfold Builtin.Str.tooLong;exact Zp (by
   have:n.toNat<=1000:=by lia
   have e:1000<=sizeLine:=by decide
   lia)
 .split
  .lia
  .split
   .rename_i hc
    rw[hi]at hc;have e:n.toNat=1:=by
     simp at hc;lia
    refine⟨.str ⟨#[c]⟩,H,I,⟨t,rfl⟩,q _ ?_⟩;rw[e];rfl
   .refine made _ ?_;show((List.replicate n.toNat #[c]).foldl (· ++ ·) #[]).toList=_;rw[Vw];rfl
theorem OkI.wild{P:Program}{w:World}{K:Frag}{mg:Str->Ζ}{base:Heap}{k:Nat}{f:Addr}{ps:Β}{sp:Sp}(h:OkI P w K mg base CX0 k f ps sp):OkI P w K mg base (CXO P w) k f ps sp:=by obtain⟨fd,a,b⟩:=h;exact⟨fd,a.wild,b⟩
end
section
variable{X:Cx}{p pos:Pos}{e:Expr}{es:List Expr}{t:TA}{tv:TE}{x:Str}{k:Nat}{ps:Β}{sp:Sp}{f:Addr}
def aeT(f:Addr)(sp:Sp)(tv:TE)(t:TA):TE:=λσ H Q=>tv σ H λv H0=>v=.ref f/\t σ H0 λvs H1=>sp vs H1 Q E0
end
noncomputable def afD:Ξ->Bool
 |.ref _::l=>afD l
 |l=>l==bmV
noncomputable def out(H:Hp)(a:Addr):Hp:=λb=>if b=a then none else H b
theorem fsc{N P:Β}{sc:Scope}(h1:sc.kind=.function:=by rfl)(h2:sc.isCoroutine=false:=by rfl)(h3:sc.isGenerator=false:=by rfl)(h4:N.Nodup/\(∀x∈P,sc.names.lookup x=some .local\/sc.names.lookup x=some .cell)/\∀y∈sc.names,y.2≠.free:=by decide +kernel)(h5:N.take P.length=P:=by rfl):bZ N P sc:=⟨h1,h2,h3,h4.1,h5,h4.2.1,h4.2.2⟩
abbrev CK(sc scope:Scope)(N N' xs:Β):Prop:=LQ xs N=N'/\(xs++N').Nodup/\(∀y∈scope.names,y.2≠.cell)/\(∀y∈scope.names,y.2=.local->scope.names.lookup y.1=some .local)/\(∀y∈scope.names,y.2=.free->sc.names.lookup y.1=some .cell\/sc.names.lookup y.1=some .free) /\
 (∀y∈N,y∉xs->(scope.names.map λ(n,k)=>if(k==NameKind.free&&sc.kind == .function&&sc.names.lookup n==some .cell)then(n,NameKind.cell)else(n,k)).lookup y≠some .local)/\∀y∈N,y∈xs->(scope.names.map λ(n,k)=>if(k==NameKind.free&&sc.kind == .function&&sc.names.lookup n==some .cell)then(n,NameKind.cell)else(n,k)).lookup (hid y)=none
section
variable{X:Cx}{elt iter tg:Expr}{pos:Pos}{scope:Scope}{wi:TI}{te:TE}{ifs:List Expr}{gt:TG}{tc:TT}
theorem iY(sc:Scope)(N N' xs:Β)(hi:PI X tg iter wi)(hg:∀{C s₀ H₀ ex pn},PG (X.compG N' scope xs C s₀ H₀ ex pn) tg gt)(ht:∀{C s₀ H₀ ex pn},PTs (X.compG N' scope xs C s₀ H₀ ex pn) ifs tc)(he:∀{C s₀ H₀ ex pn},PE (X.compG N' scope xs C s₀ H₀ ex pn) elt te)
 (hsc:X.env.scope=sc:=by rfl)(hNN:X.N=N:=by rfl)(hc:X.calm=true:=by rfl)(hk:scope.kind=.function:=by rfl)(h:CK sc scope N N' xs:=by decide +kernel)(hs:∀z,foldedSetIterable iter X.env z=pure z:=by intro _;rfl):PE X (.ListComp elt [⟨tg,iter,ifs,0⟩] scope pos) (mV wi xs.length (tMG gt) (tMT tc) (tM te)) :=
 by
 subst hsc hNN;exact aaW hc h.1 h.2.1 hk h.2.2.1 h.2.2.2.1 h.2.2.2.2.1 h.2.2.2.2.2.1 h.2.2.2.2.2.2 hi (λ_ _ _ _ _=>hg.mono) (λ_ _ _ _ _=>ht.mono) (λ_ _ _ _ _=>he.mono) hs
theorem Ld{i0:Nat}{y0:Str}{py spos:Pos}(sc:Scope)(N N' xs:Β)(hi:PI X tg iter wi)(hg:∀{C s₀ H₀ ex pn},PG (X.compG N' scope xs C s₀ H₀ ex pn) tg gt)(ht:∀{C s₀ H₀ ex pn},PTs (X.compG N' scope xs C s₀ H₀ ex pn) ifs tc)(he:∀{C s₀ H₀ ex pn},PE (X.compG N' scope xs C s₀ H₀ ex pn) elt te)(hgy:PG X (.Name y0 py) (cN i0))
 (hsc:X.env.scope=sc:=by rfl)(hNN:X.N=N:=by rfl)(hc:X.calm=true:=by rfl)(hk:scope.kind=.function:=by rfl)(h:CK sc scope N N' xs:=by decide +kernel)(hsw:swapsWith (.ListComp elt [⟨tg,iter,ifs,0⟩] scope pos) (some (.Name y0 py)) spos.line X.env=pure true:=by rfl)(hs:∀z,foldedSetIterable iter X.env z=pure z:=by intro _;rfl) :
  PS X (.Assign [.Name y0 py] (.ListComp elt [⟨tg,iter,ifs,0⟩] scope pos) spos) (Ke (mV wi xs.length (tMG gt) (tMT tc) (tM te)) (cN i0)) :=
 by
 subst hsc hNN;exact abf hc h.1 h.2.1 hk h.2.2.1 h.2.2.2.1 h.2.2.2.2.1 h.2.2.2.2.2.1 h.2.2.2.2.2.2 hi (λ_ _ _ _ _=>hg.mono) (λ_ _ _ _ _=>ht.mono) (λ_ _ _ _ _=>he.mono) hgy hsw hs
theorem d7{N' xs:Β}{C s₀ H₀ ex pn}{i:Nat}{x:Str}{p:Pos}(hN:(xs++N').Nodup:=by decide +kernel)(hi:(xs++N')[i]?=some x:=by rfl)(hx:Loc (X.compG N' scope xs C s₀ H₀ ex pn).env.scope x:=by exact Or.inl rfl)(hf:(X.compG N' scope xs C s₀ H₀ ex pn).fn x=true\/(X.compG N' scope xs C s₀ H₀ ex pn).env.scope.names.lookup x=some .local:=by exact Or.inr rfl):PG (X.compG N' scope xs C s₀ H₀ ex pn) (.Name x p) (cN i):=cM hN hi hx hf
end
theorem Q_{tl te:TE}{σ:L2.St}{H:Hp}{Q:VK}(p:Nat->Bool)(y:Str)(hl:∀R:VK,R (.str y) H->tl σ H R)(hz:y.length<=sizeLine)(he:∀(c:Nat)(Hc:Hp)(R:VK),R (.bl (p c)) Hc->te (some (.str ⟨#[c]⟩)::σ) Hc R)
 (q:∀D,H D=none->Q (.ref D) (upd H D (.lst ((y.cps.toList.map p).map V.bl)))):mV (ahU (tM tl)) 1 (tMG (cN 0)) (tMT Qs) (tM te) σ H Q:=by
 refine aee (hl _ ⟨y,rfl,λD hD=>?_⟩);have hy:y.cps.size<=sizeLine:=hz;refine⟨λk m ys Hc=>k<=y.cps.size/\m=y.cps.size-k/\ys=((y.cps.toList.take k).map p).map V.bl/\Hc=upd H D (.lst ys),⟨_,bw _,rfl,rfl,rfl⟩,?_⟩;rintro k m ys Hc ⟨hk,rfl,rfl,rfl⟩;by_cases e:k=y.cps.size
 .subst e;refine .inl ⟨rfl,?_⟩;rw[aK (by simp)];exact q D hD
 .have hlt:k<y.cps.size:=by exact XY hk e
  refine .inr ⟨hlt,?_⟩;rintro x H'' ⟨rfl,c,hc,rfl⟩;refine(aaB (No:=λ_=>False) (he c _ (λv H2=>v=.bl (p c)/\H2=upd H D (.lst (((y.cps.toList.take k).map p).map V.bl))) ⟨rfl,rfl⟩)).weak ?_ λ_ z=>z.elim;rintro v H2 ⟨rfl,rfl⟩;refine⟨?_,bI,y.cps.size-(k+1),by lia,by exact hlt,rfl,?_,?_⟩
  .rw[ak,ak,bh];simp only[Array.length_toList];lia
  .have e1:y.cps.toList.take (k+1)=y.cps.toList.take k++[c]:=by
    rw[List.take_succ];have:y.cps.toList[k]?=some c:=by simpa using hc
    rw[this];rfl
   rw[e1,bA,bA];rfl
  .exact yZ
theorem agw{K:Frag}{a:Addr}{i j:Int}{d:Η}{n:Nat}{sl:Array (Ζ)}{t u:Tok}(l:K.lookup a=some ⟨.type "tuple",d,.seq #[.int i t,.int j u] n,sl⟩):∀H,SqT K H a [.int i,.int j]:=λH=>.inr ⟨_,_,_,l,rfl,rfl,(by show 2<=sizeLine;decide),.cons ⟨_,rfl⟩ (.cons ⟨_,rfl⟩ .nil)⟩
theorem akp{K:Frag}{h:Heap}{mg:Str->Ζ}{x:Str}{i:Int}{t:Tok}(X:K.In h)(G:h.Ns mainGlobals mg)(l:nsIn K mainGlobals x=some (some (.int i t))):∃u,mg x=some u/\RelV (.int i) u:=⟨_,mg_of X G l,_,rfl⟩
def Lst:Nat->(Ξ->Prop)->Prop
 |0,P=>P []
 |n+1,P=>∀a,Lst n λl=>P (a::l)
theorem Gq:∀(n:Nat){P:Ξ->Prop},Lst n P->∀us:Ξ,us.length=n->P us
 |0,_,h,[],_=>h
 |n+1,_,h,a::l,e=>Gq n (h a) l (Nat.succ.inj e)
section
variable{K:Frag}{h:Heap}{mg:Str->Ζ}{x m qual:Str}{v:Value}{C f:Addr}{st:Stmt}{ps:Β}{oc:Value}{od an:Η}{osl:Array (Ζ)}{kV doc pm cdv ct:Value}{i j:Int}{d:Η}{n:Nat}{sl:Array (Ζ)}{t u:Tok}
theorem q_c(X:K.In h:=by assumption)(G:h.Ns mainGlobals mg:=by assumption)(e:nsIn K mainGlobals x=some (some v):=by k_is):mg x=some v:=mg_of X G e
theorem q_z(X:K.In h:=by assumption)(G:h.Ns mainGlobals mg:=by assumption)(e:nsIn K mainGlobals x=some none:=by k_is):mg x=none:=PySem.W.mg_none_of X G e
theorem q_n(e:findIn K (.ref C) x=some none:=by k_is):dZ K C x:=e
theorem q_m(a:findIn K (.ref C) m=some (some (.ref f)):=by k_is)(b:isFn K (.ref f)=true:=by k_is)(c:keepIn K (.ref f)=true:=by k_is):Meth K C m f:=⟨a,b,c⟩
theorem q_M(a:makesIn K C=true:=by k_is)(b:findIn K (.ref C) "__init__"=some (some (.ref f)):=by k_is)(c:isFn K (.ref f)=true:=by k_is)(e:keepIn K (.ref C)=true:=by k_is):Mk K C f:=⟨a,b,c,e⟩
theorem q_4(a:plainGet K C Str.empty=true:=by k_is)(b:hasDictIn K C=true:=by k_is)(c:plainOver K C=true:=by k_is)(e:findIn K (.ref C) "__setattr__"=some (some (.builtin "object.__setattr__")):=by k_is):Cls K C:=⟨a,b,c,e⟩
theorem q_B(a:specialIn K (.ref C) "__getattribute__"=some (some (.builtin "type.__getattribute__")):=by k_is)(b:readsIn K C (.type "type")=true:=by k_is)(c:findCls K (.ref C) (.type "type") m=some (.val (.ref f)):=by k_is)(e:keepIn K (.ref f)=true:=by k_is):I_ K C m f:=⟨a,b,c,rfl,e⟩
theorem q_x(e:excIn K C bmV "ValueError.__new__"=true:=by k_exc):Vd K C:=e
theorem q_g(X:K.In h:=by assumption)(G:h.Ns mainGlobals mg:=by assumption)(l:nsIn K mainGlobals x=some (some (.int i t)):=by k_is):∃u,mg x=some u/\RelV (.int i) u:=akp X G l
theorem q_t(l:K.lookup C=some ⟨.type "tuple",d,.seq #[.int i t,.int j u] n,sl⟩:=by k_is):∀H,SqT K H C [.int i,.int j]:=agw l
theorem q_f(N:Nat)(hb:∀(kV doc pm:Value)(an:Η)(cdv ct:Value),Lst N λus=>bindArgs (PySem.W.fnOf x x (iI st) (fQ st) (bN st) .none kV doc pm an cdv ct) ⟨us,[]⟩=pure (ps.zip us))(hN:ps.length=N:=by rfl)(X:K.In h:=by assumption)(G:h.Ns mainGlobals mg:=by assumption)
 (a:nsIn K mainGlobals x=some (some (.ref f)):=by k_is)(l:K.lookup f=some ⟨oc,od,.func (PySem.W.fnOf x x (iI st) (fQ st) (bN st) .none kV doc pm an cdv ct),osl⟩:=by k_is)
 (c:codeIn K cdv x=true:=by k_is)(k:keepIn K (.ref f)=true:=by k_is):dO K mg x st ps:=ab5 X G a l c k λkV doc pm an cdv ct us e=>Gq N (hb kV doc pm an cdv ct) us (e.trans hN)
theorem q_h(N:Nat)(hb:∀(kV doc pm:Value)(an:Η)(cdv ct:Value),Lst N λus=>bindArgs (PySem.W.fnOf x qual (iI st) (fQ st) (bN st) .none kV doc pm an cdv ct) ⟨us,[]⟩=pure (ps.zip us))(hN:ps.length=N:=by rfl)
 (l:K.lookup f=some ⟨oc,od,.func (PySem.W.fnOf x qual (iI st) (fQ st) (bN st) .none kV doc pm an cdv ct),osl⟩:=by k_is)(c:codeIn K cdv qual=true:=by k_is)(k:keepIn K (.ref f)=true:=by k_is):Bk K x qual st ps f:=acT l c k λkV doc pm an cdv ct us e=>Gq N (hb kV doc pm an cdv ct) us (e.trans hN)
end
section
variable{X:Cx}{k:Nat}{f C:Addr}{ps:Β}{sp:Sp}{m:Str}{pos apos:Pos}{e o:Expr}{es:List Expr}{ta:TE}{t:TA}{Ex:Value->Η->L2.St->Hp->Prop}
theorem iz{K':Frag}(hK:X.K=K'):gF X (.builtin "isinstance") (aei K'):=by
 subst hK;exact XJ
end
section
variable{X:Cx}{es:List Expr}{t:TA}{pos:Pos}
def ahO(t:TA):TE:=λσ H Q=>t σ H λxs H1=>xs.length<=sizeLine/\∀p H',Same H1 H'->H1 p=none->H' p=some (.lst xs)->Q (.ref p) H'
def afq(t:TA):TE:=λσ H Q=>t σ H λxs H1=>xs.length<=sizeLine/\∀p H',Same H1 H'->H1 p=none->H' p=some (.tup xs)->Q (.ref p) H'
theorem jd(h:PA X es t):PE X (.List es pos) (ahO t):=(o9 h.mono).imp λσ H Q h=>⟨_,h,λxs H1 z=>⟨z.1,λp hp=>z.2 p _ (Same.upd hp) hp bI⟩⟩
theorem dH{k:Nat}(h:PA X es t):PE X (.Tuple es k pos) (afq t):=(mO h.mono).imp λσ H Q h=>⟨_,h,λxs H1 z=>⟨z.1,λp hp=>z.2 p _ (Same.upd hp) hp bI⟩⟩
def ait:R2:=λx y H Q=>∃l b xs zs,x=.ref l/\y=.ref b/\H l=some (.lst xs)/\H b=some (.lst zs)/\xs.length+zs.length<=sizeLine/\∀p H',Same H H'->H p=none->H' p=some (.lst (xs++zs))->Q (.ref p) H'
theorem adw:OpR X (binaryOp .Add) ait:=Uk.imp λx y H Q hP=>by obtain⟨l,b,xs,zs,e1,e2,h1,h2,z,q⟩:=hP;exact⟨l,b,xs,zs,e1,e2,h1,h2,z,λp hp=>q p _ (Same.upd hp) hp bI⟩
def akJ:V->Option Int->Option Int->Hp->VK->Prop:=λx lo hi H Q=>∃a xs,x=.ref a/\H a=some (.lst xs)/\∀p H',Same H H'->H p=none->H' p=some (.lst (pZ xs lo hi))->Q (.ref p) H'
theorem Bc:SlR X akJ:=λpins s σ H x v vl vu lo hi sl Q I rx hs pl pu hP=>by obtain⟨a,xs,e,h,q⟩:=hP;exact Ge pins s σ H x v vl vu lo hi sl Q I rx hs pl pu ⟨a,xs,e,.of h,λp hp=>q p _ (Same.upd hp) hp bI⟩
end
section
variable{X:Cx}
noncomputable def afE(H:Hp)(f:Ι):Value->Bool
 |.ref a=>match H a with
  |some (.tup [.int x,.int y])=>decide (x=f.1)&&decide (y=f.2)
  |_=>false
 |_=>false
def Xa:V->Μ->Hp->VK->Prop:=λx vs H Q=>∃(l b:Addr)(xs:Μ)(fs:Ψ)(f:Ι)(j:Nat),x=.ref l/\vs=[.ref b]/\H l=some (.lst xs)/\FL H xs fs/\H b=some (.tup [.int f.1,.int f.2])/\xs.length<=sizeLine/\fs[j]?=some f/\(∀i g,i<j->fs[i]?=some g->g≠f)/\Q (.int (j:Nat)) H
theorem afL{A:Around}{pins:Ω}{σ:L2.St}{H:Hp}{s:Shared}(I:Inv X pins σ H s)(hu:A.units<cLine){a b:Addr}{g f:Ι}(ha:H a=some (.tup [.int g.1,.int g.2]))(hb:H b=some (.tup [.int f.1,.int f.2])):SeqAt.EqAt A s (.ref a) (.ref b) (decide (g.1=f.1)&&decide (g.2=f.2)):=by
 by_cases e:a=b
 .subst e;have h:=Option.some.inj (ha.symm.trans hb);injection h with h;injection h with h1 h2;injection h1 with h1;injection h2 with h2 _;injection h2 with h2;rw[h1,h2,Zs rfl,Zs rfl];exact SeqAt.EqAt.same _
 .obtain⟨us,ru,iu⟩:=I.tupIs ha;obtain⟨ws,rw',iw⟩:=I.tupIs hb;refine SeqAt.EqAt.of_refs e λprog w E Q q=>SeqAt.RcAt.tuples iu.2 iw.2 hu (λj h1 h2=>Rq ru rw' rfl j h1 h2) prog w E Q ?_;have:=Lx [V.int g.1,V.int g.2] [V.int f.1,V.int f.2];rw[ru.length,rw'.length]at this;simp only[aZ];rw[this];have e:eqF [V.int g.1,V.int g.2] [V.int f.1,V.int f.2]=(decide (g.1=f.1)&&decide (g.2=f.2)):=by simp[eqF,eqV];rfl
  rw[e];exact q
theorem Ih{H:Hp}{a:Addr}{g f:Ι}(h:H a=some (.tup [.int g.1,.int g.2])):afE H f (.ref a)=(decide (g.1=f.1)&&decide (g.2=f.2)):=by
 unfold afE;dsimp only;rw[h]
theorem Zg(hu:X.A.units+1<cLine):MtM X "list.index" Xa:=by
 intro pins s σ H x vs v us Q I rx rv h;obtain⟨l,b,xs,fs,f,j,rfl,rfl,hl,fl,hb,hz,ej,nj,q⟩:=h;cases rx;obtain⟨u,rfl,ru⟩:=rv.one;cases ru;obtain⟨z,its,n,r,hl',e⟩:=I.lstM hl;have vat:∀(i:Nat)(hi:i<its.toArray.size),∃p g,its.toArray[i]=.ref p/\fs[i]?=some g/\H p=some (.tup [.int g.1,.int g.2]):=λi hi=>by
  rw[aZ]at hi;have ex:xs[i]?=some (xs[i]'(by lia)):=aj _;obtain⟨p,g,e1,e2,e3⟩:=fl.get ex;rw[e1]at ex;obtain⟨u,eu,ru⟩:=r.get ex;cases ru;exact⟨p,g,by rw[List.getElem_toArray];exact(ao.mp eu).2,e2,e3⟩
 have lf:=fl.length;have lj:=(ao.mp ej).1;have hj:j<its.toArray.size:=by rw[aZ];lia
 rw[sizeLine_eq]at hz;refine call_meets F.slot_list_index ⟨_,e,rfl⟩ F.entry_list_index (F.args_list_index_2 _ _) (SeqAt.list_indexAt l its.toArray n _ _ (.ref b) (afE H f) j hj (by lia) ?_ λm hm lm=>?_) ⟨e,λy hy=>?_,⟨.int _,H,I.tok _,⟨_,rfl⟩,q⟩⟩
 .obtain⟨p,g,e1,e2,e3⟩:=vat j hj;rw[ej]at e2;cases e2;rw[e1,Ih e3,Zs rfl,Zs rfl];rfl
 .obtain⟨p,g,e1,e2,e3⟩:=vat m hm;have ne:=nj m g lm e2;rw[e1,Ih e3];by_cases h1:g.1=f.1
  .by_cases h2:g.2=f.2
   .exact absurd (Prod.ext h1 h2) ne
   .rw[Zp h2,Bool.and_false]
  .rw[Zp h1,Bool.false_and]
 .obtain⟨i,hi,ei⟩:=Array.getElem_of_mem hy;obtain⟨p,g,e1,e2,e3⟩:=vat i hi;rw[<- ei,e1,Ih e3];exact afL I hu e3 hb
def ajJ(to:TE)(t:TA):TE:=λσ H Q=>to σ H λx H1=>∃l xs,x=.ref l/\H1 l=some (.lst xs)/\t σ H1 λvs H2=>Xa (.ref l) vs H2 Q
theorem aeY{o e:Expr}{to:TE}{t:TA}{apos cpos:Pos}(hu:X.A.units+64<cLine)(ho:PE X o to)(ha:PA X [e] t)(hb:attributeBase o "index" X.env (eval o X.env)=eval o X.env:=by rfl)
 (hf:((backTo cpos (starEach [e] X.env)).all (λx=>!x.1)&&(backToKw cpos (keywordEach [] X.env)).all (λx=>x.1.isSome)&&decide ([e].length+([] : List Keyword).length+(if([] : List Keyword).isEmpty then 0 else 1)<30))=true:=by rfl)
 (hl:(apos.endLine==cpos.line)=true:=by rfl)(hs:starEach [e] X.env=(false,eval e X.env)::starEach [] X.env:=by rfl)(hp:(backTo cpos (starEach [] X.env)).any (·.1)=false:=by rfl) :
  PE X (.Call (.Attribute o "index" apos) [e] [] cpos) (ajJ to t):=by
 refine(abG PySem.F.plainAttrs_list PySem.F.slot_list_index PySem.F.type_list_index (Zg (by lia)) ho.mono ha.mono hb hf hl hs hp).imp λσ H Q h=>?_;refine⟨_,h,?_⟩;rintro x H1 ⟨l,xs,rfl,hx,h2⟩;exact⟨.inl ⟨rfl,_,SqL.of hx⟩,_,h2,λvs H2 q=>q⟩
end
def OkL(P:Program)(w:World)(K:Frag)(mg:Str->Ζ)(base:Heap)(k:Nat)(f:Addr)(ps:Β)(sp:Sp):Prop :=
 ∃fd o,cF P w K mg base CX0 k f fd ps sp/\Binds K fd ps []/\base.get? f=some o/\o.data=.func fd
theorem acz{M:Model}{f:Addr}{o:Obj}{fd:FuncData}(hd:o.data=.func fd)(h:Heap)(e:h.get? f=some o):∃k,(k=Keeper.frame\/k=Keeper.machine\/k=Keeper.boundFrame)/\PySem.W.Looks M h (keeperOf (.ref f)) k:=by
 refine⟨.frame,.inl rfl,(PySem.W.Looks.ld (part:=none) e).andThen ?_⟩;rw[hd];exact .now
section
variable{X:Cx}{p pos:Pos}{e:Expr}{es:List Expr}{t:TA}{tv:TE}{x:Str}{k:Nat}{ps:Β}{sp:Sp}{f:Addr}
theorem aaV(G:OkL X.prog X.w X.K X.mg X.base k f ps sp)(hr:gU k X.A)(hv:PE X (.Name x p) tv)(ha:PA X (e::es) t)
 (he:starEach (e::es) X.env=(false,eval e X.env)::starEach es X.env:=by rfl)(hpl:(backTo pos (starEach es X.env)).any (·.1)=false:=by rfl):PE X (.Call (.Name x p) (e::es) [] pos) (aeT f sp tv t):=by
 obtain⟨fd,o,F,b,ho,hd⟩:=G;intro pins s σ H Q I h;refine wpAny_Call_Name_kw (thn (hv pins s σ H _ I h) ?_);rintro u s0 ⟨v,H0,I0,r0,rfl,q0⟩;cases r0;have ar:wpAny (model X.prog X.w) X.A (spliced (backTo pos (starEach (e::es) X.env))) (λus s1=>s1.heap.get? f=some o/\wpAny (model X.prog X.w) X.A (call (.ref f) ([]++us)) (EP X pins σ Q) X.xe s1) X.xe s0:=by
  refine thn (ha pos pins s0 σ H0 _ I0 q0) ?_;rintro us s1 ⟨vs,H1,I1,r,q⟩;refine⟨I1.bk f o ho,M9 F hr b .nil W2 I1 r ?_⟩;rw[List.append_nil];exact q
 rw[he]at ar ⊢;exact PySem.W.callWith_of (P:=λh=>h.get? f=some o) (by show((false || (backTo pos (starEach es X.env)).any (·.1)) || false)=false;rw[hpl];rfl) (acz hd) (PySem.Calls.evalArgs_plain ar)
end
def cxL(P:Program)(w:World)(K:Frag)(mg:Str->Ζ)(base:Heap)(N:Β)(qual:Str)(scope:Scope)(f:Addr)(cd:Value)(cl:List (Str×Addr))(A:Around)(outer:List Env)(s:Shared)(H:Hp)(E:XK):Cx where
 prog:=P
 w:=w
 K:=K
 mg:=mg
 base:=base
 A:=A.deeper (envX qual scope s.heap.objs.size f cd cl)
 N:=N
 s₀:=s
 H₀:=H
 env:=envX qual scope s.heap.objs.size f cd cl
 outer:=outer
 stack:=envX qual scope s.heap.objs.size f cd cl::outer
 ex:=[]
 calm:=true
 fn:=λ_=>false
 pn:=[]
 xe:=λe s'=>wpAny (model P w) (A.deeper (envX qual scope s.heap.objs.size f cd cl)) (leaving (envX qual scope s.heap.objs.size f cd cl) e) (λ_ s''=>CX0 outer H s E e s'') (λe' s''=>CX0 outer H s E e' s'') s'
inductive zE(base:Heap)(scope:Scope):List (Str×Addr)->Μ->Prop where
 |nil:zE base scope [] []
 |cons {x:Str}{c:Addr}{v:V}{u:Value}{cl:List (Str×Addr)}{vs:Μ} : scope.names.lookup x=some .free->base.IsCell c (some u)->RelV v u->cl.lookup x=none->(∀y,(y,c)∉cl)->zE base scope cl vs->zE base scope ((x,c)::cl) (v::vs)
theorem zE.len{base:Heap}{scope:Scope}{cl:List (Str×Addr)}{vs:Μ}(h:zE base scope cl vs):cl.length=vs.length:=by
 induction h with
 |nil=>rfl
 |cons _ _ _ _ _ _ ih=>simp[ih]
theorem zE.at{base:Heap}{scope:Scope}{cl:List (Str×Addr)}{vs:Μ}(h:zE base scope cl vs){i:Nat}{x:Str}{v:V}(e:(cl.map (·.1))[i]?=some x)(ev:(vs.map some)[i]?=some (some v)):scope.names.lookup x=some .free/\∃c u,cl.lookup x=some c/\base.IsCell c (some u)/\RelV v u:=by
 induction h generalizing i with
 |nil=>simp at e
 |@cons y c v0 u cl vs k1 k2 k3 k4 k5 _ ih =>
  cases i with
  |zero =>
   simp at e ev;subst e;subst ev;exact⟨k1,c,u,by simp[List.lookup],k2,k3⟩
  |succ j =>
   simp at e ev;obtain⟨q1,c',u',q2,q3,q4⟩:=ih (i:=j) (by simpa using e) (by simpa using ev);refine⟨q1,c',u',?_,q3,q4⟩;have ne:(x==y)=false:=by
    cases z:x==y with
    |false=>rfl
    |true=>rw[beq_iff_eq.mp z,k4]at q2;cases q2
   rw[List.lookup_cons,ne];exact q2
theorem zE.cells{base:Heap}{scope:Scope}{cl:List (Str×Addr)}{vs:Μ}(h:zE base scope cl vs){x:Str}{c:Addr}(e:cl.lookup x=some c):∃u,base.IsCell c (some u):=by
 induction h with
 |nil=>cases e
 |@cons y c0 v0 u cl vs k1 k2 k3 k4 k5 _ ih =>
  rw[List.lookup_cons]at e;split at e
  .cases e;exact⟨u,k2⟩
  .exact ih e
theorem yO{cl:List (Str×Addr)}{x:Str}{c:Addr}(e:cl.lookup x=some c):(x,c)∈cl:=PySem.mem_of_lookup e
theorem zE.inj{base:Heap}{scope:Scope}{cl:List (Str×Addr)}{vs:Μ}(h:zE base scope cl vs){x y:Str}{c:Addr}(e:cl.lookup x=some c)(e':cl.lookup y=some c):x=y:=by
 induction h with
 |nil=>cases e
 |@cons z c0 v0 u cl vs k1 k2 k3 k4 k5 _ ih =>
  rw[List.lookup_cons]at e e';cases a:x==z<;>cases b:y==z<;>rw[a]at e<;>rw[b]at e'
  .exact ih e e'
  .cases e';exact absurd (yO e) (k5 _)
  .cases e;exact absurd (yO e') (k5 _)
  .rw[beq_iff_eq.mp a,beq_iff_eq.mp b]
theorem TX{P:Program}{w:World}{K:Frag}{mg:Str->Ζ}{base:Heap}{x:Str}{qual:Str}{scope:Scope}{f:Addr}{cd:Value}{cl:List (Str×Addr)}{frees:Μ}{A:Around}{outer:List Env}{s:Shared}{H:Hp}{E:XK}{u:Value}{v:V}{h₁:Heap}{tk:Tok}
 (hk:scope.kind=.function)(hcell:∀y∈scope.names,y.2≠.cell)(hx:scope.names.lookup x=some .local)(hfree:∀y,scope.names.lookup y=some .free->∃c,cl.lookup y=some c)(hs:zE base scope cl frees)
 (hd:A.handled=none)(e0:JG P w K mg base A outer s H)(r:RelV v u)
 (hns:h₁.Ns s.heap.objs.size (λy=>[(x,u)].reverse.lookup y))(hkp:∀b o,s.heap.get? b=some o->h₁.get? b=some o) :
  Inv (cxL P w K mg base (x::cl.map (·.1)) qual scope f cd cl A outer s H E) [] (some v::frees.map some) H { s with heap:=h₁,toks:=tk }:=by
 have noA:∀b:Addr,b∉(cxL P w K mg base (x::cl.map (·.1)) qual scope f cd cl A outer s H E).ex:=λb z=>absurd (show b∈([] : Ε)from z) (by simp);have cb:∀c u,base.IsCell c (some u)->h₁.IsCell c (some u)/\H c=none:=λc u hP=>by obtain⟨o,ho,hd⟩:=hP;exact⟨⟨o,hkp _ _ (e0.bs _ _ ho).1,hd⟩,(e0.bs _ _ ho).2⟩
 refine⟨⟨e0.mod,hk,rfl,rfl,aF _,λy z c h1 h2=>hs.inj h1 h2,λy hy=>?_,(λy c h=>nomatch h),λ_=>hd,Around.frames_deeper e0.frames,.inr ⟨rfl,rfl⟩,λb z=>absurd z (noA b),e0.bs,e0.bsz,λb _ _=>noA b,λb z=>absurd z (noA b),e0.funs,e0.frf⟩,
  rfl,e0.bare,Un.kept hkp,⟨_,hns,λi y v' h1 h2 h3=>?_⟩,λy c h=>?_,e0.hok.fresh (aF _),λy c h=>?_,λp hp=>absurd (show p∈([] : Ω)from hp) (by simp),e0.hok.kept hkp,?_⟩
 .rcases hy with hy|hy
  .exact absurd rfl (hcell _ (PySem.mem_of_lookup hy))
  .exact hfree y hy
 .cases i with
  |zero =>
   have h1:some x=some y:=h1;have h2:some (some v)=some (some v'):=h2;cases h1;cases h2;exact⟨u,r,.inl ⟨hx,by show[(x,u)].lookup x=some u;simp[List.lookup]⟩⟩
  |succ j =>
   have h1:(cl.map (·.1))[j]?=some y:=h1;have h2:(frees.map some)[j]?=some (some v'):=h2;obtain⟨q1,c,u',q2,q3,q4⟩:=hs.at h1 h2;exact⟨u',q4,.inr ⟨.inr q1,c,q2,(cb c u' q3).1⟩⟩
 .obtain⟨u',q⟩:=hs.cells h;exact⟨_,(cb c u' q).1⟩
 .obtain⟨u',q⟩:=hs.cells h;exact(cb c u' q).2
 .show _=(x::cl.map (·.1)).length;simp[hs.len]
theorem aex{P:Program}{w:World}{K:Frag}{mg:Str->Ζ}{base:Heap}{k:Nat}{f c':Addr}{name qual:Str}{params:Arguments}{body:Expr}{scope:Scope}{cl:List (Str×Addr)}{pm ctv:Value}{x:Str}{frees:Μ}{sp:Sp}
 (ho:base.get? f=some (kla_obj name qual params body scope cl pm c' ctv))(hcr:base.CodeRec (.ref c') qual)
 (hk:scope.kind=.function)(hco:scope.isCoroutine=false)(hgen:scope.isGenerator=false)(hcell:∀y∈scope.names,y.2≠.cell)(hx:scope.names.lookup x=some .local)(hfree:∀y,scope.names.lookup y=some .free->∃c,cl.lookup y=some c)(hs:zE base scope cl frees)
 (len:∀vs H Q E,sp vs H Q E->vs.length=1)
 (hbody:∀(A:Around)(outer:List Env)(s:Shared)(H:Hp)(v:V)(Q:VK)(E:XK),gU k (A.deeper (envX qual scope s.heap.objs.size f (.ref c') cl))->sp [v] H Q E ->
   ∃t,PE (cxL P w K mg base (x::cl.map (·.1)) qual scope f (.ref c') cl A outer s H E) body t/\t (some v::frees.map some) H Q) :
  cF P w K mg base CX0 (k+1) f (PySem.W.kla_fn name qual params body scope cl pm (.ref c') ctv) [x] sp:=by
 refine⟨λvs H Q E h=>len vs H Q E h,λA outer s H args us vs Q E hr e0 hb r hsp=>?_⟩;have hl:=len _ _ _ _ hsp;obtain⟨v,rfl⟩ : ∃v,vs=[v]:=by
  cases vs with
  |nil=>cases hl
  |cons v t=>cases t with
   |nil=>exact⟨v,rfl⟩
   |cons _ _=>cases hl
 obtain⟨u,rfl,rv⟩ : ∃u,us=[u]/\RelV v u:=by
  cases r with
  |cons a t=>cases t;exact⟨_,rfl,a⟩
 have lim:s.heap.NoLimit:=e0.mod.nolimit.keeps λb o e=>(e0.bs b o e).1;obtain⟨c2,oc,ws,tk,e2,hoc,hdc,hq⟩:=hcr;refine PySem.W.kla_callFunE hr.depth (e0.bs _ _ ho).1 rfl hco hgen rfl ⟨c2,oc,ws,tk,e2,(e0.bs _ _ hoc).1,hdc,hq⟩ (hb _ _ _ _ ?_);refine wpAny_newFunctionEnv hcell (λy hy=>?_) (λh₁ hns hsb=>?_) hk
 .have hy:y∈[(x,u)]:=hy;rw[YR.mp hy];exact hx
 have hkp:∀b o,s.heap.get? b=some o->h₁.get? b=some o:=λb o e=>hsb.extBut b o (aR (aJ e)) (aG _ e);refine⟨lim.keeps hkp,PySem.W.kla_codeExpr ?_⟩;obtain⟨t,ht,hq⟩:=hbody A outer s H v Q E (hr.deeper _) hsp;have I:=TX (f:=f) (cd:=.ref c') (qual:=qual) (E:=E) (tk:=s.toks+[(x,u)].length) hk hcell hx hfree hs hr.hd e0 rv hns hkp;exact wpAny_mono (ht [] _ _ H _ I hq) (λu' s' hP=>by obtain⟨v',H',J,rv',q⟩:=hP;exact⟨v',H',J.os,J.bare,J.base,J.hok,rv',q⟩) λe s' hs=>hs
noncomputable def Jl(c:Addr)(qual:Str):HO:=.ext λh=>∃o vs t,h.get? c=some o/\o.data=.fields vs/\vs[1]?=some (.str qual t)
noncomputable def U9(f:Addr)(mkO:Value->Obj):HO:=.ext λh=>∃ctv,h.get? f=some (mkO ctv)
noncomputable def trip(pos:Pos)(c:Addr):Array Value:=#[rawInt pos.line,rawInt pos.col,.ref c]
def vP(Pt:Addr)(pos:Pos)(qual:Str)(H:Hp):Η->Prop
 |none=>H Pt=some (.tbl #[])
 |some c=>H Pt=some (.tbl (trip pos c))/\H c=some (Jl c qual)
def akc(Pt:Addr)(pos:Pos)(qual:Str)(mkO:Addr->Value->Obj):TE:=λσ H Q=>∃oc,vP Pt pos qual H oc /\
 ∀f c H',H f=none->f≠c->(oc=none->H c=none)->(∀c0,oc=some c0->c=c0)->vP Pt pos qual H' (some c)->H' f=some (U9 f (mkO c))->(∀b,b≠Pt->b≠c->b≠f->H' b=H b)->Q (.ref f) H'
theorem Rh{P:Program}{w:World}{H:Hp}{h:Heap}{c:Addr}{q:Str}(r:h.CodeRec (.ref c) q):eF P w H h c (Jl c q):=by
 obtain⟨c2,o,vs,t,e,ho,hd,hv⟩:=r;cases e;exact⟨⟨o,vs,t,ho,hd,hv⟩,⟨o,ho⟩,λh1 h2 ⟨o,vs,t,a,b,d⟩ k=>⟨o,vs,t,k o a,b,d⟩⟩
theorem X6{P:Program}{w:World}{H:Hp}{h:Heap}{c:Addr}{q:Str}(r:eF P w H h c (Jl c q)):h.CodeRec (.ref c) q:=by
 obtain⟨⟨o,vs,t,ho,hd,hv⟩,_⟩:=r;exact⟨c,o,vs,t,rfl,ho,hd,hv⟩
theorem VH{P:Program}{w:World}{H:Hp}{h:Heap}{f:Addr}{mkO:Value->Obj}{ctv:Value}(e:h.get? f=some (mkO ctv)):eF P w H h f (U9 f mkO) :=
 ⟨⟨ctv,e⟩,⟨_,e⟩,λh1 h2 ⟨c,a⟩ k=>⟨c,k _ a⟩⟩
section
variable{X:Cx}{params:Arguments}{body:Expr}{scope:Scope}{pos:Pos}{c0 Pt:Addr}{cl:List (Str×Addr)}
theorem afA(hB:X.base.BuiltinsAt X.mg Pt)(hcode:X.env.code=.ref c0)(hC:codeHdIn X.K c0 Pt=true)(hcl:closureFor scope X.env=pure cl)(hdef:defaultsOf params X.env=([],[]):=by rfl) :
  PE X (.Lambda params body scope pos) (akc Pt pos (X.env.qual++"<lambda>") λc ctv=>kla_obj "<lambda>" (X.env.qual++"<lambda>") params body scope cl ((X.mg "__name__").getD .none) c ctv):=by
 intro pins s σ H Q I h;obtain⟨oc,la,q⟩:=h;have hg:s.heap.Ns mainGlobals X.mg:=I.ok.mod.glob.keeps I.bk;have C:PySem.W.CodeHd s.heap c0 Pt:=codeHd_of_K I.kIn hC;obtain⟨bm,ob,b1,b2,b3,b4,b5,b6⟩:=hB;have hb:s.heap.BuiltinsAt X.mg Pt:=⟨bm,ob,b1,b2,b3,b4,I.bk _ _ b5,b6⟩;refine PySem.W.kla_eval hdef ?_;cases oc with
 |none =>
  have hP:s.heap.get? Pt=some (tabObj #[]):=I.hok Pt _ la;have hgP:mainGlobals≠Pt:=λz=>by
   obtain⟨o,es,ep,e,hd,_⟩:=hg;rw[z,hP]at e;cases e;cases hd
  refine PySem.W.kla_makeFunction hcl I.ok.glob hg hcode C hP trivial rfl hgP hb λc' ctv h' tk hx hge hlt hrec htb=>?_;generalize eo:kla_obj "<lambda>" (X.env.qual++"<lambda>") params body scope cl ((X.mg "__name__").getD .none) c' ctv=ob';have hf:(h'.push ob').get? h'.objs.size=some ob':=aY _ (by rw[<- eo];rfl);have hps:∀{b:Addr}{o:Obj},h'.get? b=some o->(h'.push ob').get? b=some o:=λe=>aG _ e;have lo:∀{b:Addr}{o:Obj},s.heap.get? b=some o->b≠c'/\b≠h'.objs.size:=λe=>have z:=aU (aJ e) hge;⟨aR z,aR (Nat.lt_trans z hlt)⟩;have lH:∀{b:Addr}{u:HO},H b=some u->b≠c'/\b≠h'.objs.size:=λe=>have z:=aU (I.hok.lt e) hge;⟨aR z,aR (Nat.lt_trans z hlt)⟩;have ptn:Pt≠c'/\Pt≠h'.objs.size:=lo hP;have cf:c'≠h'.objs.size:=aR hlt
  let H':Hp:=upd (upd (upd H Pt (.tbl (trip pos c'))) c' (Jl c' (X.env.qual++"<lambda>"))) h'.objs.size (U9 h'.objs.size λctv=>kla_obj "<lambda>" (X.env.qual++"<lambda>") params body scope cl ((X.mg "__name__").getD .none) c' ctv)
  have eP:H' Pt=some (.tbl (trip pos c')):=(bK ptn.2).trans ((bK ptn.1).trans bI);have ec:H' c'=some (Jl c' (X.env.qual++"<lambda>")):=(bK cf).trans bI;have ef:H' h'.objs.size=some (U9 h'.objs.size λctv=>kla_obj "<lambda>" (X.env.qual++"<lambda>") params body scope cl ((X.mg "__name__").getD .none) c' ctv):=bI;have eo':∀b,b≠Pt->b≠c'->b≠h'.objs.size->H' b=H b:=λb n1 n2 n3=>(bK n3).trans ((bK n2).trans (bK n1));have np:∀{b:Addr}{u:HO},H b=some u->(∀ps,u≠.tbl ps)->b≠Pt:=λe n z=>by rw[z,la]at e;cases e;exact n _ rfl
  have n0:∀{b:Addr},H b=none->b≠Pt:=λe z=>by rw[z,la]at e;cases e
  have un:Un (frs X.stack) [] H H' s.heap (h'.push ob'):=by
   refine⟨λb o e n _ _=>hps (hx b o (n0 n) e),λb o e n _ _=>⟨o.slots,hps (hx b o (n0 n) e)⟩,λb o e n _=>?_,λb o e _=>?_,λb xs e=>?_,λb o u e=>?_,λb ps e=>?_⟩
   .rw[eo' b (n0 n) (lo e).1 (lo e).2];exact n
   .by_cases z:b=Pt
    .subst z;exact⟨_,hps htb⟩
    .exact⟨o,hps (hx b o z e)⟩
   .rw[eo' b (np e (λ_ z=>by cases z)) (lH e).1 (lH e).2];exact e
   .rw[eo' b (np e (λ_ z=>by cases z)) (lH e).1 (lH e).2];exact e
   .by_cases z:b=Pt
    .subst z;rw[la]at e;cases e;exact⟨trip pos c',by rw[eP];simp⟩
    .rw[eo' b z (lH e).1 (lH e).2];exact⟨#[],by rw[e];simp⟩
  have hok:HOk X.prog X.w H' (h'.push ob'):=by
   intro b u e;by_cases z1:b=h'.objs.size
   .subst z1;rw[ef]at e;cases e;exact VH (ctv:=ctv) (by rw[eo];exact hf)
   by_cases z2:b=c'
   .subst z2;rw[ec]at e;cases e;obtain⟨c2,oc,vs,t,e2,ho,hd,hv⟩:=hrec;exact Rh ⟨c2,oc,vs,t,e2,hps ho,hd,hv⟩
   by_cases z3:b=Pt
   .subst z3;rw[eP]at e;cases e;exact hps htb
   .rw[eo' b z3 z2 z1]at e;refine(I.hok b u e).stay (λd o hd r=>?_) (λd r=>?_) λd xs r=>?_
    .refine hps (hx d o (λz=>?_) r);rcases hd with rfl|hd
     .exact z3 z
     .exact np hd (λ_ z=>by cases z) z
    .rw[eo' d (np r (λ_ z=>by cases z)) (lH r).1 (lH r).2];exact r
    .rw[eo' d (np r (λ_ z=>by cases z)) (lH r).1 (lH r).2];exact r
  have J:Inv X pins σ H' { s with heap:=h'.push ob',toks:=tk }:=I.call (g':=s.gens) (d':=s.drawn) (t':=tk) (ch:=[]) un hok I.bare λb z=>nomatch z
  subst eo;refine⟨.ref h'.objs.size,H',J,rfl,q h'.objs.size c' H' ?_ cf.symm (λ_=>?_) (λc0 z=>nomatch z) ⟨eP,ec⟩ ef eo'⟩
  .cases z:H h'.objs.size with
   |none=>rfl
   |some u=>exact absurd rfl (lH z).2
  .cases z:H c' with
   |none=>rfl
   |some u=>exact absurd rfl (lH z).1
 |some c =>
  obtain⟨la1,la2⟩:=la;have hP:s.heap.get? Pt=some (tabObj (trip pos c)):=I.hok Pt _ la1;refine PySem.W.kla_makeFunctionHit (cv:=.ref c) hcl I.ok.glob hg hcode C hP (by simp[TriplesOk,trip,rawInt]) (by simp[codeAmong,trip,rawInt]) hb λctv h' tk hk hsz=>?_;generalize eo:kla_obj "<lambda>" (X.env.qual++"<lambda>") params body scope cl ((X.mg "__name__").getD .none) c ctv=ob';have hf:(h'.push ob').get? h'.objs.size=some ob':=aY _ (by rw[<- eo];rfl);have hps:∀b o,s.heap.get? b=some o->(h'.push ob').get? b=some o:=λb o e=>aG _ (hk b o e);have hn:H h'.objs.size=none:=I.hok.fresh hsz;have cf:c≠h'.objs.size:=bH la2 hn;have un:Un (frs X.stack) [] H (upd H h'.objs.size (U9 h'.objs.size λctv=>kla_obj "<lambda>" (X.env.qual++"<lambda>") params body scope cl ((X.mg "__name__").getD .none) c ctv)) s.heap (h'.push ob'):=Un.laid hps hsz hn;have hok:=I.hok.laid (a:=h'.objs.size) (o:=U9 h'.objs.size λctv=>kla_obj "<lambda>" (X.env.qual++"<lambda>") params body scope cl ((X.mg "__name__").getD .none) c ctv) hps hsz (VH (ctv:=ctv) (by rw[eo];exact hf));have J:=I.call (g':=s.gens) (d':=s.drawn) (t':=tk) (ch:=[]) un hok I.bare λb z=>nomatch z
  subst eo;exact⟨.ref h'.objs.size,_,J,rfl,q h'.objs.size c _ hn cf.symm (λz=>nomatch z) (λc0 z=>by cases z;rfl) ⟨(bK (bH la1 hn)).trans la1,(bK cf).trans la2⟩ bI λb _ _ n=>bK n⟩
end
noncomputable def wo(as:Ε)(H:Hp):Hp:=λb=>if b∈as then none else H b
theorem oY{as:Ε}{H:Hp}{b:Addr}(h:b∉as):wo as H b=H b:=by unfold wo;rw[ZZ h]
theorem Ep{as:Ε}{H:Hp}{b:Addr}(h:b∈as):wo as H b=none:=by unfold wo;rw[ZY h]
theorem sJ{as:Ε}{H:Hp}{b:Addr}{u:HO}(e:wo as H b=some u):b∉as/\H b=some u:=by
 by_cases h:b∈as
 .rw[Ep h]at e;cases e
 .rw[oY h]at e;exact⟨h,e⟩
theorem yW{as:Ε}{H:Hp}{b:Addr}(e:H b=none):wo as H b=none:=by
 unfold wo;split
 .rfl
 .exact e
theorem nW{as:Ε}{H:Hp} : Same (wo as H) H:=λb o e=>(sJ e).2
noncomputable def RQ(base h:Heap)(L:Ε):Heap:=hideAll h ((List.range h.objs.size).filter λb=>!(base.get? b).isSome && !decide (b∈L))
theorem Ux{base h:Heap}{L:Ε} : (RQ base h L).objs.size=h.objs.size:=hideAll_size _ _
theorem zf{base h:Heap}{L:Ε}{b:Addr}{o:Obj}(e:h.get? b=some o)(k:(base.get? b).isSome=true\/b∈L):(RQ base h L).get? b=some o:=by
 refine hideAll_get _ e λz=>?_;have:=(List.mem_filter.mp z).2;rcases k with k|k<;>simp[k]at this
theorem SN{base h:Heap}{L:Ε}{b:Addr}{o:Obj}(e:(RQ base h L).get? b=some o):h.get? b=some o/\((base.get? b).isSome=true\/b∈L):=by
 have e':h.get? b=some o:=of_hideAll _ e;refine⟨e',?_⟩;cases k:(base.get? b).isSome with
 |true=>exact .inl rfl
 |false =>
  by_cases m:b∈L
  .exact .inr m
  .have:(RQ base h L).get? b=none:=hideAll_none _ (List.mem_filter.mpr ⟨List.mem_range.mpr (aJ e'),by simp[k,m]⟩);rw[this]at e;cases e
def aaE(Pt:Addr)(pos:Pos)(qual:Str)(mkO:Addr->Value->Obj)(js:List Nat)(spR:Μ->Addr->Sp)(ta:TA):TE:=λσ H Q=>ta σ H λvs H1=>∃(f c:Addr)(frees:Μ),H1 f=some (U9 f (mkO c))/\f≠c/\vP Pt pos qual H1 (some c)/\(js.map λj=>σ[j]?)=frees.map (λv=>some (some v)) /\
 spR frees f vs (wo [Pt,c,f] H1) (λv H'=>∀H'',(∀b,b≠Pt->b≠c->H'' b=H' b)->vP Pt pos qual H'' (some c)->H' Pt=none->H' c=none->H' f=none->Q v H'') E0
section
variable{X:Cx}
theorem Wi{pins:Ω}{σ:St}{H:Hp}{s:Shared}{scope:Scope}{B:Heap}(I:Inv X pins σ H s):∀{cl:List (Str×Addr)}{js:List Nat}{frees:Μ},(js.map λj=>σ[j]?)=frees.map (λv=>some (some v))->(js.map λj=>X.N[j]?)=cl.map (λq=>some q.1) ->
  (∀q∈cl,X.env.kindOf q.1=some .cell/\X.env.cells.lookup q.1=some q.2/\scope.names.lookup q.1=some .free)->(cl.map (·.1)).Nodup->(∀q∈cl,∀o,s.heap.get? q.2=some o->B.get? q.2=some o)->zE B scope cl frees
 |[],js,frees,h1,h2,_,_,_=>by
  cases js with
  |nil=>cases frees with
   |nil=>exact .nil
   |cons _ _=>cases h1
  |cons _ _=>cases h2
 |(x,c)::cl,js,frees,h1,h2,h3,h4,h5=>by
  cases js with
  |nil=>cases h2
  |cons j js =>
   cases frees with
   |nil=>cases h1
   |cons v frees =>
    simp only[List.map_cons,List.cons.injEq]at h1 h2;obtain⟨k1,k2,k3⟩:=h3 (x,c) aO;obtain⟨m,hn,hl⟩:=I.loc;obtain⟨u,r,l⟩:=hl j x v h2.1 h1.1 (.inr (.inl k1));have q:∃c',X.env.cells.lookup x=some c'/\s.heap.IsCell c' (some u):=by
     rcases l with⟨z,_⟩|⟨_,z⟩
     .rw[show X.env.kindOf x=some .cell from k1]at z;cases z
     .exact z
    obtain⟨c',e1,o,ho,hd⟩:=q;rw[show X.env.cells.lookup x=some c from k2]at e1;cases e1;have nd:=List.nodup_cons.mp h4;have nl:cl.lookup x=none:=by
     cases e:cl.lookup x with
     |none=>rfl
     |some c2=>exact absurd (YV.mpr ⟨(x,c2),yO e,rfl⟩) nd.1
    refine .cons k3 ⟨o,h5 _ aO o ho,hd⟩ r nl (λy hy=>?_) (Wi I h1.2 h2.2 (λq hq=>h3 q (aH _ hq)) nd.2 λq hq=>h5 q (aH _ hq));obtain⟨_,e2,_⟩:=h3 (y,c) (aH _ hy);have:=I.ok.inj x y c k2 e2;subst this;exact nd.1 (YV.mpr ⟨(x,c),hy,rfl⟩)
variable{p pos pos':Pos}{e:Expr}{es:List Expr}{t:TA}{x y:Str}{k kL:Nat}{ps:Β}{Pt fR:Addr}{fd:FuncData}{params:Arguments}{body:Expr}{scope:Scope}{cl:List (Str×Addr)}{js:List Nat}{spL:Μ->Sp}{spR:Μ->Addr->Sp}{qual:Str}{pm:Value}
theorem Vo(hg:Gl X x)(hm:X.mg x=some (.ref fR))(hk:keepIn X.K (.ref fR)=true)(hb:Binds X.K fd ps [])(hr:gU k X.A)
 (F:∀base' frees f,OkL X.prog X.w X.K X.mg base' kL f [y] (spL frees)->cF X.prog X.w X.K X.mg base' CX0 k fR fd ps (spR frees f))
 (L:∀base' frees f c ctv,base'.get? f=some (kla_obj "<lambda>" qual params body scope cl pm c ctv)->base'.CodeRec (.ref c) qual->zE base' scope cl frees->OkL X.prog X.w X.K X.mg base' kL f [y] (spL frees))
 (hj:(js.map λj=>X.N[j]?)=cl.map (λq=>some q.1))(hcl:∀q∈cl,X.env.kindOf q.1=some .cell/\X.env.cells.lookup q.1=some q.2/\scope.names.lookup q.1=some .free)(nd:(cl.map (·.1)).Nodup)(hfn:∀q∈cl,X.fn q.1=true)
 (ha:PA X (e::es) t)(hdb:(x==("__debug__":Str))=false:=by decide)
 (he:starEach (e::es) X.env=(false,eval e X.env)::starEach es X.env:=by rfl)(hpl:(backTo pos' (starEach es X.env)).any (·.1)=false:=by rfl) :
  PE X (.Call (.Name x p) (e::es) [] pos') (aaE Pt pos qual (λc ctv=>kla_obj "<lambda>" qual params body scope cl pm c ctv) js spR t):=by
 intro pins s σ H Q I h;refine wpAny_Call_Name_kw (sG I hg hm ?_ hdb);refine callWith_K (h₀:=X.base) I.ok.mod.kin hk (thn (ha pos' pins s σ H _ I h) ?_) he hpl;rintro us s1 ⟨vs,H1,J,r,f,c,frees,hf,nfc,⟨la1,la2⟩,hfr,q⟩;refine⟨J.kIn,?_⟩;obtain⟨ctv,of_⟩:=(J.hok f _ hf).1;have rc:s1.heap.CodeRec (.ref c) qual:=X6 (J.hok c _ la2);obtain⟨_,oc,ws,tw,ez,hoc,hdc,hqc⟩:=rc;cases ez;have hP:s1.heap.get? Pt=some (tabObj (trip pos c)):=J.hok Pt _ la1;have ncp:c≠Pt:=i_ la2 la1 (by intro z;cases z);have nfp:f≠Pt:=i_ hf la1 (by intro z;cases z)
 let Lk:Ε:=f::c::cl.map (·.2)
 let B:=RQ X.base s1.heap Lk
 let Hn:=wo [Pt,c,f] H1
 have hnO:∀{b:Addr}{u:HO},H1 b=some u->(∀ps,u≠.tbl ps)->(∀φ,u≠.ext φ)->Hn b=some u:=λ{b u}e n1 n2=>(oY (by
  intro z;simp only[YU,List.not_mem_nil,or_false]at z;rcases z with z|z|z<;>subst z
  .rw[la1]at e;cases e;exact n1 _ rfl
  .rw[la2]at e;cases e;exact n2 _ rfl
  .rw[hf]at e;cases e;exact n2 _ rfl)).trans e
 have bB:∀b o,X.base.get? b=some o->B.get? b=some o:=λb o e=>zf (J.bk b o e) (.inl (by rw[e];rfl));have mod:Mod X.K X.mg B:=by
  obtain⟨m1,m2,⟨mb,m3,m4⟩,m5⟩:=J.ok.mod;exact⟨m1.keeps bB,m2.keeps bB,⟨mb,m3.keeps bB,m4⟩,m5.keeps bB⟩
 have cellIn:∀q∈cl,H1 q.2=none/\X.s₀.heap.objs.size<=q.2/\q.2≠X.env.locals:=λq hq=>by
  obtain⟨_,z,_⟩:=hcl q hq;exact⟨J.freeC _ _ z,J.ok.cab _ _ (hfn q hq) z,J.cne _ _ z⟩
 have bs:∀b o,B.get? b=some o->s1.heap.get? b=some o/\Hn b=none:=λb o e=>by
  obtain⟨e1,k⟩:=SN e;refine⟨e1,?_⟩;rcases k with k|k
  .obtain⟨o',ho'⟩:=Option.isSome_iff_exists.mp k;exact yW (J.bs b o' ho').2
  .rcases YU.mp k with rfl|k
   .exact Ep (by simp)
   .rcases YU.mp k with rfl|k
    .exact Ep (by simp)
    .obtain⟨q,hq,rfl⟩:=YV.mp k;exact yW (cellIn q hq).1
 have stk:∀b∈frs X.stack,B.get? b=none:=λb hb'=>by
  cases z:B.get? b with
  |none=>rfl
  |some o =>
   have fr:=J.stkFree b hb';rcases(SN z).2 with k|k
   .have:=(J.stack.mem hb').1;rw[this]at k;cases k
   .rcases YU.mp k with rfl|k
    .rw[hf]at fr;cases fr
    .rcases YU.mp k with rfl|k
     .rw[la2]at fr;cases fr
     .obtain⟨q,hq,rfl⟩:=YV.mp k;obtain⟨_,z1,z2⟩:=cellIn q hq;rcases YU.mp (J.stkSub _ hb')with w|w
      .exact absurd w z2
      .obtain⟨_,o',ho',_⟩:=J.ok.funs.mem w;exact absurd (aU (aJ ho') z1) (X9 _)
 have funs:s1.heap.FunFrames B X.stack:=by
  have all:∀(l:List Env),(∀b∈frs l,B.get? b=none)->s1.heap.FunFrames X.base l->s1.heap.FunFrames B l:=by
   intro l
   induction l with
   |nil=>intro _ _;trivial
   |cons env r ih =>
    intro hs hl;obtain⟨hk',⟨L',o,hf',hn,ho,hd⟩,hr'⟩:=hl;exact⟨hk',⟨L',o,hf',hs L' (by unfold frs;rw[List.filterMap_cons,hf'];exact aO),ho,hd⟩,ih (λb hb'=>hs b (by unfold frs;rw[List.filterMap_cons,hf'];exact aH _ hb')) hr'⟩
  exact all X.stack stk J.stack
 have hok:HOk X.prog X.w Hn s1.heap:=λb u e=>by
  obtain⟨nb,e'⟩:=sJ e;exact(J.hok b u e').stay (λ_ _ _ z=>z) (λd z=>hnO z (λ_ w=>by cases w) λ_ w=>by cases w) λd xs z=>hnO z (λ_ w=>by cases w) λ_ w=>by cases w
 have e0:JG X.prog X.w X.K X.mg B X.A X.stack s1 Hn:=⟨J.ok.frames,mod,bs,by rw[Ux];exact aF _,funs,λb z=>yW (J.stkFree b z),hok,J.bare⟩;have G:=F B frees f (L B frees f c ctv (zf of_ (.inr aO)) ⟨c,oc,ws,tw,rfl,zf hoc (.inr (aH _ aO)),hdc,hqc⟩
  (Wi J hfr hj hcl nd λq hq o ho=>zf ho (.inr (aH _ (aH _ (YV.mpr ⟨q,hq,rfl⟩))))))
 have hl:us.length=ps.length:=by rw[<- r.length];exact G.len _ _ _ _ q
 have hbb:=hb s1 us J.kIn (by rw[List.append_nil];exact hl);rw[List.append_nil]at hbb;refine wpAny_call (codeAny_mono (G.run X.A X.stack s1 Hn ⟨[]++us,[]⟩ us vs _ E0 hr e0 hbb r q) ?_);intro res s' hq;cases res with
 |error e=>exact hq.elim
 |ok fl =>
  cases fl with
  |next=>exact False.elim hq
  |brk=>exact False.elim hq
  |cont=>exact False.elim hq
  |ret u =>
   obtain⟨v,H',os,bare,un,hok',rv,q'⟩:=hq;have np:Pt∉frs X.stack:=λz=>by have:=J.stkFree _ z;rw[la1]at this;cases this
   have nc:c∉frs X.stack:=λz=>by have:=J.stkFree _ z;rw[la2]at this;cases this
   have hnP:Hn Pt=none:=Ep (by simp);have hnC:Hn c=none:=Ep (by simp);have kP:=un.keep Pt _ hP hnP np (by simp);have kC:=un.keep c _ hoc hnC nc (by simp);have fP:=un.free Pt _ hP hnP (by simp);have fC:=un.free c _ hoc hnC (by simp)
   let H'':Hp:=upd (upd H' Pt (.tbl (trip pos c))) c (Jl c qual)
   have eP:H'' Pt=some (.tbl (trip pos c)):=(bK ncp.symm).trans bI;have eC:H'' c=some (Jl c qual):=bI;have eO:∀b,b≠Pt->b≠c->H'' b=H' b:=λb n1 n2=>(bK n2).trans (bK n1);have no:∀{b:Addr}{u:HO},H' b=some u->b≠Pt/\b≠c:=λe=>⟨(λz=>by rw[z,fP]at e;cases e),(λz=>by rw[z,fC]at e;cases e)⟩;have n0:∀{b:Addr},H1 b=none->b≠Pt/\b≠c:=λe=>⟨(λz=>by rw[z,la1]at e;cases e),(λz=>by rw[z,la2]at e;cases e)⟩;have un':Un (frs X.stack) [] H1 H'' s1.heap s'.heap:=by
    refine⟨λb o e n=>un.keep b o e (yW n),λb o e n=>un.slot b o e (yW n),λb o e n z=>?_,un.there,λb xs e=>?_,λb o u e=>?_,λb ps e=>?_⟩
    .rw[eO b (n0 n).1 (n0 n).2];exact un.free b o e (yW n) z
    .have:=un.tups b xs (hnO e (λ_ w=>by cases w) λ_ w=>by cases w);rw[eO b (no this).1 (no this).2];exact this
    .have:=un.frzs b o u (hnO e (λ_ w=>by cases w) λ_ w=>by cases w);rw[eO b (no this).1 (no this).2];exact this
    .by_cases z:b=Pt
     .subst z;rw[la1]at e;cases e;exact⟨#[],by rw[eP];simp⟩
     .obtain⟨more,this⟩:=un.tbls b ps ((oY (by
       intro w;simp only[YU,List.not_mem_nil,or_false]at w;rcases w with w|w|w
       .exact z w
       .subst w;rw[la2]at e;cases e
       .subst w;rw[hf]at e;cases e)).trans e)
      exact⟨more,by rw[eO b (no this).1 (no this).2];exact this⟩
   have hok'':HOk X.prog X.w H'' s'.heap:=λb u e=>by
    by_cases z1:b=c
    .subst z1;rw[eC]at e;cases e;exact Rh ⟨_,oc,ws,tw,rfl,kC,hdc,hqc⟩
    by_cases z2:b=Pt
    .subst z2;rw[eP]at e;cases e;exact kP
    rw[eO b z2 z1]at e;exact(hok' b u e).stay (λ_ _ _ z=>z) (λd z=>by rw[eO d (no z).1 (no z).2];exact z) λd xs z=>by rw[eO d (no z).1 (no z).2];exact z
   exact⟨v,H'',J.call' os un' hok'' bare (λb z=>nomatch z),rv,q' H'' eO ⟨eP,eC⟩ fP fC (un.free f _ of_ (Ep (by simp)) (by simp))⟩
end
def aaU(Pt:Addr)(H:Hp):Prop:=∀b,b≠Pt->H b=none\/∃o xs,H b=some (.frz o (.lst xs))
theorem Yk{P:Program}{w:World}{K:Frag}{mg mb:Str->Ζ}{CX:CXT}{k:Nat}{fa a c0 Pt:Addr}{fd:FuncData}{x:Str}{sp:Sp}{s₁:Shared}{vs:Ξ}{ns:List Int}
 (KX:K.In s₁.heap)(hP:s₁.heap.get? Pt=some (tabObj #[]))(hKP:K.lookup Pt=none)(hC:codeHdIn K c0 Pt=true)(hB:s₁.heap.BuiltinsAt mg Pt)
 (hns:s₁.heap.Ns mainGlobals mg)(hb:s₁.heap.Ns builtinsNs mb)(hbb:∀x:Str,x≠"__name__"->mb x=bootBuiltins x)(hlim:s₁.heap.NoLimit)(hg:s₁.gens = #[])
 (ha:s₁.heap.get? a=some { cls:=.type "list",data:=.seq vs.toArray })(hi:IntsAre vs ns)(hl:ns.length<=sizeLine)(hr:gU k callerA)
 (F:∀base:Heap,K.In base->base.Ns mainGlobals mg->base.BuiltinsAt mg Pt->cF P w K mg base CX k fa fd [x] sp)(hbind:∀(s:Shared)(u:Value),BindsTo s fd ⟨[u],[]⟩ [(x,u)])
 (hsp:∀H:Hp,aaU Pt H->H Pt=some (.tbl #[])->SqL K H a (ns.map V.int)->sp [.ref a] H (λv _=>v=.bl true) λ_ _ _=>False)
 (hCX:∀H e s',CX [] H s₁ (λ_ _ _=>False) e s'->False) :
  codeAny (model P w) callerA (.call (.ref fa) ⟨[.ref a],[]⟩) (λr s'=>r=.ok (.ret (.bool true))/\OldK s₁.heap s'.heap/\s'.os=s₁.os/\AllBare s'.gens) s₁:=by
 have rv:=yV hi;have lenV:=hi.length;have nPa:a≠Pt:=λz=>by rw[z,hP]at ha;cases ha
 have core:∀H:Hp,aaU Pt H->H Pt=some (.tbl #[])->SqL K H a (ns.map V.int)->HOk P w H s₁.heap->(∀b,H b≠none->b=a\/b=Pt)->(H a≠none->K.lookup a=none) ->
   codeAny (model P w) callerA (.call (.ref fa) ⟨[.ref a],[]⟩) (λr s'=>r=.ok (.ret (.bool true))/\OldK s₁.heap s'.heap/\s'.os=s₁.os/\AllBare s'.gens) s₁:=by
  intro H hO hT hS hok hA hK;have base_of:∀{b:Addr}{o:Obj},s₁.heap.get? b=some o->H b=none->(Af s₁.heap H).get? b=some o:=λe n=>Rj e n;have noA:∀{b:Addr}{o:Obj}{es:Array DictEntry}{ep:Nat},s₁.heap.get? b=some o->o.data=.dict es ep->H b=none:=λ{b o es ep}e d=>by
   cases q:H b with
   |none=>rfl
   |some u =>
    rcases hA b (by rw[q];simp)with e'|e'
    .subst e';rw[ha]at e;cases e;have d':Data.seq vs.toArray _=Data.dict es ep:=d;cases d'
    .subst e';rw[hP]at e;cases e;cases d
  have nsK:∀{b:Addr}{m:Str->Ζ},s₁.heap.Ns b m->(Af s₁.heap H).Ns b m:=λ{b m}h=>by
   obtain⟨o,es,ep,e,d,r⟩:=h;exact⟨o,es,ep,base_of e (noA e d),d,r⟩
  have hKb:K.In (Af s₁.heap H):=λb o e=>base_of (KX b o e) (by
   cases q:H b with
   |none=>rfl
   |some u =>
    rcases hA b (by rw[q];simp)with e'|e'
    .subst e';rw[hK (by rw[q];simp)]at e;cases e
    .subst e';rw[hKP]at e;cases e)
  have hBb:(Af s₁.heap H).BuiltinsAt mg Pt:=by
   obtain⟨bm,o,b1,b2,b3,b4,b5,b6,b7⟩:=hB;refine⟨bm,o,b1,b2,b3,b4,base_of b5 ?_,b6,b7⟩;cases q:H bm with
   |none=>rfl
   |some u =>
    rcases hA bm (by rw[q];simp)with e'|e'
    .subst e';rw[ha]at b5;cases b5;injection b6 with z;exact absurd z (by decide)
    .exact absurd e' b4
  have hM:Mod K mg (Af s₁.heap H):=⟨hKb,nsK hns,⟨mb,nsK hb,hbb⟩,by obtain⟨mc,h1,h2⟩:=hlim;exact⟨mc,nsK h1,h2⟩⟩;have e0:JG P w K mg (Af s₁.heap H) callerA [] s₁ H:=⟨rfl,hM,λb o e=>WY e,Nat.le_of_eq (Lb _ _),trivial,λb hb=>absurd (show b∈([] : Ε)from hb) (by simp),hok,.of_eq hg⟩;refine codeAny_mono ((F _ hKb (nsK hns) hBb).run callerA [] s₁ H ⟨[.ref a],[]⟩ [.ref a] [.ref a] _ _ hr e0 (hbind s₁ (.ref a)) (.cons rfl .nil) (hsp H hO hT hS)) λr s' h=>?_;cases r with
  |error e=>exact(hCX H e s' h).elim
  |ok fl =>
   cases fl with
   |next=>exact False.elim h
   |brk=>exact False.elim h
   |cont=>exact False.elim h
   |ret u =>
    obtain⟨v,H',os,bare,un,hok',r',q⟩:=h;have q':v=.bl true:=q;subst q';obtain rfl:u=Value.bool true:=r';have kp:∀b o,b≠Pt->s₁.heap.get? b=some o->s'.heap.get? b=some o:=λb o n e=>by
     cases q:H b with
     |none=>exact un.keep b o e q (by intro z;exact absurd (show b∈([] : Ε)from z) (by simp)) (by simp)
     |some u =>
      rcases hO b n with z|⟨ob,xs,z⟩
      .rw[q]at z;cases z
      .have z2:=un.frzs b ob _ z;obtain⟨e1,_⟩:=hok b _ z;obtain⟨e2,_⟩:=hok' b _ z2;rw[e]at e1;cases e1;exact e2
    obtain⟨more,hm⟩:=un.tbls Pt _ hT;have hP':s'.heap.get? Pt=some (tabObj (#[]++more)):=hok' Pt _ hm;refine⟨rfl,⟨λb o e=>?_,λb o e=>?_⟩,os,bare⟩
    .by_cases z:b=Pt
     .subst z;rw[hP]at e;cases e;exact .inr (.inl ⟨((codeHd_of_K KX hC).tab hP).isCodeTable,rfl,#[],more,rfl,hP'⟩)
     .exact .inl (kp b o z e)
    .by_cases z:b=Pt
     .subst z;exact⟨_,hP'⟩
     .exact⟨o,kp b o z e⟩
 cases hk:K.lookup a with
 |some o =>
  have e:=KX a o hk;rw[ha]at e;cases e;refine core (λb=>if b=Pt then some (.tbl #[])else none) (λb n=>.inl (ZZ n)) (ZY rfl) (.inr ⟨_,vs.toArray,_,hk,rfl,rfl,rfl,by rw[aZ,lenV];exact hl,by simpa using rv⟩) (λb u z=>?_) (λb z=>?_) λz=>absurd (ZZ nPa) z
  .by_cases hb:b=Pt
   .have z':=(ZY hb).symm.trans z;cases z';subst hb;exact hP
   .have z':=(ZZ hb).symm.trans z;cases z'
  .by_cases hb:b=Pt
   .exact .inr hb
   .exact absurd (ZZ hb) z
 |none =>
  refine core (λb=>if b=a then some (.frz { cls:=.type "list",data:=.seq vs.toArray } (.lst (ns.map V.int)))else if b=Pt then some (.tbl #[])else none) (λb n=>?_) ((ZZ nPa.symm).trans (ZY rfl)) (.inl (.inr ⟨{ cls:=.type "list",data:=.seq vs.toArray },ZY rfl⟩)) (λb u z=>?_) (λb z=>?_) λ_=>hk
  .by_cases hb:b=a
   .exact .inr ⟨_,_,ZY hb⟩
   .exact .inl ((ZZ hb).trans (ZZ n))
  .by_cases hb:b=a
   .have z':=(ZY hb).symm.trans z;cases z';subst hb;exact⟨ha,by rw[ak];exact hl,vs,_,rv,ha⟩
   .by_cases hb':b=Pt
    .have z':=((ZZ hb).trans (ZY hb')).symm.trans z;cases z';subst hb';exact hP
    .have z':=((ZZ hb).trans (ZZ hb')).symm.trans z;cases z'
  .by_cases hb:b=a
   .exact .inl hb
   .by_cases hb':b=Pt
    .exact .inr hb'
    .exact absurd ((ZZ hb).trans (ZZ hb')) z
def Nk(K:Frag)(Pt:Addr):Sp:=λvs H Q _=>∃(a:Addr)(ns:List Int),vs=[.ref a]/\SqL K H a (ns.map V.int)/\ns.length<=63/\aaU Pt H/\H Pt=some (.tbl #[])/\∀H',Q (.bl true) H'
theorem aeR{l:PySem.W.OpenLaw}{k:Nat}{x:Str}{q:Program}{loose:Β}{XP:(Str->Ζ)->Heap->Prop}{YP:World->Heap->Prop}{d:DefRec}{K:Params->Frag}(Pt:Addr)(c0:Addr)(hn:l.most=some 63)(hdf:d.params.defaults=[])
 (hr:gU k callerA)(hY:∀(w:World)(h:Heap),YP w h->(K w.params).In h/\h.get? Pt=some (tabObj #[]))(hKP:∀w:World,(K w.params).lookup Pt=none)(hC:∀w:World,codeHdIn (K w.params) c0 Pt=true)
 (F:∀(w:World)(mg:Str->Ζ)(fa:Addr)(h:Heap),(K w.params).In h->h.Ns mainGlobals mg->mg d.name=some (.ref fa) ->
   ∃st,dO (K w.params) mg d.name st [x]/\∀(base:Heap)(f:Addr)(fd:FuncData),base.BuiltinsAt mg Pt->Fun (K w.params) d.name d.name st f fd->cF l.prog w (K w.params) mg base CX0 k f fd [x] (Nk (K w.params) Pt)) :
  PySem.W.WalkO q loose XP YP l.row.toRowW d [] (λf vs=>PySem.call f vs):=by
 refine Att.EY hn hdf λw s₀ s₁ mg mb fa o pm cd doc a vs ns G Y ho hd hcd hmg hobj hints hlen hg=>?_;obtain⟨KX,hP⟩:=hY w _ Y;obtain⟨st,⟨f,fd,hf,hb,hm⟩,ok⟩:=F w mg fa _ KX G.T.g hmg;rw[hm]at hmg;have e:f=fa:=by injection hmg with z;injection z
 subst e;have C:=codeHd_of_K KX (hC w);obtain⟨bm,ob,b1,b2,b3,b4,b5,b6⟩:=G.T.bmain;have hB:s₁.heap.BuiltinsAt mg Pt:=by
  refine⟨bm,ob,b1,b2,λz=>?_,λz=>?_,b3,b4,b5,b6⟩
  .obtain⟨o',es,ep,e,d',_⟩:=G.T.g;rw[z,e]at b3;cases b3;rw[d']at b6;cases b6
  .rw[z,hP]at b3;cases b3;cases b4
 exact Yk (sp:=Nk (K w.params) Pt) KX hP (hKP w) (hC w) hB G.T.g G.T.b G.T.builtins G.T.nolimit hg hobj hints (aM hlen (by decide)) hr (λbase _ _ hB=>ok base f fd hB hf) (λs u=>.of_eq (hb [u] rfl)) (λH hO hT hS=>⟨a,ns,rfl,hS,hlen,hO,hT,λ_=>rfl⟩) λH e s' z=>z
def acq(K:Frag)(mg:Str->Ζ)(x:Str)(st:Stmt)(ps:Β)(Pt:Addr):Prop :=
 ∃f fd c,Fun K x x st f fd/\(∀us:Ξ,us.length=ps.length->bindArgs fd ⟨us,[]⟩=pure (ps.zip us))/\mg x=some (.ref f)/\fd.code=.ref c/\codeHdIn K c Pt=true
section
variable{P:Program}{w:World}{K:Frag}{mg:Str->Ζ}{base:Heap}
theorem acq.okX{k:Nat}{x:Str}{st:Stmt}{ps:Β}{sp:Sp}{Pt:Addr}(h:acq K mg x st ps Pt)
 (hf:∀f fd c,Fun K x x st f fd->fd.code=.ref c->codeHdIn K c Pt=true->cF P w K mg base (CXO P w) k f fd ps sp):OkX P w K mg base k x ps sp:=by
 obtain⟨f,fd,c,a,b,d,e,g⟩:=h;exact⟨f,fd,hf f fd c a e g,.all b,d,a.kp⟩
theorem Fun.okXc{x qual:Str}{st:Stmt}{f:Addr}{fd:FuncData}{N ps:Β}{k:Nat}{sp:Sp}{c0:Addr}(F:Fun K x qual st f fd)(hc:fd.code=.ref c0)(S:bZ N ps (bN st))(len:∀vs H Q E,sp vs H Q E->vs.length=ps.length)
 (hbody:∀(A:Around)(outer:List Env)(s:Shared)(H:Hp)(vs:Μ)(Q:VK)(E:XK),gU k (A.deeper (envOfC qual (bN st) s.heap.objs.size f (.ref c0)))->sp vs H Q E ->
   ∃t,PSs (Io (CXO P w) P w K mg base N qual (bN st) f (.ref c0) A outer s H E) (fQ st) t/\t { nx:=λ_ H'=>Q .non H',rt:=Q } (L2.start N vs) H):cF P w K mg base (CXO P w) (k+1) f fd ps sp:=by
 obtain⟨oc,od,kV,doc,pm,an,cdv,ct,osl,rfl,lk,hcd⟩:=F.ex;have hc:cdv=.ref c0:=hc;subst hc;exact YF lk hcd S len λA outer s H vs Q E hr hsp=>hbody A outer s H vs Q E hr hsp
theorem q_C{h:Heap}{x:Str}{st:Stmt}{ps:Β}{f c0 Pt:Addr}{oc:Value}{od an:Η}{osl:Array (Ζ)}{kV doc pm ct:Value}(N:Nat)(hb:∀(kV doc pm:Value)(an:Η)(cdv ct:Value),Lst N λus=>bindArgs (PySem.W.fnOf x x (iI st) (fQ st) (bN st) .none kV doc pm an cdv ct) ⟨us,[]⟩=pure (ps.zip us))(hN:ps.length=N:=by rfl)(X:K.In h:=by assumption)(G:h.Ns mainGlobals mg:=by assumption)
 (a:nsIn K mainGlobals x=some (some (.ref f)):=by k_is)(l:K.lookup f=some ⟨oc,od,.func (PySem.W.fnOf x x (iI st) (fQ st) (bN st) .none kV doc pm an (.ref c0) ct),osl⟩:=by k_is)
 (c:codeIn K (.ref c0) x=true:=by k_is)(k:keepIn K (.ref f)=true:=by k_is)(z:codeHdIn K c0 Pt=true:=by kernel_rfl):acq K mg x st ps Pt :=
 ⟨f,_,c0,U_ l c k,λus e=>Gq N (hb kV doc pm an (.ref c0) ct) us (e.trans hN),mg_of X G a,rfl,z⟩
def spF(Pt:Addr)(sp:Sp):Sp:=λvs H Q _=>∃(G:Hp)(t:Array Value),G Pt=none/\H=upd G Pt (.tbl t)/\sp vs G (λv G'=>G' Pt=none->Q v (upd G' Pt (.tbl t))) E0
theorem cF.frame{k:Nat}{f:Addr}{fd:FuncData}{ps:Β}{sp:Sp}(Pt:Addr)(F:cF P w K mg base CX0 k f fd ps sp):cF P w K mg base CX0 k f fd ps (spF Pt sp):=by
 refine⟨λvs H Q E h=>?_,λA outer s H args us vs Q E hr e0 hb r h=>?_⟩
 .obtain⟨G,t,_,_,z⟩:=h;exact F.len vs G _ E0 z
 obtain⟨G,t,g0,rfl,z⟩:=h;have eP:upd G Pt (.tbl t) Pt=some (.tbl t):=bI;have eO:∀b,b≠Pt->upd G Pt (.tbl t) b=G b:=λb n=>bK n;have hP:s.heap.get? Pt=some (tabObj t):=e0.hok Pt _ eP;have no:∀{b:Addr}{u:HO},G b=some u->b≠Pt:=λe z=>by rw[z,g0]at e;cases e
 have non:∀{b:Addr},upd G Pt (.tbl t) b=none->G b=none:=λ{b}e=>by
  by_cases z:b=Pt
  .rw[z];exact g0
  .rw[<- eO b z];exact e
 have e1:JG P w K mg base A outer s G:=⟨e0.frames,e0.mod,λb o e=>⟨(e0.bs b o e).1,non (e0.bs b o e).2⟩,e0.bsz,e0.funs,λb hb=>non (e0.frf b hb),λb u e=>by
  have e':upd G Pt (.tbl t) b=some u:=(eO b (no e)).trans e;refine(e0.hok b u e').stay (λ_ _ _ z=>z) (λd z=>?_) λd xs z=>?_
  .rw[eO d (λw=>by rw[w,eP]at z;cases z)]at z;exact z
  .rw[eO d (λw=>by rw[w,eP]at z;cases z)]at z;exact z,e0.bare⟩
 refine codeAny_mono (F.run A outer s G args us vs _ E0 hr e1 hb r z) λres s' hs=>?_;cases res with
 |error e=>exact hs.elim
 |ok fl =>
  cases fl with
  |next=>exact False.elim hs
  |brk=>exact False.elim hs
  |cont=>exact False.elim hs
  |ret u =>
   obtain⟨v,H',os,bare,un,hok,rv,q⟩:=hs;have nP:Pt∉frs outer:=λz=>by have:=e0.frf _ z;rw[eP]at this;cases this
   have kP:=un.keep Pt _ hP g0 nP (by simp);have fP:=un.free Pt _ hP g0 (by simp);have no':∀{b:Addr}{u:HO},H' b=some u->b≠Pt:=λe z=>by rw[z,fP]at e;cases e
   have eP':upd H' Pt (.tbl t) Pt=some (.tbl t):=bI;have eO':∀b,b≠Pt->upd H' Pt (.tbl t) b=H' b:=λb n=>bK n;have back:∀{b:Addr}{u:HO},upd G Pt (.tbl t) b=some u->(∀ps,u≠.tbl ps)->G b=some u:=λ{b u}e n=>by
    rw[eO b (λw=>by rw[w,eP]at e;cases e;exact n _ rfl)]at e;exact e
   refine⟨v,upd H' Pt (.tbl t),os,bare,⟨λb o e n=>un.keep b o e (non n),λb o e n=>un.slot b o e (non n),λb o e n z=>?_,un.there,λb xs e=>?_,λb o u e=>?_,λb ps e=>?_⟩,λb u e=>?_,rv,q fP⟩
   .rw[eO' b (λw=>by rw[w,eP]at n;cases n)];exact un.free b o e (non n) z
   .have:=un.tups b xs (back e (λ_ w=>by cases w));rw[eO' b (no' this)];exact this
   .have:=un.frzs b o u (back e (λ_ w=>by cases w));rw[eO' b (no' this)];exact this
   .by_cases z:b=Pt
    .subst z;rw[eP]at e;cases e;exact⟨#[],by rw[eP'];simp⟩
    .rw[eO b z]at e;obtain⟨more,this⟩:=un.tbls b ps e;exact⟨more,by rw[eO' b z];exact this⟩
   .by_cases z:b=Pt
    .subst z;rw[eP']at e;cases e;exact kP
    .rw[eO' b z]at e;exact(hok b u e).stay (λ_ _ _ z=>z) (λd z=>(eO' d (no' z)).trans z) λd xs z=>(eO' d (no' z)).trans z
theorem OkF.frame{k:Nat}{x:Str}{ps:Β}{sp:Sp}(Pt:Addr)(G:OkF P w K mg base k x ps sp):OkF P w K mg base k x ps (spF Pt sp):=by
 obtain⟨f,fd,F,b,hm,kp⟩:=G;exact⟨f,fd,F.frame Pt,b,hm,kp⟩
end
theorem YX{K:Frag}{a:Addr}{o:Obj}{h:Heap}(X:Frag.In (K++[(a,o)]) h)(hk:K.lookup a=none):K.In h/\h.get? a=some o:=by
 refine⟨λb u e=>X b u ?_,X a o ?_⟩
 .rw[List.lookup_append,e];rfl
 .rw[List.lookup_append,hk];simp[List.lookup]
end L2
namespace Lv
noncomputable def Ys(bs:List Nat):Nat:=bs.foldl Nat.lcm 1
theorem zQ:∀(bs:List Nat)(a m:Nat),bs.foldl Nat.lcm a ∣ m↔a ∣ m/\∀b∈bs,b ∣ m
 |[],a,m=>by simp
 |b::bs,a,m=>by
  rw[List.foldl_cons,zQ bs,Nat.lcm_dvd_iff];simp only[YU,forall_eq_or_imp,and_assoc]
theorem Di{bs:List Nat}{m:Nat} : Ys bs ∣ m↔∀b∈bs,b ∣ m:=by
 unfold Ys;rw[zQ];simp
theorem Gz{bs:List Nat}{b:Nat}(h:b∈bs):b ∣ Ys bs:=Di.mp (Nat.dvd_refl _) b h
theorem zR:∀(bs:List Nat)(a:Nat),0<a->(∀b∈bs,0<b)->0<bs.foldl Nat.lcm a
 |[],a,h,_=>h
 |b::bs,a,h,hb=>zR bs _ (Nat.lcm_pos h (hb b aO)) λc hc=>hb c (aH _ hc)
theorem R9{bs:List Nat}(h:∀b∈bs,0<b):0<Ys bs:=zR bs 1 (by decide) h
end Lv
namespace Ac
noncomputable def lw(t b:Int):Int×Int:=(t/(Int.gcd t b:Nat),b/(Int.gcd t b:Nat))
theorem abA{t b:Int}(hb:0<b):(0:Int)<(Int.gcd t b:Nat):=by
 have:=Int.gcd_pos_of_ne_zero_right t (show b≠0 by exact Int.ne_of_gt hb);lia
theorem lB{t b:Int}(hb:0<b):0<(lw t b).2:=Int.ediv_pos_of_pos_of_dvd hb (XZ (abA hb)) (Int.gcd_dvd_right t b)
theorem Al{t b:Int}(hb:0<b):Int.gcd (lw t b).1 (lw t b).2=1:=Int.gcd_ediv_gcd_ediv_gcd (by have:=abA (t:=t) hb;lia)
theorem Dg{t b:Int}(hb:0<b):(lw t b).1*b=t*(lw t b).2:=by
 have d1:=Int.gcd_dvd_left t b;have d2:=Int.gcd_dvd_right t b;have g0:=abA (t:=t) hb;unfold lw;generalize hg:((Int.gcd t b:Nat):Int)=g at *;obtain⟨x,rfl⟩:=d1;obtain⟨y,rfl⟩:=d2;show g*x/g*(g*y)=g*x*(g*y/g);rw[Int.mul_ediv_cancel_left _ (Int.ne_of_gt g0),Int.mul_ediv_cancel_left _ (Int.ne_of_gt g0),Int.mul_left_comm,Int.mul_assoc]
theorem Im(t b:Int):(lw t b).1.natAbs<=t.natAbs:=Int.natAbs_ediv_le_natAbs _ _
theorem Er(t b:Int):(lw t b).2.natAbs<=b.natAbs:=Int.natAbs_ediv_le_natAbs _ _
theorem Wu{a b c:Int}(h:a ∣ b*c)(g:Int.gcd a b=1):a ∣ c:=by
 refine Int.natAbs_dvd_natAbs.mp ((show Nat.Coprime a.natAbs b.natAbs from g).dvd_of_dvd_mul_left ?_);rw[<- Int.natAbs_mul];exact Int.natAbs_dvd_natAbs.mpr h
theorem uniq{x y u v:Int}(hy:0<y)(hv:0<v)(g1:Int.gcd x y=1)(g2:Int.gcd u v=1)(e:x*v=u*y):x=u/\y=v:=by
 have d1:y ∣ v:=by
  have h:y ∣ x*v:=⟨u,by rw[e,Int.mul_comm]⟩;exact Wu h (by rw[Int.gcd_comm];exact g1)
 have d2:v ∣ y:=by
  have h:v ∣ u*y:=⟨x,by rw[<- e,Int.mul_comm]⟩;exact Wu h (by rw[Int.gcd_comm];exact g2)
 have e2:y=v:=Int.dvd_antisymm (XZ hy) (XZ hv) d1 d2;subst e2;exact⟨Int.eq_of_mul_eq_mul_right (Int.ne_of_gt hy) e,rfl⟩
theorem aaj{t b x y:Int}(hb:0<b)(hy:0<y)(g:Int.gcd x y=1)(e:x*b=t*y):x=(lw t b).1/\y=(lw t b).2:=by
 refine uniq hy (lB hb) g (Al hb) ?_;have h:=Dg (t:=t) hb;have h1:x*(lw t b).2*b=(lw t b).1*y*b:=by
  rw[Int.mul_right_comm,e,Int.mul_right_comm _ y b,h,Int.mul_right_comm]
 exact Int.eq_of_mul_eq_mul_right (Int.ne_of_gt hb) h1
theorem aeA{W x S z o:Int}(hS:0<S)(ho:0<o)(g:Int.gcd z o=1)(e:z*((lw W S).2*(lw x S).2)=((lw W S).1*(lw x S).2+(lw x S).1*(lw W S).2)*o):z=(lw (W+x) S).1/\o=(lw (W+x) S).2:=by
  refine aaj hS ho g ?_;have h1:=Dg (t:=W) hS;have h2:=Dg (t:=x) hS;have p1:=lB (t:=W) hS;have p2:=lB (t:=x) hS;generalize(lw W S).1=a at *;generalize(lw W S).2=b at *;generalize(lw x S).1=c at *;generalize(lw x S).2=d at *;have key:z*S*(b*d)=(W+x)*o*(b*d):=by
    calc z*S*(b*d)=z*(b*d)*S:=by rw[Int.mul_right_comm]
      _=(a*d+c*b)*o*S:=by rw[e]
      _=(a*S*d+c*S*b)*o:=by
        rw[Int.mul_right_comm,Int.add_mul,Int.mul_right_comm a d S,Int.mul_right_comm c b S]
      _=(W*b*d+x*d*b)*o:=by rw[h1,h2]
      _=(W+x)*o*(b*d):=by
        rw[Int.mul_assoc W,Int.mul_assoc x,Int.mul_comm d b,<- Int.add_mul,Int.mul_right_comm]
  exact Int.eq_of_mul_eq_mul_right (Int.ne_of_gt (Xs p1 p2)) key
theorem Px{x S z o:Int}(hS:0<S)(ho:0<o)(g:Int.gcd z o=1)(e:z*(1*(lw x S).2)=(1*(lw x S).2-(lw x S).1*1)*o):z=(lw (S-x) S).1/\o=(lw (S-x) S).2:=by
  refine aaj hS ho g ?_;have h2:=Dg (t:=x) hS;have p2:=lB (t:=x) hS;generalize(lw x S).1=c at *;generalize(lw x S).2=d at *;rw[Int.one_mul,Int.mul_one]at e;have key:z*S*d=(S-x)*o*d:=by
    calc z*S*d=z*d*S:=by rw[Int.mul_right_comm]
      _=(d-c)*o*S:=by rw[e]
      _=(d*S-c*S)*o:=by rw[Int.mul_right_comm,Int.sub_mul]
      _=(d*S-x*d)*o:=by rw[h2]
      _=(S-x)*o*d:=by rw[Int.mul_comm d S,<- Int.sub_mul,Int.mul_right_comm]
  exact Int.eq_of_mul_eq_mul_right (Int.ne_of_gt p2) key
theorem yU{t b:Int}(hb:0<b):((lw t b).1=0/\(lw t b).2=1)↔t=0:=by
 have h:=Dg (t:=t) hb;have p:=lB (t:=t) hb;constructor
 .rintro⟨h1,h2⟩;rw[h1,h2]at h;lia
 .rintro rfl;have g:=Al (t:=0) hb;rw[Int.zero_mul]at h;have h0:(lw 0 b).1=0:=by
   rcases Int.mul_eq_zero.mp h with z|z
   .exact z
   .lia
  rw[h0,Int.gcd_zero_left]at g;exact⟨h0,by lia⟩
theorem aeb{t b:Int}(hb:0<b)(ht:0<=t):0<=(lw t b).1:=Int.ediv_nonneg ht (XZ (abA hb))
theorem aec{t b:Int}(hb:0<b)(ht:t<=b):(lw t b).1<=(lw t b).2:=Int.ediv_le_ediv (abA hb) ht
theorem aeQ{b:Int}(hb:0<b):(lw 1 b).1=1/\(lw 1 b).2=b:=by
 have:=aaj (t:=1) (b:=b) (x:=1) (y:=b) hb hb (by rw[Int.gcd_comm];simp) (by rw[Int.mul_comm]);exact⟨this.1.symm,this.2.symm⟩
section
variable{κ:Type}[DecidableEq κ]
noncomputable def look(acc:List (κ×Int))(r:κ):Int:=((acc.find? λg=>decide (g.1=r)).map (·.2)).getD 0
noncomputable def put(acc:List (κ×Int))(r:κ)(y:Int):List (κ×Int):=if(acc.any λg=>decide (g.1=r))=true then acc.map (λg=>if g.1=r then(g.1,y)else g)else acc++[(r,y)]
def jU(gs:List (κ×Int)):List (κ×Int):=gs.foldl (λa g=>put a g.1 (look a g.1+g.2)) []
theorem DN(gs:List (κ×Int))(g:κ×Int):jU (gs++[g])=put (jU gs) g.1 (look (jU gs) g.1+g.2):=by
 unfold jU;rw[List.foldl_append];rfl
theorem ac6(acc:List (κ×Int))(r:κ)(y:Int):(put acc r y).length<=acc.length+1:=by
 unfold put;split
 .rw[ak];exact Y3 _
 .rw[aA];simp
theorem Zj{acc:List (κ×Int)}(h:(acc.map (·.1)).Nodup)(r:κ)(y:Int):((put acc r y).map (·.1)).Nodup:=by
 unfold put;split
 .have e:(acc.map (λg=>if g.1=r then(g.1,y)else g)).map (·.1)=acc.map (·.1):=by
   rw[List.map_map];refine List.map_congr_left λg _=>?_;show(if g.1=r then(g.1,y)else g).1=g.1;split<;>rfl
  rw[e];exact h
 .rename_i hn
  rw[bA];refine List.nodup_append.mpr ⟨h,by simp,?_⟩;intro a ha b hb e;subst e;simp only[List.map_cons,List.map_nil,YR]at hb;subst hb;obtain⟨g,hg,e⟩:=YV.mp ha;exact hn (List.any_eq_true.mpr ⟨g,hg,Zs e⟩)
theorem R6(acc:List (κ×Int))(r:κ):look acc r=0\/∃g∈acc,look acc r=g.2:=by
 unfold look;cases h:acc.find? λg=>decide (g.1=r)with
 |none=>exact .inl rfl
 |some g=>exact .inr ⟨g,List.mem_of_find?_eq_some h,rfl⟩
theorem ab6{acc:List (κ×Int)}{r:κ}{y:Int}{g:κ×Int}(h:g∈put acc r y):g.2=y\/g∈acc:=by
 unfold put at h;split at h
 .obtain⟨g',hg,e⟩:=YV.mp h;split at e
  .subst e;exact .inl rfl
  .subst e;exact .inr hg
 .rcases Y1.mp h with h|h
  .exact .inr h
  .rw[YR.mp h];exact .inl rfl
theorem xK(gs:List (κ×Int)):(∀g∈gs,0<=g.2)->((jU gs).map (·.1)).Nodup/\(jU gs).length<=gs.length/\∀g∈jU gs,0<=g.2/\g.2<=(gs.map (·.2)).sum:=by
 suffices H:∀(n:Nat)(gs:List (κ×Int)),gs.length=n->(∀g∈gs,0<=g.2)->((jU gs).map (·.1)).Nodup/\(jU gs).length<=gs.length/\(0<=(gs.map (·.2)).sum)/\∀g∈jU gs,0<=g.2/\g.2<=(gs.map (·.2)).sum from λh=>let⟨a,b,_,c⟩:=H _ gs rfl h;⟨a,b,c⟩
 intro n
 induction n with
 |zero =>
  intro gs h _;rw[List.eq_nil_of_length_eq_zero h];exact⟨by simp[jU],by simp[jU],by simp,by simp[jU]⟩
 |succ n ih =>
  intro gs h hp;obtain⟨gs',g,rfl⟩ : ∃gs' g,gs=gs'++[g]:=⟨gs.dropLast,gs.getLast (by intro e;rw[e]at h;cases h),(List.dropLast_concat_getLast _).symm⟩;have hl:gs'.length=n:=by rw[aA]at h;simpa using h
  obtain⟨h1,h2,h3,h4⟩:=ih gs' hl λg hg=>hp g (List.mem_append_left _ hg);have hg:=hp g (aQ _ (by simp));rw[DN];have hs:((gs'++[g]).map (·.2)).sum=(gs'.map (·.2)).sum+g.2:=by simp
  rw[hs];have lk:0<=look (jU gs') g.1/\look (jU gs') g.1<=(gs'.map (·.2)).sum:=by
   rcases R6 (jU gs') g.1 with e|⟨u,hu,e⟩
   .rw[e];exact⟨Int.le_refl _,h3⟩
   .rw[e];exact h4 u hu
  refine⟨Zj h1 _ _,?_,by lia,λu hu=>?_⟩
  .have:=ac6 (jU gs') g.1 (look (jU gs') g.1+g.2);rw[aA];simp only[List.length_cons,List.length_nil];exact aM this (Nat.succ_le_succ h2)
  .rcases ab6 hu with e|hu
   .rw[e];lia
   .have:=h4 u hu;lia
theorem adp{acc:List (κ×Int)}{r:κ}{y:Int}{g:κ×Int}(h:g∈put acc r y):g.1=r\/g.1∈acc.map (·.1):=by
 unfold put at h;split at h
 .obtain⟨g',hg,e⟩:=YV.mp h;split at e
  .subst e;exact .inr (YV.mpr ⟨g',hg,rfl⟩)
  .subst e;exact .inr (YV.mpr ⟨_,hg,rfl⟩)
 .rcases Y1.mp h with h|h
  .exact .inr (YV.mpr ⟨_,h,rfl⟩)
  .rw[YR.mp h];exact .inl rfl
theorem abZ(gs:List (κ×Int)):∀g∈jU gs,g.1∈gs.map (·.1):=by
 suffices H:∀(n:Nat)(gs:List (κ×Int)),gs.length=n->∀g∈jU gs,g.1∈gs.map (·.1)from H _ gs rfl
 intro n
 induction n with
 |zero =>
  intro gs h g hg;rw[List.eq_nil_of_length_eq_zero h]at hg;simp[jU]at hg
 |succ n ih =>
  intro gs h u hu;obtain⟨gs',g,rfl⟩ : ∃gs' g,gs=gs'++[g]:=⟨gs.dropLast,gs.getLast (by intro e;rw[e]at h;cases h),(List.dropLast_concat_getLast _).symm⟩;have hl:gs'.length=n:=by rw[aA]at h;simpa using h
  rw[DN]at hu;rw[bA];rcases adp hu with e|e
  .rw[e];exact aQ _ (by simp)
  .obtain⟨v,hv,e⟩:=YV.mp e;rw[<- e];exact List.mem_append_left _ (ih gs' hl v hv)
def ways(gs:List (κ×Int))(S:Int):List (κ×Int×Int):=((jU gs).filter λg=>decide (0<g.2)).map λg=>(g.1,lw g.2 S)
theorem abF{gs:List (κ×Int)}(h:∀g∈gs,0<=g.2)(S:Int):(ways gs S).length<=gs.length:=by
 unfold ways;rw[ak];exact aM (List.length_filter_le _ _) (xK gs h).2.1
theorem abT{gs:List (κ×Int)}{S:Int}{g:κ×Int×Int}(h:g∈ways gs S):g.1∈gs.map (·.1):=by
 unfold ways at h;obtain⟨u,hu,rfl⟩:=YV.mp h;exact abZ gs u (List.mem_filter.mp hu).1
theorem aad{r:κ} : ways [(r,(1:Int))] 1=[(r,(1,1))]:=by
 simp[ways,jU,put,look,lw]
end
end Ac
namespace K54
open PySem PyProof.Rows L2
theorem Z1:yJ (.non) (.non)=true:=rfl
theorem Y9{j:Int} : yJ (.non) (.int j)=true:=rfl
theorem abx{i:Int} : yJ (.int i) (.non)=true:=rfl
theorem Zc{c:Bool} : yJ (.non) (.bl c)=true:=rfl
theorem YS{b:Bool} : yJ (.bl b) (.non)=true:=rfl
theorem aak{t:Str} : yJ (.non) (.str t)=true:=rfl
theorem Zu{s:Str} : yJ (.str s) (.non)=true:=rfl
theorem aaK{i:Int}{j:Int} : yJ (.int i) (.int j)=true:=rfl
theorem aap{b:Bool}{c:Bool} : yJ (.bl b) (.bl c)=true:=rfl
theorem YQ{s:Str}{t:Str} : yJ (.str s) (.str t)=true:=rfl
theorem aaT{i:Int}{t:Str} : yJ (.int i) (.str t)=true:=rfl
theorem ZW{s:Str}{j:Int} : yJ (.str s) (.int j)=true:=rfl
theorem Y4{b:Bool}{t:Str} : yJ (.bl b) (.str t)=true:=rfl
theorem ZV{s:Str}{c:Bool} : yJ (.str s) (.bl c)=true:=rfl
noncomputable def mI(j:Nat)(σ:L2.St)(_:Hp):Nat:=match σ.getD j none with|some (.int k)=>k.natAbs|_=>0
local macro_rules| `(tactic|walk_at "rd")=>`(tactic|simp only[um,Ks,Xy,aaw,tOp,tUn,rU,VG,Rw,ac2,tSl,Jd,tC,V3,rI0,rI,acp,aaC,acJ,rW,Ij,tCB,Dt,Cu,aay,tOr,abl,Wh,V9,aer,Xx,Ke,acP,cN,ac5,Wk,VN,W5,V7,W_,adt,Vv,Nh,Vg,Bv,Qp,Xo,Ue,rEq,rNe,Z1,Y9,abx,Zc,YS,aak,Zu,aaK,aap,YQ,aaT,ZW,Y4,ZV,Bq,Wg,Du,Tt,Nt,Pn,Zq,Zr,aeC,afb,Ends.unset,ad7,aez,Oz,ad2,Wo,adf,aen,WQ,abn,abY,aeP,tSM,Vb,Mt,Jj,abK,ab9,VP,Qo,adA,FZ,Nu,Wc,ZL,rJoin,aar,Ws,tB,C_,adN,aaJ,Gi,Wv,VF,ac0,afj,abJ,Vz,N8,aaR,Tr,abq,Ji,acn,acQ,Gs,V.str.injEq,
 L2.start,List.replicate_succ,List.replicate_zero,Nat.reduceSub,Nat.reduceAdd,List.map_cons,List.map_nil,List.length_cons,List.length_nil,List.cons_append,List.nil_append,List.append_nil,List.getElem?_cons_zero,List.getElem?_cons_succ,List.set_cons_zero,List.set_cons_succ,List.set_nil,Option.some.injEq,exists_eq_left',exists_eq_left,exists_and_left,exists_and_right,exists_eq_right,exists_eq,exists_eq',and_assoc,V.int.injEq,V.ref.injEq,V.bl.injEq,V.ty.injEq,List.cons.injEq,HO.tup.injEq,HO.lst.injEq,and_true,true_and,reduceCtorEq,c7,cR,bI,decide_true,decide_false,Bool.not_true,Bool.not_false,if_true,if_false,ite_true,ite_false,XX,YU,String.reduceEq,or_true,true_or,or_false,false_or,beq_self_eq_true,Bool.or_true,Bool.true_or,Bool.or_false,Bool.false_or,Bool.and_true,Bool.and_false,Bool.true_and,Bool.false_and,String.reduceBEq,Int.reduceToNat,Int.reducePow,Int.reduceMul,Int.reduceSub,Int.reduceAdd,Int.reduceNeg,Int.reduceLE,Int.reduceLT,Int.reduceEq,ne_eq,not_false_eq_true,not_true_eq_false,Int.cast_ofNat_Int])
open PySem.NumText
noncomputable abbrev Ak:Stmt:=top 13
abbrev fD:Β:=["thing"]
abbrev fH:Str:="is_whole"
abbrev TY:Β:=["thing"]
theorem RZ:bZ TY fD (bN Ak):=fsc
noncomputable abbrev Dm:Stmt:=top 14
abbrev jh:Β:=["one","other"]
abbrev jf:Str:="divisor"
noncomputable abbrev X5:Β:=["one","other","left","right","rest"]
theorem pA:bZ X5 jh (bN Dm):=fsc
noncomputable abbrev MK:Stmt:=top 18
noncomputable abbrev j7:Β:=["top","bottom"]
abbrev j8:Str:="ratio"
noncomputable abbrev ac7:Β:=["top","bottom","common"]
theorem Il:bZ ac7 j7 (bN MK):=fsc
noncomputable abbrev z6:Stmt:=top 19
abbrev j5:Β:=["thing"]
abbrev j4:Str:="is_ratio"
noncomputable abbrev Tq:Β:=["thing","top","bottom"]
theorem wV:bZ Tq j5 (bN z6):=fsc
noncomputable abbrev Tp:Stmt:=top 20
abbrev sU:Β:=["one","other"]
abbrev sX:Str:="plus"
noncomputable abbrev aft:Β:=["one","other"]
theorem ab1:bZ aft sU (bN Tp):=fsc
noncomputable abbrev Nj:Stmt:=top 21
abbrev qY:Β:=["one","other"]
abbrev rM:Str:="minus"
noncomputable abbrev adO:Β:=["one","other"]
theorem aaN:bZ adO qY (bN Nj):=fsc
noncomputable abbrev M_:Stmt:=top 22
abbrev qT:Β:=["one","other"]
abbrev rA:Str:="times"
noncomputable abbrev acZ:Β:=["one","other"]
theorem aa0:bZ acZ qT (bN M_):=fsc
noncomputable abbrev Vq:Stmt:=top 23
abbrev vA:Β:=["one","other"]
abbrev vp:Str:="over"
noncomputable abbrev afo:Β:=["one","other"]
theorem acG:bZ afo vA (bN Vq):=fsc
noncomputable abbrev Py:Stmt:=top 24
abbrev lQ:Β:=["one","other"]
abbrev mF:Str:="under"
noncomputable abbrev adG:Β:=["one","other"]
theorem Z2:bZ adG lQ (bN Py):=fsc
noncomputable abbrev CN:Stmt:=top 26
abbrev iJ:Β:=["fractions"]
abbrev gW:Str:="level"
noncomputable abbrev Vx:Β:=["fractions","bottom","one"]
theorem CG:bZ Vx iJ (bN CN):=fsc
noncomputable abbrev Ms:Stmt:=top 27
abbrev xY:Β:=["fractions"]
abbrev wH:Str:="total"
noncomputable abbrev acD:Β:=["fractions","leveled"]
theorem Rk:bZ acD xY (bN Ms):=fsc
noncomputable abbrev Ah:Stmt:=top 28
abbrev iW:Β:=["fractions"]
abbrev iZ:Str:="greatest"
noncomputable abbrev Ui:Β:=["fractions","found","one"]
theorem sH:bZ Ui iW (bN Ah):=fsc
noncomputable abbrev Pq:Stmt:=top 29
abbrev yd:Β:=["fractions"]
abbrev xM:Str:="least"
noncomputable abbrev ac4:Β:=["fractions","found","one"]
theorem B_:bZ ac4 yd (bN Pq):=fsc
noncomputable abbrev qx:Stmt:=top 31
abbrev lR:Β:=["hall"]
abbrev lX:Str:="first_plan"
abbrev uX:Β:=["hall"]
theorem KD:bZ uX lR (bN qx):=fsc
noncomputable abbrev Vp:Stmt:=top 32
noncomputable abbrev Cp:Β:=["thing","many"]
abbrev Ao:Str:="fits"
noncomputable abbrev afc:Β:=["thing","many"]
theorem adq:bZ afc Cp (bN Vp):=fsc
noncomputable abbrev vC:Stmt:=top 33
abbrev lO:Β:=["hall","plan"]
abbrev mj:Str:="check_plan"
noncomputable abbrev Mw:Β:=["hall","plan","room","thing"]
theorem tV:bZ Mw lO (bN vC):=fsc
noncomputable abbrev lV:Stmt:=top 34
noncomputable abbrev iU:Β:=["offer","tops"]
abbrev iK:Str:="behind_door"
noncomputable abbrev mC:Β:=["offer","tops","leveled"]
theorem wL:bZ mC iU (bN lV):=fsc
noncomputable abbrev tY:Stmt:=top 35
noncomputable abbrev fZ:Β:=["hall","offer","leveled"]
abbrev gA:Str:="raised_look"
noncomputable abbrev JR:Β:=["hall","offer","leveled","behind"]
theorem xQ:bZ JR fZ (bN tY):=fsc
noncomputable abbrev tK:Stmt:=top 37
abbrev jZ:Β:=["seen","door"]
abbrev j6:Str:="better_door"
noncomputable abbrev Ko:Β:=["seen","door","most"]
theorem xH:bZ Ko jZ (bN tK):=fsc
noncomputable abbrev CP:Stmt:=top 38
noncomputable abbrev uc:Β:=["hall","plan","worths"]
abbrev uh:Str:="mended"
noncomputable abbrev IK:Β:=["hall","plan","worths","leveled","told","room","door","seen"]
theorem qP:bZ IK uc (bN CP):=fsc
noncomputable abbrev vB:Stmt:=top 41
abbrev mz:Β:=["many"]
abbrev lZ:Str:="check_many"
abbrev M6:Β:=["many"]
theorem JT:bZ M6 mz (bN vB):=fsc
noncomputable abbrev En:Stmt:=top 42
noncomputable abbrev q_:Β:=["raised","bottom"]
abbrev qX:Str:="lowered"
noncomputable abbrev XM:Β:=["raised","bottom"]
theorem Vf:bZ XM q_ (bN En):=fsc
noncomputable abbrev qK:Stmt:=top 43
noncomputable abbrev jL:Β:=["hall","ahead"]
abbrev jN:Str:="best_round"
noncomputable abbrev vq:Β:=["hall","ahead","leveled","told","room","seen"]
theorem lN:bZ vq jL (bN qK):=fsc
noncomputable abbrev qu:Stmt:=top 44
noncomputable abbrev pH:Β:=["first","many","follow"]
noncomputable abbrev pC:Str:="rounds_behind"
noncomputable abbrev Ft:Β:=["first","many","follow","told"]
theorem uF:bZ Ft pH (bN qu):=fsc
noncomputable abbrev jG:Stmt:=top 45
abbrev gq:Β:=["hall","many"]
abbrev fG:Str:="best_rounds"
abbrev JL:Β:=["hall","many"]
theorem I8:bZ JL gq (bN jG):=fsc
noncomputable abbrev qW:Stmt:=top 47
abbrev gM:Β:=["many"]
noncomputable abbrev gO:Str:="check_behind"
abbrev Hl:Β:=["many"]
theorem Fv:bZ Hl gM (bN qW):=fsc
noncomputable abbrev Gb:Stmt:=top 48
noncomputable abbrev yH:Β:=["ahead","last"]
abbrev yP:Str:="gains"
noncomputable abbrev O2:Β:=["ahead","last"]
theorem ZD:bZ O2 yH (bN Gb):=fsc
noncomputable abbrev DX:Stmt:=top 49
noncomputable abbrev rT:Β:=["share","gain"]
abbrev rD:Str:="to_come"
noncomputable abbrev Yo:Β:=["share","gain"]
theorem Ve:bZ Yo rT (bN DX):=fsc
noncomputable abbrev p8:Stmt:=top 50
abbrev kJ:Β:=["hall","many"]
abbrev kW:Str:="bounds_of"
noncomputable abbrev p7:Β:=["hall","many","rounds","last","gained","low","high"]
theorem kh:bZ p7 kJ (bN p8):=fsc
noncomputable abbrev u_:Stmt:=top 51
abbrev jF:Β:=["hall","many"]
abbrev jt:Str:="round_plan"
abbrev Om:Β:=["hall","many"]
theorem Kz:bZ Om jF (bN u_):=fsc
noncomputable abbrev zc:Stmt:=top 54
abbrev mW:Β:=["thing"]
abbrev mJ:Str:="is_word"
abbrev Eb:Β:=["thing"]
theorem Va:bZ Eb mW (bN zc):=fsc
noncomputable abbrev uR:Stmt:=top 56
abbrev jK:Β:=["name","pay"]
abbrev jw:Str:="check_head"
abbrev Qn:Β:=["name","pay"]
theorem KZ:bZ Qn jK (bN uR):=fsc
noncomputable abbrev nZ:Stmt:=top 57
abbrev eU:Β:=["room"]
noncomputable abbrev eV:Str:="check_room_name"
abbrev Ci:Β:=["room"]
theorem Ae:bZ Ci eU (bN nZ):=fsc
noncomputable abbrev rE:Stmt:=top 58
abbrev gP:Β:=["chance"]
noncomputable abbrev gQ:Str:="check_chance"
abbrev Jq:Β:=["chance"]
theorem FJ:bZ Jq gP (bN rE):=fsc
noncomputable abbrev pX:Stmt:=top 59
abbrev jW:Β:=["pairs"]
noncomputable abbrev j9:Str:="check_pairs"
noncomputable abbrev tR:Β:=["pairs","room","chance"]
theorem rP:bZ tR jW (bN pX):=fsc
noncomputable abbrev pO:Stmt:=top 60
abbrev jX:Β:=["pairs"]
noncomputable abbrev jR:Str:="joined_ways"
noncomputable abbrev zP:Β:=["pairs","chances","room","chance"]
theorem nq:bZ zP jX (bN pO):=fsc
noncomputable abbrev tX:Stmt:=top 67
abbrev jT:Β:=["share"]
noncomputable abbrev jY:Str:="check_share"
abbrev Kv:Β:=["share"]
theorem Jr:bZ Kv jT (bN tX):=fsc
noncomputable abbrev vI:Stmt:=top 68
abbrev lG:Β:=["rooms"]
abbrev lW:Str:="numbers_of"
noncomputable abbrev Nf:Β:=["rooms","numbers","room","name"]
theorem pL:bZ Nf lG (bN vI):=fsc
noncomputable abbrev qm:Stmt:=top 69
noncomputable abbrev iQ:Β:=["door","numbers"]
noncomputable abbrev iT:Str:="numbered_ways"
noncomputable abbrev Fx:Β:=["door","numbers","numbered","name","chance"]
theorem kO:bZ Fx iQ (bN qm):=fsc
noncomputable abbrev yE:Stmt:=top 70
noncomputable abbrev oG:Β:=["doors","numbers"]
abbrev nY:Str:="offers_of"
noncomputable abbrev Sw:Β:=["doors","numbers","taken","told","door"]
theorem qJ:bZ Sw oG (bN yE):=fsc
noncomputable abbrev Uu:Stmt:=top 73
noncomputable abbrev zm:Β:=["_law_script","_law_k"]
abbrev zy:Str:="_law_cell"
noncomputable abbrev aeD:Β:=["_law_script","_law_k"]
theorem acw:bZ aeD zm (bN Uu):=fsc
noncomputable abbrev Js:Stmt:=top 74
noncomputable abbrev jD:Β:=["_law_cell_here","_law_many"]
noncomputable abbrev jA:Str:="_law_stream"
noncomputable abbrev aa6:Β:=["_law_cell_here","_law_many","_law_found","_law_number","_law_digits","_law_k"]
theorem mY:bZ aa6 jD (bN Js):=fsc
noncomputable abbrev aag:Stmt:=top 75
noncomputable abbrev Ej:Β:=["_law_one","_law_other"]
abbrev Ea:Str:="_law_gcd"
noncomputable abbrev agO:Β:=["_law_one","_law_other","_law_low","_law_high"]
theorem Oa:bZ agO Ej (bN aag):=fsc
noncomputable abbrev Hg:Stmt:=top 76
noncomputable abbrev pI:Β:=["_law_top","_law_bottom"]
abbrev o_:Str:="_law_ratio"
noncomputable abbrev Y5:Β:=["_law_top","_law_bottom","_law_common"]
theorem Lq:bZ Y5 pI (bN Hg):=fsc
noncomputable abbrev xZ:Stmt:=top 77
abbrev oW:Β:=["_law_found"]
noncomputable abbrev nR:Str:="_law_is_ratio"
noncomputable abbrev Q9:Β:=["_law_found","_law_number"]
theorem CT:bZ Q9 oW (bN xZ):=fsc
noncomputable abbrev qL:Stmt:=top 78
noncomputable abbrev jH:Β:=["_law_found","_law_many"]
noncomputable abbrev jy:Str:="_law_are_ratios"
noncomputable abbrev uV:Β:=["_law_found","_law_many"]
theorem J1:bZ uV jH (bN qL):=fsc
noncomputable abbrev s_same:Stmt:=top 79
noncomputable abbrev Bs:Β:=["_law_one","_law_other"]
abbrev Bo:Str:="_law_same"
noncomputable abbrev aeS:Β:=["_law_one","_law_other"]
theorem acC:bZ aeS Bs (bN s_same):=fsc
noncomputable abbrev zq:Stmt:=top 80
noncomputable abbrev vZ:Β:=["_law_cell_here","_law_many"]
abbrev wO:Str:="_law_names"
noncomputable abbrev uM:Β:=["_law_cell_here","_law_many","_law_letters","_law_xs","_law_base","_law_at","_law_step"]
theorem ud:bZ uM vZ (bN zq):=fsc
noncomputable abbrev Mz:Stmt:=top 81
noncomputable abbrev wU:Β:=["_law_cell_here","_law_small"]
abbrev yr:Str:="_law_share"
noncomputable abbrev ab7:Β:=["_law_cell_here","_law_small","_law_xs","_law_bottom"]
theorem Jm:bZ ab7 wU (bN Mz):=fsc
noncomputable abbrev aaG:Stmt:=top 82
noncomputable abbrev Hs:Β:=["_law_cell_here","_law_x","_law_y","_law_small"]
abbrev Gw:Str:="_law_pay"
noncomputable abbrev ahk:Β:=["_law_cell_here","_law_x","_law_y","_law_small"]
theorem aeL:bZ ahk Hs (bN aaG):=fsc
noncomputable abbrev zZ:Stmt:=top 83
noncomputable abbrev CZ:Β:=["_law_cell_here","_law_many","_law_small"]
abbrev Cv:Str:="_law_door"
noncomputable abbrev uG:Β:=["_law_cell_here","_law_many","_law_small","_law_xs","_law_rooms","_law_sort","_law_pairs","_law_bottom","_law_part","_law_weights"]
theorem mG:bZ uG CZ (bN zZ):=fsc
noncomputable abbrev Gf:Stmt:=top 84
noncomputable abbrev wR:Β:=["_law_script","_law_at","_law_many","_law_small"]
abbrev yc:Str:="_law_doors"
noncomputable abbrev Qw:Β:=["_law_script","_law_at","_law_many","_law_small","_law_rooms","_law_first","_law_cells","_law_cell_here","_law_room","_law_door_here"]
theorem rO:bZ Qw wR (bN Gf):=fsc
noncomputable abbrev Cd:Stmt:=top 85
noncomputable abbrev w6:Β:=["_law_title","_law_door_here","_law_names_here"]
abbrev v8:Str:="_law_built"
noncomputable abbrev Az:Β:=["_law_title","_law_door_here","_law_names_here","_law_told","_law_sort","_law_pay_here","_law_pairs"]
theorem xP:bZ Az w6 (bN Cd):=fsc
noncomputable abbrev PN:Stmt:=top 86
noncomputable abbrev BJ:Β:=["_law_cell_here","_law_share_here","_law_rooms"]
abbrev Bf:Str:="_law_hall"
noncomputable abbrev Uw:Β:=["_law_cell_here","_law_share_here","_law_rooms","_law_names_here","_law_found","_law_k","_law_titles"]
theorem BW:bZ Uw BJ (bN PN):=fsc
noncomputable abbrev Ug:Stmt:=top 88
noncomputable abbrev Bx:Β:=["_law_share_here","_law_door_here","_law_worths"]
abbrev Br:Str:="_law_look"
noncomputable abbrev aeI:Β:=["_law_share_here","_law_door_here","_law_worths","_law_top","_law_bottom","_law_room","_law_chance","_law_part"]
theorem pY:bZ aeI Bx (bN Ug):=fsc
noncomputable abbrev Qc:Stmt:=top 89
noncomputable abbrev uD:Β:=["_law_one","_law_other"]
abbrev uw:Str:="_law_below"
noncomputable abbrev ac9:Β:=["_law_one","_law_other"]
theorem Zm:bZ ac9 uD (bN Qc):=fsc
noncomputable abbrev NQ:Stmt:=top 90
noncomputable abbrev wZ:Β:=["_law_cell_here"]
abbrev yF:Str:="_law_sizes"
noncomputable abbrev adU:Β:=["_law_cell_here","_law_xs"]
theorem QG:bZ adU wZ (bN NQ):=fsc
noncomputable abbrev qG:Stmt:=top 91
noncomputable abbrev mD:Β:=["_law_found","_law_many","_law_size"]
noncomputable abbrev lU:Str:="_law_are_rounds"
noncomputable abbrev uH:Β:=["_law_found","_law_many","_law_size"]
theorem JM:bZ uH mD (bN qG):=fsc
noncomputable abbrev Cj:Stmt:=top 92
noncomputable abbrev wW:Β:=["_law_some","_law_door_here"]
abbrev yM:Str:="_law_taken"
noncomputable abbrev Bl:Β:=["_law_some","_law_door_here"]
theorem aa4:bZ Bl wW (bN Cj):=fsc
noncomputable abbrev Ga:Stmt:=top 93
noncomputable abbrev wJ:Β:=["_law_ahead","_law_behind"]
abbrev wj:Str:="_law_steps"
noncomputable abbrev MJ:Β:=["_law_ahead","_law_behind"]
theorem ZJ:bZ MJ wJ (bN Ga):=fsc
noncomputable abbrev Qz:Stmt:=top 94
noncomputable abbrev yu:Β:=["_law_share_here","_law_one","_law_step"]
abbrev yh:Str:="_law_bound"
noncomputable abbrev acu:Β:=["_law_share_here","_law_one","_law_step","_law_rest"]
theorem RK:bZ acu yu (bN Qz):=fsc
noncomputable abbrev Pr:Stmt:=top 95
noncomputable abbrev yL:Β:=["_law_found","_law_share_here","_law_ahead","_law_behind"]
abbrev yp:Str:="_law_right"
noncomputable abbrev adk:Β:=["_law_found","_law_share_here","_law_ahead","_law_behind","_law_steps_here","_law_least_one","_law_most_one","_law_step","_law_k"]
theorem qd:bZ adk yL (bN Pr):=fsc
noncomputable abbrev qC:Stmt:=top 96
noncomputable abbrev lE:Β:=["_law_found","_law_share_here","_law_rooms","_law_ahead"]
noncomputable abbrev lF:Str:="_law_plan_right"
noncomputable abbrev vL:Β:=["_law_found","_law_share_here","_law_rooms","_law_ahead","_law_door_here","_law_doors_here"]
theorem tW:bZ vL lE (bN qC):=fsc
noncomputable abbrev Ec:Stmt:=top 97
noncomputable abbrev rF:Β:=["_law_hall_here","_law_many","_law_word"]
noncomputable abbrev rY:Str:="_law_refused"
noncomputable abbrev Yi:Β:=["_law_hall_here","_law_many","_law_word","e","_law_others"]
theorem vo:bZ Yi rF (bN Ec):=fsc
noncomputable abbrev Vt:Stmt:=top 98
noncomputable abbrev Uc:Β:=["_law_script"]
abbrev Pb:Str:="law"
noncomputable abbrev agL:Β:=["_law_script","_law_many","_law_share_here","_law_rooms","_law_hall_here","_law_xs","_law_fewer","_law_some","_law_odd","_law_held","_law_size","_law_small","_law_found","_law_asked"]
theorem mU:bZ agL Uc (bN Vt):=fsc
noncomputable abbrev yj:Stmt:=gJ 61 0
noncomputable abbrev kY:Β:=["self","name","pay"]
abbrev Av:Str:="__init__"
noncomputable abbrev Dl:Str:="Door.__init__"
noncomputable abbrev Q7:Β:=["self","name","pay"]
theorem Mp:bZ Q7 kY (bN yj):=fsc
noncomputable abbrev vX:Stmt:=gJ 61 1
abbrev oF:Β:=["self"]
abbrev Ca:Str:="ways"
abbrev Cr:Str:="Door.ways"
abbrev Ss:Β:=["self"]
theorem Ol:bZ Ss oF (bN vX):=fsc
noncomputable abbrev wX:Stmt:=gJ 62 0
noncomputable abbrev nU:Β:=["self","name","pay","room"]
abbrev Bu:Str:="__init__"
noncomputable abbrev Cy:Str:="Sure.__init__"
noncomputable abbrev QL:Β:=["self","name","pay","room"]
theorem Qi:bZ QL nU (bN wX):=fsc
noncomputable abbrev uI:Stmt:=gJ 63 0
noncomputable abbrev iB:Β:=["self","name","pay","pairs"]
abbrev zO:Str:="__init__"
noncomputable abbrev zG:Str:="Mixed.__init__"
noncomputable abbrev Nm:Β:=["self","name","pay","pairs"]
theorem Kg:bZ Nm iB (bN uI):=fsc
noncomputable abbrev vY:Stmt:=gJ 64 0
noncomputable abbrev nH:Β:=["self","name","pay","chance","room","other"]
abbrev Df:Str:="__init__"
noncomputable abbrev Bj:Str:="Toss.__init__"
noncomputable abbrev RT:Β:=["self","name","pay","chance","room","other"]
theorem Og:bZ RT nH (bN vY):=fsc
noncomputable abbrev sZ:Stmt:=gJ 65 0
noncomputable abbrev ou:Β:=["self","name","pay","rooms"]
abbrev A_:Str:="__init__"
noncomputable abbrev BX:Str:="Even.__init__"
noncomputable abbrev xV:Β:=["self","name","pay","rooms"]
theorem Ng:bZ xV ou (bN sZ):=fsc
noncomputable abbrev sO:Stmt:=gJ 71 0
noncomputable abbrev oO:Β:=["self","share","rooms"]
abbrev Dd:Str:="__init__"
noncomputable abbrev Cz:Str:="Hall.__init__"
noncomputable abbrev yK:Β:=["self","share","rooms"]
theorem Ql:bZ yK oO (bN sO):=fsc
noncomputable abbrev yQ:Stmt:=gJ 71 1
abbrev fu:Β:=["self"]
abbrev Dh:Str:="size"
abbrev Ba:Str:="Hall.size"
abbrev QX:Β:=["self"]
theorem Oj:bZ QX fu (bN yQ):=fsc
noncomputable abbrev oK:Stmt:=gJ 71 4
noncomputable abbrev eX:Β:=["self","room"]
abbrev rR:Str:="check_room"
noncomputable abbrev qU:Str:="Hall.check_room"
noncomputable abbrev Bh:Β:=["self","room"]
theorem zX:bZ Bh eX (bN oK):=fsc
noncomputable abbrev pQ:Stmt:=gJ 71 6
noncomputable abbrev d_:Β:=["self","room"]
abbrev w5:Str:="offers"
noncomputable abbrev wQ:Str:="Hall.offers"
noncomputable abbrev tH:Β:=["self","room"]
theorem Hj:bZ tH d_ (bN pQ):=fsc
structure Adr where
 HallError:Addr
 NoNumber:Addr
 NoName:Addr
 NoChance:Addr
 NoShare:Addr
 NoText:Addr
 NoRow:Addr
 NoRoom:Addr
 NoDoor:Addr
 NoPlan:Addr
 Door:Addr
 Sure:Addr
 Mixed:Addr
 Toss:Addr
 Even:Addr
 Hall:Addr
 NOUGHT:Addr
 ONE:Addr
 Door_init:Addr
 Door_ways:Addr
 Sure_init:Addr
 Mixed_init:Addr
 Toss_init:Addr
 Even_init:Addr
 Hall_init:Addr
 Hall_size:Addr
 Hall_check_room:Addr
 Hall_offers:Addr
 T_best_rounds:Addr
structure Txt(K:Frag)(mg:Str->Ζ)(D:Adr):Prop where
 abE:mg "Door"=some (.ref D.Door)
 afw:mg "Even"=some (.ref D.Even)
 afF:mg "Hall"=some (.ref D.Hall)
 QK:mg "HallError"=some (.ref D.HallError)
 NZ:mg "Mixed"=some (.ref D.Mixed)
 uE:mg "NOUGHT"=some (.ref D.NOUGHT)
 zV:mg "NoChance"=some (.ref D.NoChance)
 ZF:mg "NoDoor"=some (.ref D.NoDoor)
 GQ:mg "NoName"=some (.ref D.NoName)
 uQ:mg "NoNumber"=some (.ref D.NoNumber)
 aaX:mg "NoPlan"=some (.ref D.NoPlan)
 abN:mg "NoRoom"=some (.ref D.NoRoom)
 adS:mg "NoRow"=some (.ref D.NoRow)
 Yj:mg "NoShare"=some (.ref D.NoShare)
 Y8:mg "NoText"=some (.ref D.NoText)
 K6:mg "ONE"=some (.ref D.ONE)
 ae4:mg "Sure"=some (.ref D.Sure)
 afm:mg "Toss"=some (.ref D.Toss)
 JB:Vd K D.NoChance
 Ri:Vd K D.NoName
 z_:Vd K D.NoNumber
 iy:Rr K D.NoNumber
 Um:kitOne K (.ref D.NoNumber) (.ref D.NoChance)=some false
 abt:kitOne K (.ref D.NoNumber) (.ref D.NoDoor)=some false
 abw:kitOne K (.ref D.NoNumber) (.ref D.NoName)=some false
 T9:kitOne K (.ref D.NoNumber) (.ref D.NoNumber)=some true
 YK:kitOne K (.ref D.NoNumber) (.ref D.NoPlan)=some false
 aaz:kitOne K (.ref D.NoNumber) (.ref D.NoRoom)=some false
 ac8:kitOne K (.ref D.NoNumber) (.ref D.NoRow)=some false
 Ym:kitOne K (.ref D.NoNumber) (.ref D.NoShare)=some false
 abQ:kitOne K (.ref D.NoNumber) (.ref D.NoText)=some false
 Qm:kitOne K (.ref D.NoNumber) (.type "ValueError")=some true
 RJ:mroIn K D.HallError (.type "BaseException")=some true
 Q6:typeIn K (.ref D.HallError)=some (.type "type")
 Vj:mroIn K D.NoNumber (.ref D.HallError)=some true
 Ii:∃u,mg "LONGEST_WORD"=some u/\RelV (.int 8) u
 Zn:∃u,mg "MOST"=some u/\RelV (.int 40) u
 qM:∀H,SqT K H D.NOUGHT [.int 0,.int 1]
 DG:∀H,SqT K H D.ONE [.int 1,.int 1]
 aby:Cls K D.Door
 Qk:Meth K D.Door "ways" D.Door_ways
 J2:dZ K D.Door "leads"
 Qa:dZ K D.Door "name"
 QV:dZ K D.Door "pay"
 adx:Mk K D.Sure D.Sure_init
 Ru:Cls K D.Sure
 Mu:Meth K D.Sure "ways" D.Door_ways
 zK:dZ K D.Sure "leads"
 Mj:dZ K D.Sure "name"
 RN:dZ K D.Sure "pay"
 abO:Mk K D.Mixed D.Mixed_init
 Xf:Cls K D.Mixed
 KJ:Meth K D.Mixed "ways" D.Door_ways
 G7:dZ K D.Mixed "leads"
 JQ:dZ K D.Mixed "name"
 NT:dZ K D.Mixed "pay"
 aco:Mk K D.Toss D.Toss_init
 YG:Cls K D.Toss
 Pk:Meth K D.Toss "ways" D.Door_ways
 KN:dZ K D.Toss "leads"
 O8:dZ K D.Toss "name"
 Tg:dZ K D.Toss "pay"
 aci:Mk K D.Even D.Even_init
 aav:Cls K D.Even
 Ny:Meth K D.Even "ways" D.Door_ways
 KQ:dZ K D.Even "leads"
 Mg:dZ K D.Even "name"
 R_:dZ K D.Even "pay"
 acj:Mk K D.Hall D.Hall_init
 rK:Cls K D.Hall
 Ab:Meth K D.Hall "check_room" D.Hall_check_room
 GJ:Meth K D.Hall "offers" D.Hall_offers
 QB:Meth K D.Hall "size" D.Hall_size
 Kp:dZ K D.Hall "leads"
 PK:dZ K D.Hall "name"
 qt:dZ K D.Hall "numbers"
 vQ:dZ K D.Hall "offered"
 Ry:dZ K D.Hall "pay"
 pU:dZ K D.Hall "share"
 Bb:I_ K D.Door "__init__" D.Door_init
 Qf:Bk K Av Dl yj kY D.Door_init
 PB:Bk K Ca Cr vX oF D.Door_ways
 Qh:Bk K Bu Cy wX nU D.Sure_init
 zH:I_ K D.Mixed "__init__" D.Mixed_init
 JX:Bk K zO zG uI iB D.Mixed_init
 Pz:Bk K Df Bj vY nH D.Toss_init
 Oe:Bk K A_ BX sZ ou D.Even_init
 Pu:Bk K Dd Cz sO oO D.Hall_init
 CQ:Bk K Dh Ba yQ fu D.Hall_size
 sy:Bk K rR qU oK eX D.Hall_check_room
 wI:Bk K w5 wQ pQ d_ D.Hall_offers
 Mv:mg "ValueError"=none
 Tf:mg "abs"=none
 WT:mg "all"=none
 ai8:mg "any"=none
 Vh:mg "bool"=none
 Eo:mg "enumerate"=none
 HJ:mg "int"=none
 cH:mg "isinstance"=none
 iH:mg "len"=none
 DY:mg "list"=none
 aji:mg "max"=none
 qw:mg "range"=none
 aaq:mg "sorted"=none
 ahK:mg "str"=none
 YC:mg "sum"=none
 MP:mg "tuple"=none
 Lz:mg "zip"=none
 G8:dO K mg fH Ak fD
 K5:dO K mg jf Dm jh
 Xc:dO K mg j8 MK j7
 Uo:dO K mg j4 z6 j5
 Zz:dO K mg sX Tp sU
 acH:dO K mg rM Nj qY
 WD:dO K mg rA M_ qT
 abd:dO K mg vp Vq vA
 W3:dO K mg mF Py lQ
 Cm:dO K mg gW CN iJ
 f_total:dO K mg wH Ms xY
 GX:dO K mg iZ Ah iW
 adT:dO K mg xM Pq yd
 Nr:dO K mg lX qx lR
 afH:dO K mg Ao Vp Cp
 Qy:dO K mg mj vC lO
 zM:dO K mg iK lV iU
 zU:dO K mg gA tY fZ
 JV:dO K mg j6 tK jZ
 abL:dO K mg uh CP uc
 Np:dO K mg lZ vB mz
 Xr:dO K mg qX En q_
 Qg:dO K mg jN qK jL
 FT:dO K mg pC qu pH
 Ka:acq K mg fG jG gq D.T_best_rounds
 Jy:dO K mg gO qW gM
 adn:dO K mg yP Gb yH
 Xu:dO K mg rD DX rT
 Rt:dO K mg kW p8 kJ
 MN:dO K mg jt u_ jF
 Xv:dO K mg mJ zc mW
 Pa:dO K mg jw uR jK
 Aw:dO K mg eV nZ eU
 GZ:dO K mg gQ rE gP
 Kq:dO K mg j9 pX jW
 JN:dO K mg jR pO jX
 Kc:dO K mg jY tX jT
 OJ:dO K mg lW vI lG
 FW:dO K mg iT qm iQ
 Sg:dO K mg nY yE oG
 afI:dO K mg zy Uu zm
 Zf:dO K mg jA Js jD
 ahV:dO K mg Ea aag Ej
 aaM:dO K mg o_ Hg pI
 Rf:dO K mg nR xZ oW
 Nb:dO K mg jy qL jH
 aeN:dO K mg Bo s_same Bs
 acY:dO K mg wO zq vZ
 adZ:dO K mg yr Mz wU
 ajg:dO K mg Gw aaG Hs
 ae3:dO K mg Cv zZ CZ
 acF:dO K mg yc Gf wR
 ado:dO K mg v8 Cd w6
 afi:dO K mg Bf PN BJ
 f_look:dO K mg Br Ug Bx
 acU:dO K mg uw Qc uD
 adI:dO K mg yF NQ wZ
 Qu:dO K mg lU qG mD
 acs:dO K mg yM Cj wW
 adR:dO K mg wj Ga wJ
 f_bound:dO K mg yh Qz yu
 adz:dO K mg yp Pr yL
 Nx:dO K mg lF qC lE
 Yl:dO K mg rY Ec rF
def Fam(D:Adr)(C:Addr):Prop:=C=D.Door\/C=D.Sure\/C=D.Mixed\/C=D.Toss\/C=D.Even\/C=D.Hall
theorem Txt.cl{K:Frag}{mg:Str->Ζ}{D:Adr}(T:Txt K mg D):∀C,Fam D C->Cls K C:=by
 rintro C (rfl|rfl|rfl|rfl|rfl|rfl)
 .exact T.aby
 .exact T.Ru
 .exact T.Xf
 .exact T.YG
 .exact T.aav
 .exact T.rK
theorem Txt.Jv{K:Frag}{mg:Str->Ζ}{D:Adr}(T:Txt K mg D):∀C,Fam D C->dZ K C "leads":=by
 rintro C (rfl|rfl|rfl|rfl|rfl|rfl)
 .exact T.J2
 .exact T.zK
 .exact T.G7
 .exact T.KN
 .exact T.KQ
 .exact T.Kp
theorem Txt.Gk{K:Frag}{mg:Str->Ζ}{D:Adr}(T:Txt K mg D):∀C,Fam D C->dZ K C "name":=by
 rintro C (rfl|rfl|rfl|rfl|rfl|rfl)
 .exact T.Qa
 .exact T.Mj
 .exact T.JQ
 .exact T.O8
 .exact T.Mg
 .exact T.PK
theorem Txt.abk{K:Frag}{mg:Str->Ζ}{D:Adr}(T:Txt K mg D):∀C,Fam D C->dZ K C "pay":=by
 rintro C (rfl|rfl|rfl|rfl|rfl|rfl)
 .exact T.QV
 .exact T.RN
 .exact T.NT
 .exact T.Tg
 .exact T.R_
 .exact T.Ry
def eY(D:Adr)(C:Addr):Prop:=C=D.Hall
theorem eY.fam{D:Adr}{C:Addr}(h:eY D C):Fam D C:=by
 unfold eY at h;unfold Fam;simp[h]
theorem Txt.z8{K:Frag}{mg:Str->Ζ}{D:Adr}(T:Txt K mg D):∀C,eY D C->Meth K C "check_room" D.Hall_check_room:=by
 rintro C (rfl)
 .exact T.Ab
def dB(D:Adr)(C:Addr):Prop:=C=D.Hall
theorem dB.fam{D:Adr}{C:Addr}(h:dB D C):Fam D C:=by
 unfold dB at h;unfold Fam;simp[h]
theorem Txt.nF{K:Frag}{mg:Str->Ζ}{D:Adr}(T:Txt K mg D):∀C,dB D C->Meth K C "offers" D.Hall_offers:=by
 rintro C (rfl)
 .exact T.GJ
def dI(D:Adr)(C:Addr):Prop:=C=D.Hall
theorem dI.fam{D:Adr}{C:Addr}(h:dI D C):Fam D C:=by
 unfold dI at h;unfold Fam;simp[h]
theorem Txt.oA{K:Frag}{mg:Str->Ζ}{D:Adr}(T:Txt K mg D):∀C,dI D C->Meth K C "size" D.Hall_size:=by
 rintro C (rfl)
 .exact T.QB
def fW(D:Adr)(C:Addr):Prop:=C=D.Door\/C=D.Sure\/C=D.Mixed\/C=D.Toss\/C=D.Even
theorem fW.fam{D:Adr}{C:Addr}(h:fW D C):Fam D C:=by
 unfold fW at h;unfold Fam;rcases h with h|h|h|h|h<;>simp[h]
theorem Txt.Ou{K:Frag}{mg:Str->Ζ}{D:Adr}(T:Txt K mg D):∀C,fW D C->Meth K C "ways" D.Door_ways:=by
 rintro C (rfl|rfl|rfl|rfl|rfl)
 .exact T.Qk
 .exact T.Mu
 .exact T.KJ
 .exact T.Pk
 .exact T.Ny
section
variable{P:Program}{w:World}{K:Frag}{mg:Str->Ζ}{base:Heap}{D:Adr}
theorem boot_abs:bootBuiltins "abs"=some (.builtin "abs"):=by decide +kernel
theorem Zb:1<=sizeLine:=by decide
theorem d8:2<=sizeLine:=by decide
theorem aev{n:Int}(h0:0<=n)(h1:n<=1000000):aie 10 n:=⟨h0,h1,by decide⟩
theorem aes{n:Nat}(h:n<=64):n<=sizeLine:=aM h (by decide)
theorem ace(ns:List Int)(k:Nat):atI (pZ (ns.map V.int) (some (k:Int)) (some ((k:Int)+1))++[V.int 0]) 0=some (V.int (ns.getD k 0)):=by
 unfold pZ;rw[show((k:Int)+1)=((k+1:Nat):Int)by lia,HT.sW,HT.sW,ak];refine cu (j:=0) ?_;by_cases h:k<ns.length
 .rw[Nat.min_eq_left (Nat.le_of_lt h),Nat.min_eq_left (Nat.succ_le_of_lt h)];rw[show k+1-k=1 by exact Nat.add_sub_cancel_left _ _];rw[List.drop_eq_getElem_cons (by rw[ak];exact h)];simp[List.getD,h]
 .have e1:min k ns.length=ns.length:=by lia
  have e2:min (k+1) ns.length=ns.length:=by lia
  rw[e1,e2];simp[List.getD,List.getElem?_eq_none (Nat.le_of_not_lt h)]
theorem bV{t u:TS}{D:Ends}{σ:L2.St}{H:Hp}(h:∀u',u'=u->um t u' D σ H):um t u D σ H:=h u rfl
theorem LR{a b c d:TS}{D:Ends}{σ:L2.St}{H:Hp}(h:∀d',d'=d->um a (um b (um c d')) D σ H):um a (um b (um c d)) D σ H:=h d rfl
theorem Aj{α:Type} : ∀{l:List α},l.length=2->∃a b,l=[a,b]
 |[a,b],_=>⟨a,b,rfl⟩
theorem pJ{t0:TE}{t v:TS}{D:Ends}{σ:L2.St}{H:Hp}{i k:Int}(ht:∀R:VK,R (.int i) H->t0 σ H R)(ne:i≠k)(h:v D σ H):um (Ks (Cu (tOp rEq t0 (tC (.int k)))) t Bq) v D σ H:=by
 refine ht _ ⟨rfl,_,rfl,?_⟩;dsimp only;rw[ZZ (by simp[ne])];exact h
theorem xJ{t0:TE}{t v:TS}{D:Ends}{σ:L2.St}{H:Hp}{i k:Int}(ht:∀R:VK,R (.int i) H->t0 σ H R)(e:i=k)(h:∀Kn:L2.St->Hp->Prop,(∀σ' H',v D σ' H'->Kn σ' H')->t { D with nx:=Kn } σ H):um (Ks (Cu (tOp rEq t0 (tC (.int k)))) t Bq) v D σ H:=by
 refine ht _ ⟨rfl,_,rfl,?_⟩;dsimp only;rw[ZY (by simp[e])];exact h _ λ_ _ z=>z
theorem dX{te:TE}{D:Ends}{σ:L2.St}{H:Hp}(h:te σ H D.rt):Xy te D σ H:=h
theorem S_{te:TE}{σ:L2.St}{H:Hp}{Q:Μ->Hp->Prop}(h:te σ H λx H1=>Q [x] H1):rW te Ij σ H Q:=h
theorem cT{t u:TS}{D:Ends}{σ:L2.St}{H:Hp}(h:t { D with nx:=u D } σ H):um t u D σ H:=h
theorem cC{te:TE}{g:TG}{u:TS}{D:Ends}{σ:L2.St}{H:Hp}(h:te σ H λx H1=>g x σ H1 (u D)):um (Ke te g) u D σ H:=h
theorem aal{c:TT}{t u:TS}{D:Ends}{σ:L2.St}{H:Hp}(h:c σ H λb H1=>if b=true then t D σ H1 else u D σ H1):Ks c t u D σ H:=h
theorem OD{r:Μ->Hp->VK->Prop}{te:TE}{σ:L2.St}{H:Hp}{Q:VK}(h:te σ H λx H1=>r [x] H1 Q):tCB r (rW te Ij) σ H Q:=h
theorem adF{r:Μ->Hp->VK->Prop}{te:TE}{σ:L2.St}{H:Hp}{Q:Bool->Hp->Prop}(h:te σ H λx H1=>r [x] H1 λy H2=>∃k,Ue y=some k/\Q k H2):Xx (tCB r (rW te Ij)) σ H Q:=h
def g_:Sp:=λvs H Q _=>∃x t,vs=[x]/\tyS H x=some t/\Q (.bl (t=="int")) H
theorem Fg(F:Fun K fH fH Ak f fd)(T:Txt K mg D):cF P w K mg base CX0 1 f fd fD g_:=by
 refine F.ok RZ ?_ ?_
 .rintro _ _ _ _ ⟨x,t,rfl,_⟩;rfl
 .rintro cdv A outer s H _ Q E hr ⟨x,t,rfl,ht,q⟩;refine⟨_,(bM (cg (Ds (b_ gY (by rfl) T.cH boot_isinstance (bD (pv 0) (bD (je (v:=.ty "int") (by rfl) T.HJ boot_int rfl) bF))) (Ir (Vn (b_ gY (by rfl) T.cH boot_isinstance (bD (pv 0) (bD (je (v:=.ty "bool") (by rfl) T.Vh boot_bool rfl) bF)))))))),?_⟩
  walk_at "rd"
  rw[ht]
  walk_at "rd"
  have hm:=aa9 ht;simp only[YU,List.not_mem_nil,or_false]at hm;rcases hm with rfl|rfl|rfl|rfl|rfl|rfl|rfl<;>simpa using q
def Ju:Sp:=λvs H Q _=>∃(a b:Int),vs=[.int a,.int b]/\Q (.int (Int.gcd a b:Nat)) H
theorem afy(F:Fun K Ea Ea aag f fd)(T:Txt K mg D):cF P w K mg base CX0 1 f fd Ej Ju:=by
 refine cF.clean (sp:=λvs H Q _=>∃(a b:Int),vs=[.int a,.int b]/\∀H',Same H H'->Q (.int (Int.gcd a b:Nat)) H')
  (F.ok Oa (λvs H Q E h=>?_) (λcdv A outer s H vs Q E hr h=>?_)) λvs H Q E hP=>by obtain⟨a,b,h1,h4⟩:=hP;exact⟨a,b,h1,λH' S=>⟨S,h4⟩⟩
 .obtain⟨a,b,rfl,_⟩:=h
  rfl
 .obtain⟨a,b,rfl,q⟩:=h;refine⟨_,(bL (Ho (b_ Xe (by rfl) T.aaq boot_sorted (bD (o9 (bD (b_ yC (by rfl) T.Tf boot_abs (bD (pv 0) bF)) (bD (b_ yC (by rfl) T.Tf boot_abs (bD (pv 1) bF)) bF))) bF)) (ad3 (n:=2) rfl (cD (cM (i:=2) Oa.nd rfl (Or.inl rfl)) (cD (cM (i:=3) Oa.nd rfl (Or.inl rfl)) fL))))
   (bL (I9 PassesOwn.never (cI RX (pv 2) bG (cJ _))
    (bM (aeH (i:=2) (j:=3) rfl Oa.nd rfl rfl (by decide) rfl rfl (bD (bU pW (pv 3) (pv 2)) (bD (pv 2) bF)) rfl)))
   (bM (cg (pv 3))))),?_⟩
  walk_at "rd"
  refine⟨d8,λp hp=>⟨[(a.natAbs:Int),(b.natAbs:Int)],?_,(by simp),λms p1 hp1 hm hs=>?_⟩⟩
  .rw[Qt,Qt];rfl
  have S:Same H (upd (upd H p (HO.lst [V.int (if a<0 then -a else a),V.int (if b<0 then -b else b)])) p1 (HO.lst (ms.map V.int))):=(Same.upd hp).trans (Same.upd hp1);generalize upd (upd H p (HO.lst [V.int (if a<0 then -a else a),V.int (if b<0 then -b else b)])) p1 (HO.lst (ms.map V.int))=H1 at S;have hk:∃l k:Nat,ms=[(l:Int),(k:Int)]/\Nat.gcd l k=Int.gcd a b:=by
   rcases YM hm with rfl|rfl
   .exact⟨_,_,rfl,rfl⟩
   .exact⟨_,_,rfl,Nat.gcd_comm _ _⟩
  obtain⟨l,k,rfl,hg⟩:=hk
  walk_at "rd"
  refine Sv (λσ H2=>∃l k:Nat,σ=[some (.int a),some (.int b),some (.int l),some (.int k)]/\H2=H1/\Nat.gcd l k=Int.gcd a b)
   (mI 2) ⟨l,k,rfl,rfl,hg⟩ ?_ ?_
  .rintro σ H2 ⟨l,k,rfl,rfl,hg⟩
   walk_at "rd"
   by_cases hl:l=0
   .subst hl;simp only[Int.natCast_zero,Int.lt_irrefl,decide_false,XX,if_false];rw[show k=Int.gcd a b by rw[<- hg,Nat.gcd_zero_left]];exact q _ S
   .have hl':(0:Int)<l:=by lia
    rw[ZY (Zs hl')];refine⟨by exact Int.ne_of_gt hl',⟨k%l,Aq _ _,l,rfl,?_⟩,?_⟩
    .rw[<- Nat.gcd_rec];exact hg
    .rw[Aq];show(k%l)<l;exact Nat.mod_lt _ (Nat.pos_of_ne_zero hl)
  .intro σ H2 Q1 Q2 hq
   walk_at "rd"
   rintro⟨v,h1,i,h2,h3⟩;exact⟨v,h1,i,h2,hq _ _ h3⟩
theorem Ml{a b:Int}(h:b≠0):(0:Int)<(Int.gcd a b:Nat):=by
 have:=Int.gcd_pos_of_ne_zero_right a h;lia
theorem U0{a b:Int}(h:b≠0)(hb:Bd b):Bd (Int.gcd a b:Nat):=by
 unfold Bd at *;refine Y2 ?_ hb;rw[XT];exact Nat.le_of_dvd (by lia) (Int.gcd_dvd_natAbs_right a b)
def iD:Sp:=λvs H Q _=>∃(a b:Int),vs=[.int a,.int b]/\Q (.int (Int.gcd a b:Nat)) H
def akP(a b:Int)(H1:Hp)(σ:L2.St)(H:Hp):Prop:=∃(l k:Nat)(z:Option V),σ=[some (.int a),some (.int b),some (.int l),some (.int k),z]/\H=H1/\Nat.gcd l k=Int.gcd a b
theorem Jw(F:Fun K jf jf Dm f fd)(T:Txt K mg D):cF P w K mg base CX0 1 f fd jh iD:=by
 refine F.ok pA ?_ ?_
 .rintro _ _ _ _ ⟨a,b,rfl,_⟩;rfl
 .rintro cdv A outer s H _ Q E hr ⟨a,b,rfl,q⟩;refine⟨_,(bL (cj (i:=2) pA.nd rfl (Or.inl rfl) (b_ yC (by rfl) T.Tf boot_abs (bD (pv 0) bF)))
   (bL (cj (i:=3) pA.nd rfl (Or.inl rfl) (b_ yC (by rfl) T.Tf boot_abs (bD (pv 1) bF)))
   (bL (I9 PassesOwn.never (cI Ce (pv 3) bG (cJ _))
    (bL (cj (i:=4) pA.nd rfl (Or.inl rfl) (bU pW (pv 2) (pv 3)))
    (bL (cj (i:=2) pA.nd rfl (Or.inl rfl) (pv 3))
    (bM (cj (i:=3) pA.nd rfl (Or.inl rfl) (pv 4))))))
   (bM (cg (pv 2)))))),?_⟩
  walk_at "rd"
  rw[Qt,Qt];refine Sv (akP a b H) (mI 3) ⟨a.natAbs,b.natAbs,none,rfl,rfl,rfl⟩ ?_ ?_
  .rintro σ H2 ⟨l,k,z,rfl,rfl,hg⟩
   walk_at "rd"
   by_cases hl:k=0
   .subst hl;rw[ZZ (by simp)];rw[show l=Int.gcd a b by rw[<- hg,Nat.gcd_zero_right]];exact q
   .have hl':¬((k:Int)=0):=by lia
    rw[ZY (by simpa using hl)];refine⟨by omega,⟨k,l%k,some (.int ((l%k:Nat):Int)),?_,rfl,?_⟩,?_⟩
    .rw[Aq]
    .rw[Nat.gcd_comm,<- Nat.gcd_rec,Nat.gcd_comm];exact hg
    .rw[Aq];show(l%k)<k;exact Nat.mod_lt _ (Nat.pos_of_ne_zero hl)
  .intro σ H2 Q1 Q2 hq
   walk_at "rd"
   rintro⟨v,h1,h2,h3⟩;exact⟨v,h1,h2,hq _ _ h3⟩
structure Low(t b x y:Int):Prop where
 pos:0<y
 gcd:Int.gcd x y=1
 eq:x*b=t*y
 lx:x.natAbs<=t.natAbs
 ly:y.natAbs<=b.natAbs
theorem Ip{c q:Int}(h:c≠0):Int.fdiv (c*q) c=q:=by
 rw[Int.fdiv_eq_ediv_of_dvd (Int.dvd_mul_right c q),Int.mul_ediv_cancel_left _ h]
theorem IV{c q:Int}(h:c≠0):q.natAbs<=(c*q).natAbs:=by
 rw[Int.natAbs_mul];exact Nat.le_mul_of_pos_left _ (by lia)
theorem abP{t b c:Int}(hb:b≠0)(hc:c≠0)(hg:c.natAbs=Int.gcd t b)(hs:0<c*b):Low t b (Int.fdiv t c) (Int.fdiv b c):=by
 have d1:c ∣ t:=Int.natAbs_dvd.mp (by rw[hg];exact Int.gcd_dvd_left t b);have d2:c ∣ b:=Int.natAbs_dvd.mp (by rw[hg];exact Int.gcd_dvd_right t b);obtain⟨x,rfl⟩:=d1;obtain⟨y,rfl⟩:=d2;rw[Ip hc,Ip hc];refine⟨?_,?_,?_,IV hc,IV hc⟩
 .rw[<- Int.mul_assoc]at hs;have hp:0<c*c:=by
   rcases Int.lt_or_lt_of_ne hc with z|z
   .exact Int.mul_pos_of_neg_of_neg z z
   .exact Xs z z
  exact Int.pos_of_mul_pos_right hs hp
 .rw[Int.gcd_mul_left]at hg;have hp:0<c.natAbs:=by lia
  exact Nat.eq_of_mul_eq_mul_left hp (by rw[Nat.mul_one];exact hg.symm)
 .rw[Int.mul_left_comm,Int.mul_assoc]
def jr:Sp:=λvs H Q _=>∃(t b:Int),vs=[.int t,.int b]/\b≠0/\Bd b/\∀p x y,Low t b x y->H p=none->Q (.ref p) (upd H p (.tup [.int x,.int y]))
theorem abm{i:Int}(h:Bd i):Bd (-i):=by unfold Bd at *;rw[Int.natAbs_neg];exact h
theorem QS(F:Fun K j8 j8 MK f fd)(T:Txt K mg D)(cX:OkF P w K mg base 1 fH fD g_)(d9:OkF P w K mg base 1 jf jh iD):cF P w K mg base CX0 2 f fd j7 jr:=by
 refine F.ok Il ?_ ?_
 .rintro _ _ _ _ ⟨t,b,rfl,_⟩;rfl
 .rintro cdv A outer s H _ Q E hr ⟨t,b,rfl,hb,hbd,q⟩;refine⟨_,(bL (cW (PW.pt (pw_or (dh (cV (bO cX hr.md (by rfl) (bD (pv 0) bF)) (λ_=>rfl))) (pw_or1 (dh (cV (bO cX hr.md (by rfl) (bD (pv 1) bF)) (λ_=>rfl))))))
    (bM oH)
    cA)
   (bL (cW (cI mZ (pv 1) bG (cJ _))
    (bM oH)
    cA)
   (bL (cj (i:=2) Il.nd rfl (Or.inl rfl) (bO d9 hr.md (by rfl) (bD (pv 0) (bD (pv 1) bF))))
   (bL (cW (cI zL (pv 1) bG (cJ _))
    (bM (cj (i:=2) Il.nd rfl (Or.inl rfl) (Et xT (pv 2))))
    cA)
   (bM (cg (mO (bD (bU o8 (pv 0) (pv 2)) (bD (bU o8 (pv 1) (pv 2)) bF))))))))),?_⟩
  unfold g_ iD
  walk_at "rd"
  have g0:=Ml (a:=t) hb;have g1:=U0 (a:=t) hb hbd;rw[ZZ (by simpa using hb)];refine adL (λhn=>?_) λhn=>?_
  .rw[decide_eq_true_eq]at hn;refine⟨by omega,abm g1,by omega,abm g1,d8,λp hp=>q p _ _ (abP hb (by omega) (by lia) ?_) hp⟩;exact Int.mul_pos_of_neg_of_neg (by lia) hn
  .rw[decide_eq_true_eq]at hn;refine⟨by exact Int.ne_of_gt g0,g1,by exact Int.ne_of_gt g0,g1,d8,λp hp=>q p _ _ (abP hb (Int.ne_of_gt g0) (by lia) ?_) hp⟩;exact Xs g0 (by lia)
def lC:Sp:=λvs H Q _=>∃(p q:Addr)(x y u v:Int),vs=[.ref p,.ref q]/\SqT K H p [.int x,.int y]/\SqT K H q [.int u,.int v]/\Bd x/\Bd y/\Bd u/\Bd v/\Q (.bl (decide (x*v<u*y))) H
theorem QJ(F:Fun K mF mF Py f fd):cF P w K mg base CX0 1 f fd lQ (lC (K:=K)):=by
 refine F.ok Z2 ?_ ?_
 .rintro _ _ _ _ ⟨p,q,x,y,u,v,rfl,_⟩;rfl
 .rintro cdv A outer s H _ Q E hr ⟨p,q,x,y,u,v,rfl,hp,hq,bx,b_y,bu,bv,k⟩;refine⟨_,(bM (cg (oE zL (bU cL (bQ cG (pv 0) bG (λ_ _=>rfl)) (bQ cG (pv 1) bG (λ_ _=>rfl))) (bU cL (bQ cG (pv 1) bG (λ_ _=>rfl)) (bQ cG (pv 0) bG (λ_ _=>rfl))) (cJ _)))),?_⟩
  walk_at "rd"
  exact⟨_,hp,_,c7,_,hq,_,cR,_,rfl,_,rfl,bx,bv,_,hq,_,c7,_,hp,_,cR,_,rfl,_,rfl,bu,b_y,k⟩
def nA(g:Int->Int->Int):Sp:=λvs H Q _=>∃(p q:Addr)(x y u v:Int),vs=[.ref p,.ref q]/\SqT K H p [.int x,.int y]/\SqT K H q [.int u,.int v]/\Bd x/\Bd y/\Bd u/\Bd v/\0<y/\0<v/\Bd (y*v) /\
 ∀r z o,Low (g (x*v) (u*y)) (y*v) z o->H r=none->Q (.ref r) (upd H r (.tup [.int z,.int o]))
theorem Wj(F:Fun K sX sX Tp f fd)(eE:OkF P w K mg base 2 j8 j7 jr):cF P w K mg base CX0 3 f fd sU (nA (K:=K) λa b=>a+b):=by
 refine F.ok ab1 ?_ ?_
 .rintro _ _ _ _ ⟨p,q,x,y,u,v,rfl,_⟩;rfl
 .rintro cdv A outer s H _ Q E hr ⟨p,q,x,y,u,v,rfl,hp,hq,bx,b_y,bu,bv,y0,v0,byv,k⟩;refine⟨_,(bM (cg (bO eE hr.md (by rfl) (bD (bU dW (bU cL (bQ cG (pv 0) bG (λ_ _=>rfl)) (bQ cG (pv 1) bG (λ_ _=>rfl))) (bU cL (bQ cG (pv 1) bG (λ_ _=>rfl)) (bQ cG (pv 0) bG (λ_ _=>rfl)))) (bD (bU cL (bQ cG (pv 0) bG (λ_ _=>rfl)) (bQ cG (pv 1) bG (λ_ _=>rfl))) bF))))),?_⟩;unfold jr
  walk_at "rd"
  exact⟨_,hp,_,c7,_,hq,_,cR,_,rfl,_,rfl,bx,bv,_,hq,_,c7,_,hp,_,cR,_,rfl,_,rfl,bu,b_y,_,hp,_,cR,_,hq,_,cR,_,rfl,_,rfl,b_y,bv,Int.ne_of_gt (Xs y0 v0),byv,λr z o l hr=>k r z o l hr⟩
theorem abg(F:Fun K rM rM Nj f fd)(eE:OkF P w K mg base 2 j8 j7 jr):cF P w K mg base CX0 3 f fd qY (nA (K:=K) λa b=>a-b):=by
 refine F.ok aaN ?_ ?_
 .rintro _ _ _ _ ⟨p,q,x,y,u,v,rfl,_⟩;rfl
 .rintro cdv A outer s H _ Q E hr ⟨p,q,x,y,u,v,rfl,hp,hq,bx,b_y,bu,bv,y0,v0,byv,k⟩;refine⟨_,(bM (cg (bO eE hr.md (by rfl) (bD (bU oZ (bU cL (bQ cG (pv 0) bG (λ_ _=>rfl)) (bQ cG (pv 1) bG (λ_ _=>rfl))) (bU cL (bQ cG (pv 1) bG (λ_ _=>rfl)) (bQ cG (pv 0) bG (λ_ _=>rfl)))) (bD (bU cL (bQ cG (pv 0) bG (λ_ _=>rfl)) (bQ cG (pv 1) bG (λ_ _=>rfl))) bF))))),?_⟩;unfold jr
  walk_at "rd"
  exact⟨_,hp,_,c7,_,hq,_,cR,_,rfl,_,rfl,bx,bv,_,hq,_,c7,_,hp,_,cR,_,rfl,_,rfl,bu,b_y,_,hp,_,cR,_,hq,_,cR,_,rfl,_,rfl,b_y,bv,Int.ne_of_gt (Xs y0 v0),byv,λr z o l hr=>k r z o l hr⟩
noncomputable def Ag(c:Nat):Bool:=decide (c∈(Str.ofString "abcdefghijklmnopqrstuvwxyz").cps.toList)
def m9(l:List Nat):Bool:=decide (1<=l.length)&&decide (l.length<=8)&&l.all Ag
theorem ad4(c:Nat):((!decide ([c]<[97])) && !decide ([122]<[c]))=Ag c:=by
 have e:(Str.ofString "abcdefghijklmnopqrstuvwxyz").cps.toList=(List.range 26).map (97 + ·):=by decide +kernel
 have m:c∈(List.range 26).map (97 + ·)↔97<=c/\c<=122:=by
  rw[YV];constructor
  .rintro⟨i,h,rfl⟩;have:=List.mem_range.mp h;exact⟨X2 ..,by lia⟩
  .exact λh=>⟨c-97,List.mem_range.mpr (by omega),by omega⟩
 have h1:([c]<[97])↔c<97:=by rw[List.cons_lt_cons_iff];simp
 have h2:([122]<[c])↔122<c:=by rw[List.cons_lt_cons_iff];simp
 unfold Ag;rw[e,decide_eq_decide.mpr m,decide_eq_decide.mpr h1,decide_eq_decide.mpr h2];by_cases a:c<97
 .rw[Zs a,Zp (p:=97<=c/\c<=122) (by lia)];rfl
 .by_cases b:122<c
  .rw[Zs b,Zp (p:=97<=c/\c<=122) (by lia)];exact Bool.and_false _
  .rw[Zp a,Zp b,Zs ⟨by exact Nat.le_of_not_lt a,by exact Nat.le_of_not_lt b⟩];rfl
def wY:Sp:=λvs H Q _=>∃v,vs=[v]/\((∃x:Str,v=.str x/\x.length<=1000/\Q (.bl (m9 x.cps.toList)) H)\/∃t,tyS H v=some t/\t≠"str"/\Q (.bl false) H)
theorem UG(F:Fun K mJ mJ zc f fd)(T:Txt K mg D):cF P w K mg base CX0 1 f fd mW wY:=by
 refine cF.clean (sp:=λvs H Q _=>∃v,vs=[v]/\((∃x:Str,v=.str x/\x.length<=1000/\∀H',Same H H'->Q (.bl (m9 x.cps.toList)) H')\/∃t,tyS H v=some t/\t≠"str"/\∀H',Same H H'->Q (.bl false) H'))
  (F.ok Va (λvs H Q E h=>?_) (λcdv A outer s H vs Q E hr h=>?_)) λvs H Q E hP=>by obtain⟨v,h1,h2⟩:=hP;exact⟨v,h1,h2.imp (λhP=>by obtain⟨x,a,b,c⟩:=hP;exact⟨x,a,b,λH' S=>⟨S,c⟩⟩) λhP=>by obtain⟨t,a,b,c⟩:=hP;exact⟨t,a,b,λH' S=>⟨S,c⟩⟩⟩
 .obtain⟨v,rfl,_⟩:=h
  rfl
 .obtain⟨v,rfl,h⟩:=h;refine⟨_,(bL (cW (PW.pt (pw_or (dh (cV (b_ gY (by rfl) T.cH boot_isinstance (bD (pv 0) (bD (je (v:=.ty "str") (by rfl) T.ahK boot_str rfl) bF))) (λ_=>rfl))) (pw_or1 (dh (BZ zT zT bG (b_ Oq (by rfl) T.iH PySem.boot_len (bD (pv 0) bF)) (HS (by rfl) T.Ii))))))
    (bM (cg fU))
    cA)
   (bM (cg (b_ (yX rfl) (by rfl) T.WT boot_all (bD (iY (bN zc) Eb Eb ["sign"] (aeO ((pv 0)).mono) (d7 (i:=0)) dz (QF abB abB mQ (pv 0) mQ)) bF))))),?_⟩
  rcases h with⟨x,rfl,hx,q⟩|⟨t,ht,hne,q⟩
  .have hz:x.length<=sizeLine:=aM hx (by decide);have hl:x.cps.toList.length=x.length:=Array.length_toList;have ea:Str.ofString "a"=⟨#[97]⟩:=by decide +kernel
   have ez:Str.ofString "z"=⟨#[122]⟩:=by decide +kernel
   walk_at "rd"
   refine⟨hz,?_⟩;by_cases h1:1<=x.length
   .rw[ZY (Zs (by lia))];by_cases h2:x.length<=8
    .rw[ZZ (by rw[Zs (by lia)];decide)];refine Q_ Ag x (λR h=>⟨_,rfl,h⟩) hz (λc Hc R h=>?_) λL hL=>⟨L,rfl,_,bI,?_⟩
     .simp only[um,Ks,Xy,aaw,tOp,tUn,rU,VG,Rw,ac2,tSl,Jd,tC,V3,rI0,rI,acp,aaC,acJ,rW,Ij,tCB,Dt,Cu,aay,tOr,abl,Wh,V9,aer,Xx,Ke,acP,cN,ac5,Wk,VN,W5,V7,W_,adt,Vv,Nh,Vg,Bv,Qp,Xo,Ue,rEq,rNe,Z1,Y9,abx,Zc,YS,aak,Zu,aaK,aap,YQ,aaT,ZW,Y4,ZV,Bq,Wg,Du,Tt,Nt,Pn,Zq,Zr,aeC,afb,Ends.unset,ad7,aez,Oz,ad2,Wo,adf,aen,WQ,abn,abY,aeP,tSM,Vb,Mt,Jj,abK,ab9,VP,Qo,adA,FZ,Nu,Wc,ZL,rJoin,aar,Ws,tB,C_,adN,aaJ,Gi,Wv,VF,ac0,afj,abJ,Vz,N8,aaR,Tr,abq,Ji,acn,acQ,Gs,V.str.injEq,L2.start,List.replicate_succ,List.replicate_zero,Nat.reduceSub,Nat.reduceAdd,List.map_cons,List.map_nil,List.length_cons,List.length_nil,List.cons_append,List.nil_append,List.append_nil,List.getElem?_cons_zero,List.getElem?_cons_succ,List.set_cons_zero,List.set_cons_succ,List.set_nil,Option.some.injEq,exists_eq_left',exists_eq_left,exists_and_left,exists_and_right,exists_eq_right,exists_eq,exists_eq',and_assoc,V.int.injEq,V.ref.injEq,V.bl.injEq,V.ty.injEq,List.cons.injEq,HO.tup.injEq,HO.lst.injEq,and_true,true_and,reduceCtorEq,c7,cR,bI,decide_true,decide_false,Bool.not_true,Bool.not_false,if_true,if_false,ite_true,ite_false,XX,YU,String.reduceEq,or_true,true_or,or_false,false_or,beq_self_eq_true,Bool.or_true,Bool.true_or,Bool.or_false,Bool.false_or,Bool.and_true,Bool.and_false,Bool.true_and,Bool.false_and,String.reduceBEq,Int.reduceToNat,Int.reducePow,Int.reduceMul,Int.reduceSub,Int.reduceAdd,Int.reduceNeg,Int.reduceLE,Int.reduceLT,Int.reduceEq,ne_eq,not_false_eq_true,not_true_eq_false,Int.cast_ofNat_Int,ea,ez];have:=ad4 c;rw[<- this]at h;cases hd:(!decide ([c]<[97]))with
      |false=>rw[hd]at h;exact h
      |true=>rw[hd]at h;exact h
     .have ew:m9 x.cps.toList=(x.cps.toList.map Ag).all id:=by
       unfold m9;rw[hl,Zs h1,Zs h2,List.all_map];rfl
      rw[<- ew];exact q _ (Same.upd hL)
    .rw[ZY (by rw[Zp (by lia)];rfl)];have ew:m9 x.cps.toList=false:=by
      unfold m9;rw[hl,Zp h2,Bool.and_false];rfl
     rw[ew]at q;exact q _ (Same.refl _)
   .rw[ZZ (by rw[decide_eq_true_eq];lia)];have ew:m9 x.cps.toList=false:=by
     unfold m9;rw[hl,Zp h1];rfl
    rw[ew]at q;exact q _ (Same.refl _)
  .simp only[um,Ks,Xy,aaw,tOp,tUn,rU,VG,Rw,ac2,tSl,Jd,tC,V3,rI0,rI,acp,aaC,acJ,rW,Ij,tCB,Dt,Cu,aay,tOr,abl,Wh,V9,aer,Xx,Ke,acP,cN,ac5,Wk,VN,W5,V7,W_,adt,Vv,Nh,Vg,Bv,Qp,Xo,Ue,rEq,rNe,Z1,Y9,abx,Zc,YS,aak,Zu,aaK,aap,YQ,aaT,ZW,Y4,ZV,Bq,Wg,Du,Tt,Nt,Pn,Zq,Zr,aeC,afb,Ends.unset,ad7,aez,Oz,ad2,Wo,adf,aen,WQ,abn,abY,aeP,tSM,Vb,Mt,Jj,abK,ab9,VP,Qo,adA,FZ,Nu,Wc,ZL,rJoin,aar,Ws,tB,C_,adN,aaJ,Gi,Wv,VF,ac0,afj,abJ,Vz,N8,aaR,Tr,abq,Ji,acn,acQ,Gs,V.str.injEq,L2.start,List.replicate_succ,List.replicate_zero,Nat.reduceSub,Nat.reduceAdd,List.map_cons,List.map_nil,List.length_cons,List.length_nil,List.cons_append,List.nil_append,List.append_nil,List.getElem?_cons_zero,List.getElem?_cons_succ,List.set_cons_zero,List.set_cons_succ,List.set_nil,Option.some.injEq,exists_eq_left',exists_eq_left,exists_and_left,exists_and_right,exists_eq_right,exists_eq,exists_eq',and_assoc,V.int.injEq,V.ref.injEq,V.bl.injEq,V.ty.injEq,List.cons.injEq,HO.tup.injEq,HO.lst.injEq,and_true,true_and,reduceCtorEq,c7,cR,bI,decide_true,decide_false,Bool.not_true,Bool.not_false,if_true,if_false,ite_true,ite_false,XX,YU,String.reduceEq,or_true,true_or,or_false,false_or,beq_self_eq_true,Bool.or_true,Bool.true_or,Bool.or_false,Bool.false_or,Bool.and_true,Bool.and_false,Bool.true_and,Bool.false_and,String.reduceBEq,Int.reduceToNat,Int.reducePow,Int.reduceMul,Int.reduceSub,Int.reduceAdd,Int.reduceNeg,Int.reduceLE,Int.reduceLT,Int.reduceEq,ne_eq,not_false_eq_true,not_true_eq_false,Int.cast_ofNat_Int,ht];rw[beq_eq_false_iff_ne.mpr hne];exact q _ (Same.refl _)
structure Fk(K:Frag)(H:Hp)(p:Addr)(x y:Int):Prop where
 at_:SqT K H p [.int x,.int y]
 pos:0<y
 gcd:Int.gcd x y=1
theorem Fk.same{K:Frag}{H H':Hp}{p:Addr}{x y:Int}(h:Fk K H p x y)(S:Same H H'):Fk K H' p x y:=⟨S.tup h.at_,h.pos,h.gcd⟩
def iV:Sp:=λvs H Q _=>∃p x y,vs=[.ref p]/\Fk K H p x y/\Q (.bl true) H
theorem RV(F:Fun K j4 j4 z6 f fd)(T:Txt K mg D)(cX:OkF P w K mg base 1 fH fD g_)(d9:OkF P w K mg base 1 jf jh iD):cF P w K mg base CX0 2 f fd j5 (iV (K:=K)):=by
 refine F.ok wV ?_ ?_
 .rintro _ _ _ _ ⟨p,x,y,rfl,_⟩;rfl
 .rintro cdv A outer s H _ Q E hr ⟨p,x,y,rfl,hf,q⟩;have hp:=hf.at_;refine⟨_,(bL (cW (PW.pt (pw_or (dh (cV (b_ (gY.or sY) (by rfl) T.cH boot_isinstance (bD (pv 0) (bD (je (v:=.ty "tuple") (by rfl) T.MP boot_tuple rfl) bF))) (λ_=>rfl))) (pw_or1 (cI Ce (b_ Mf (by rfl) T.iH PySem.boot_len (bD (pv 0) bF)) bG (cJ _)))))
    (bM (cg fU))
    cA)
   (bL (cj (i:=1) wV.nd rfl (Or.inl rfl) (bQ cG (pv 0) bG (λ_ _=>rfl)))
   (bL (cj (i:=2) wV.nd rfl (Or.inl rfl) (bQ cG (pv 0) bG (λ_ _=>rfl)))
   (bL (cW (PW.pt (pw_or (dh (cV (bO cX hr.md (by rfl) (bD (pv 1) bF)) (λ_=>rfl))) (pw_or1 (dh (cV (bO cX hr.md (by rfl) (bD (pv 2) bF)) (λ_=>rfl))))))
    (bM (cg fU))
    cA)
   (bM (cg (Ds (oE ZG (pv 2) bG (cJ _)) (Ir (oE mZ (bO d9 hr.md (by rfl) (bD (pv 1) (bD (pv 2) bF))) bG (cJ _)))))))))),?_⟩
  unfold g_ iD
  walk_at "rd"
  refine .inr ⟨⟨_,hp⟩,_,hp,?_⟩;rw[ZZ (by simp)];refine⟨_,hp,_,c7,_,hp,_,cR,_,Bv,?_⟩;rw[ZZ (by decide)];refine⟨_,Bv,?_⟩;rw[ZZ (by decide)];have hy:=hf.pos;refine⟨y,rfl,?_⟩;rw[ZY (Zs (by lia))];refine⟨x,rfl,y,rfl,?_⟩;rw[hf.gcd];exact q
def jB:Sp:=λvs H Q _=>∃(n:Str)(p:Addr)(x y:Int),vs=[.str n,.ref p]/\n.length<=1000/\m9 n.cps.toList=true/\Fk K H p x y/\Q .non H
theorem JW(F:Fun K jw jw uR f fd)(T:Txt K mg D)(kj:OkF P w K mg base 1 mJ mW wY)(jc:OkF P w K mg base 2 j4 j5 (iV (K:=K))):cF P w K mg base (CXO P w) 3 f fd jK (jB (K:=K)):=by
 refine F.okX KZ ?_ ?_
 .rintro _ _ _ _ ⟨n,p,x,y,rfl,_⟩;rfl
 .rintro cdv A outer s H _ Q E hr ⟨n,p,x,y,rfl,hn,hw,hf,q⟩;refine⟨_,(bL (cW (dh (cV (bO kj hr.md (by rfl) (bD (pv 0) bF)) (λ_=>rfl)))
    (bM (rC rfl (by rfl) T.GQ T.Ri rZ (bD mQ bF)))
    cA)
   (bM (cW (dh (cV (bO jc hr.md (by rfl) (bD (pv 1) bF)) (λ_=>rfl)))
    (bM (rC rfl (by rfl) T.uQ T.z_ rZ (bD mQ bF)))
    cA))),?_⟩
  unfold wY iV
  walk_at "rd"
  rw[hw];exact .inl ⟨hn,⟨x,y,hf⟩,q⟩
def lu(D:Adr):Sp:=λvs H Q _=>∃(s dx C:Addr)(n:Str)(p:Addr)(x y:Int),vs=[.ref s,.str n,.ref p]/\H s=some (.ins C dx [])/\Fam D C/\n.length<=1000/\m9 n.cps.toList=true/\Fk K H p x y /\
 ∀l,upd H s (.ins C dx [("name",.str n),("pay",.ref p)]) l=none->Q .non (upd (upd H l (.lst [])) s (.ins C dx [("name",.str n),("pay",.ref p),("leads",.ref l)]))
theorem Oh(F:Fun K Av Dl yj f fd)(T:Txt K mg D)(ju:OkX P w K mg base 3 jw jK (jB (K:=K))):cF P w K mg base (CXO P w) 4 f fd kY (lu (K:=K) D):=by
 refine F.okX Mp ?_ ?_
 .rintro _ _ _ _ ⟨s,dx,C,n,p,x,y,rfl,_⟩;rfl
 .rintro cdv A outer s H _ Q E hr ⟨o,dx,C,n,p,x,y,rfl,ho,hC,hn,hw,hf,q⟩;refine⟨_,(bL (dD (eN ju hr.md (by rfl) fK (bD (pv 1) (bD (pv 2) bF))))
   (bL (yN (pv 0) (pv 1) rfl)
   (bL (yN (pv 0) (pv 2) rfl)
   (bM (yN (pv 0) (o9 bF) rfl))))),?_⟩
  unfold jB
  walk_at "rd"
  have cl:=T.cl C hC;refine⟨hn,hw,⟨x,y,hf⟩,C,dx,[],ho,cl,T.Gk C hC,(by decide),C,dx,_,rfl,cl,T.abk C hC,(by show 1<1000;decide),bw _,λl hl=>?_⟩;rw[yZ]at hl ⊢;have ne:o≠l:=bH bI hl;refine⟨C,dx,_,(bK ne).trans bI,cl,T.Jv C hC,(by show 2<1000;decide),?_⟩;have e:upd (upd (upd H o (.ins C dx (nM "pay" (.ref p) (nM "name" (.str n) [])))) l (.lst [])) o (.ins C dx (nM "leads" (.ref l) (nM "pay" (.ref p) (nM "name" (.str n) []))))=upd (upd H l (.lst [])) o (.ins C dx [("name",.str n),("pay",.ref p),("leads",.ref l)]):=by
   funext b
   by_cases h1:b=o
   .subst h1;rw[bI,bI];rfl
   .rw[bK h1,bK h1];by_cases h2:b=l
    .subst h2;rw[bI,bI]
    .rw[bK h2,bK h2,bK h1]
  rw[e];exact q l hl
def kE:Sp:=λvs H Q _=>∃n:Str,vs=[.str n]/\n.length<=1000/\m9 n.cps.toList=true/\Q .non H
theorem Am(F:Fun K eV eV nZ f fd)(T:Txt K mg D)(kj:OkF P w K mg base 1 mJ mW wY):cF P w K mg base (CXO P w) 2 f fd eU kE:=by
 refine F.okX Ae ?_ ?_
 .rintro _ _ _ _ ⟨n,rfl,_⟩;rfl
 .rintro cdv A outer s H _ Q E hr ⟨n,rfl,hn,hw,q⟩;refine⟨_,(bM (cW (dh (cV (bO kj hr.md (by rfl) (bD (pv 0) bF)) (λ_=>rfl)))
    (bM (rC rfl (by rfl) T.GQ T.Ri rZ (bD mQ bF)))
    cA)),?_⟩
  unfold wY
  walk_at "rd"
  rw[hw];exact .inl ⟨hn,q⟩
structure Ck(K:Frag)(H:Hp)(p:Addr)(x y:Int):Prop where
 fk:Fk K H p x y
 lo:0<=x
 hi:x<=y
 by_:Bd y
def qR:Sp:=λvs H Q _=>∃p x y,vs=[.ref p]/\Ck K H p x y/\Q .non H
theorem Fy(F:Fun K gQ gQ rE f fd)(T:Txt K mg D)(jc:OkF P w K mg base 2 j4 j5 (iV (K:=K)))(fX:OkF P w K mg base 1 mF lQ (lC (K:=K))):cF P w K mg base (CXO P w) 3 f fd gP (qR (K:=K)):=by
 refine F.okX FJ ?_ ?_
 .rintro _ _ _ _ ⟨p,x,y,rfl,_⟩;rfl
 .rintro cdv A outer s H _ Q E hr ⟨p,x,y,rfl,hc,q⟩;refine⟨_,(bM (cW (PW.pt (pw_or (dh (cV (bO jc hr.md (by rfl) (bD (pv 0) bF)) (λ_=>rfl))) (pw_or (cV (bO fX hr.md (by rfl) (bD (pv 0) (bD (jo (by rfl) T.uE) bF))) (λ_=>rfl)) (pw_or1 (cV (bO fX hr.md (by rfl) (bD (jo (by rfl) T.K6) (bD (pv 0) bF))) (λ_=>rfl))))))
    (bM (rC rfl (by rfl) T.zV T.JB rZ (bD mQ bF)))
    cA)),?_⟩
  unfold iV lC
  walk_at "rd"
  have hy:=hc.fk.pos;have lo:=hc.lo;have hi:=hc.hi;have by_:=hc.by_;have bx:Bd x:=Y2 (by lia:x.natAbs<=y.natAbs) by_;have b0:Bd 0:=Nat.two_pow_pos 8000;have b1:Bd 1:=Nat.one_lt_two_pow (by decide);refine⟨⟨x,y,hc.fk⟩,x,y,hc.fk.at_,0,1,T.qM H,bx,by_,b0,b1,?_⟩;rw[ZZ (by simp;omega)];refine⟨1,1,T.DG H,x,y,hc.fk.at_,b1,b1,bx,by_,?_⟩;rw[ZZ (by simp;omega)];exact q
def uT(D:Adr):Sp:=λvs H Q _=>∃(s dx:Addr)(n m:Str)(p:Addr)(x y:Int),vs=[.ref s,.str n,.ref p,.str m]/\H s=some (.ins D.Sure dx [])/\n.length<=1000/\m9 n.cps.toList=true/\m.length<=1000/\m9 m.cps.toList=true/\Fk K H p x y /\
 ∀t l H',H l=none->(∀b o,b≠s->H b=some o->H' b=some o)->H' t=some (.tup [.str m,.ref D.ONE])->H' l=some (.lst [.ref t])->H' s=some (.ins D.Sure dx [("name",.str n),("pay",.ref p),("leads",.ref l)])->Q .non H'
theorem Mi(F:Fun K Bu Cy wX f fd)(T:Txt K mg D)(k_:OkI P w K mg base (CXO P w) 4 D.Door_init kY (lu (K:=K) D))(mK:OkX P w K mg base 2 eV eU kE):cF P w K mg base (CXO P w) 5 f fd nU (uT (K:=K) D):=by
 refine F.okX Qi ?_ ?_
 .rintro _ _ _ _ ⟨s,dx,n,m,p,x,y,rfl,_⟩;rfl
 .rintro cdv A outer s H _ Q E hr ⟨o,dx,n,m,p,x,y,rfl,ho,hn,hw,hm,hv,hf,q⟩;refine⟨_,(bL (dD (BP T.Bb k_ hr.md (by rfl) T.abE fK (bD (pv 0) (bD (pv 1) (bD (pv 2) bF)))))
   (bL (dD (eN mK hr.md (by rfl) fK (bD (pv 3) bF)))
   (bM (yN (pv 0) (o9 (bD (mO (bD (pv 3) (bD (jo (by rfl) T.K6) bF))) bF)) rfl)))),?_⟩
  unfold lu kE
  walk_at "rd"
  refine⟨dx,D.Sure,ho,(by simp[Fam]),hn,hw,⟨x,y,hf⟩,λl hl=>⟨hm,hv,(by decide),λt ht=>⟨(by decide),λr hq=>?_⟩⟩⟩;have ol:o≠l:=bH bI hl;have ot:o≠t:=bH bI ht;have lt:l≠t:=bH ((bK ol.symm).trans bI) ht;have tr:t≠r:=bH bI hq;have or_:o≠r:=bH ((bK ot).trans bI) hq;refine⟨D.Sure,dx,_,(bK or_).trans ((bK ot).trans bI),T.Ru,T.zK,(by show 3<1000;decide),?_⟩;rw[bK ol.symm]at hl;rw[bK ot.symm,bK lt.symm]at ht;rw[bK tr.symm,bK or_.symm]at hq;refine q t r _ ?_ (λb u hb hu=>?_) ?_ ?_ bI
  .cases z:H r with
   |none=>rfl
   |some o' =>
    have bl:r≠l:=bH z hl;rw[bK bl,z]at hq;cases hq
  .have bl:b≠l:=bH hu hl;have bt:b≠t:=bH hu ht;have br:b≠r:=by
    intro e;subst e;rw[bK bl,hu]at hq;cases hq
   rw[bK hb,bK br,bK bt,bK hb,bK bl];exact hu
  .rw[bK ot.symm,bK tr];exact bI
  .rw[bK or_.symm];exact bI
theorem Bd.sm{i:Int}(h:i.natAbs<18446744073709551616):Bd i:=aU h (aM (by decide:18446744073709551616<=2^64) (XU (by decide) (by decide)))
def jz:Sp:=λvs H Q _=>∃(c:Int)(n:Nat),vs=[.int c,.int n]/\n<=100/\∀(l:Addr)(xs:List Int)H',Same H H'->H l=none->H' l=some (.lst (xs.map V.int))->xs.length=n->(∀x∈xs,0<=x/\x<2000000000)->Q (.ref l) H'
def jS(c:Int)(n:Nat)(p:Addr)(H:Hp)(k:Nat)(σ:L2.St)(H':Hp):Prop:=∃(xs:List Int)(m d:Int)(v:Option V),σ=[some (.int c),some (.int n),some (.ref p),some (.int m),some (.int d),v]/\(0<=m/\m<1999999973)/\0<=d/\xs.length=k/\(∀x∈xs,0<=x/\x<2000000000)/\Same H H'/\H' p=some (.lst (xs.map V.int))
theorem Yn(F:Fun K jA jA Js f fd)(T:Txt K mg D):cF P w K mg base CX0 1 f fd jD jz:=by
 refine F.ok mY ?_ ?_
 .rintro _ _ _ _ ⟨c,n,rfl,_⟩;rfl
 .rintro cdv A outer s H _ Q E hr ⟨c,n,rfl,hn,q⟩;refine⟨_,(bL (cj (i:=2) mY.nd rfl (Or.inl rfl) (o9 bF))
   (bL (cj (i:=3) mY.nd rfl (Or.inl rfl) (bU cY (bU U6 (bU dW (bU cY (pv 0) bG) bG) bG) bG))
   (bL (cj (i:=4) mY.nd rfl (Or.inl rfl) bG)
   (bL (cW (PW.pt (pw_or (cI zL (pv 0) bG (cJ _)) (pw_or1 (cI ZG (pv 0) (bU N6 bG bG) (cJ _)))))
    (bM (cj (i:=4) mY.nd rfl (Or.inl rfl) (b_ yC (by rfl) T.Tf boot_abs (bD (pv 0) bF))))
    cA)
   (bL (iR PassesOwn.never rfl (j_ (by rfl) T.qw (bD (pv 1) bF).mono) (cM (i:=5) mY.nd rfl (Or.inl rfl))
    (bL (cj (i:=3) mY.nd rfl (Or.inl rfl) (bU cY (bU dW (bU dW (bU cL (pv 3) (bU dW (bU cY (pv 3) bG) bG)) (bU cL bG (pv 5))) bG) bG))
    (bL (dD (rH (pv 2) (bD (bQ bY (o9 (bD (pv 3) (bD (bU cY (pv 4) bG) bF))) (qO yR (by rfl) T.HJ boot_int (bD (oE RX (pv 4) bG (cJ _)) bF)) (λ_ _=>rfl)) bF)))
    (bM (cj (i:=4) mY.nd rfl (Or.inl rfl) (bU o8 (pv 4) bG))))))
   (bM (cg (pv 2)))))))),?_⟩
  refine LR λR0 hR0=>?_
  walk_at "rd"
  refine⟨bw _,λp hp=>⟨.inr (by constructor<;>decide),?_⟩⟩;have m0:0<=(c%1999999973+31)*765432101%1999999973/\(c%1999999973+31)*765432101%1999999973<1999999973:=⟨Z3 _ (by decide),YY _ (by decide)⟩;generalize(c%1999999973+31)*765432101%1999999973=m at m0 ⊢;have a0:0<=(if c<0 then -c else c):=by split<;>lia
  subst hR0;refine bV λR hR=>?_;have loop:∀d0:Int,0<=d0->R { nx:=λ_ H'=>Q .non H',rt:=Q } [some (.int c),some (.int n),some (.ref p),some (.int m),some (.int d0),none] (upd H p (.lst [])):=by
   intro d0 a0;subst hR;have go:∀d:Int,0<=d->jS c n p H 0 [some (.int c),some (.int n),some (.ref p),some (.int m),some (.int d),none] (upd H p (.lst [])):=λd hd=>⟨[],m,d,none,rfl,m0,hd,rfl,(by simp),Same.upd hp,bI⟩;have fin:∀(σ':L2.St)(H':Hp),jS c n p H n σ' H'->∃v,σ'[2]?=some (some v)/\Q v H':=by
    rintro σ' H' ⟨xs,m,d,v,rfl,_,_,h1,h2,h3,h4⟩;exact⟨_,rfl,q p xs H' h3 hp h4 h1 h2⟩
   refine zu ?_
   walk_at "rd"
   refine⟨n,rfl,Y2 hn (by decide),jS c n p H,go _ a0,?_,fin⟩;rintro k σ' H' hk ⟨xs,m,d,v,rfl,hm,hd,h1,h2,h3,h4⟩
   walk_at "rd"
   have b1:Bd m:=Bd.sm (by lia);have b2:Bd (m%65521+40487):=Bd.sm (by lia);have b3:Bd (k:Int):=Bd.sm (by lia);have nx:0<=(m*(m%65521+40487)+7*k+5)%1999999973/\(m*(m%65521+40487)+7*k+5)%1999999973<1999999973:=⟨Z3 _ (by decide),YY _ (by decide)⟩;generalize(m*(m%65521+40487)+7*(k:Int)+5)%1999999973=z at nx ⊢;refine⟨b1,b2,Bd.sm (by decide),b3,⟨_,h4⟩,(by decide),λr hq=>.inr ?_⟩;have pr:p≠r:=bH h4 hq;have dd:0<=d.fdiv 1000000:=by rw[Int.fdiv_eq_ediv_of_nonneg _ (by decide)];lia
   have fin:∀x:Int,0<=x/\x<2000000000->jS c n p H (k+1) [some (.int c),some (.int n),some (.ref p),some (.int z),some (.int (d.fdiv 1000000)),some (.int k)] (upd (upd H' r (.lst [.int z,.int (d%1000000)])) p (.lst (xs.map V.int++[.int x]))):=by
    intro x hx;refine⟨xs++[x],z,_,_,rfl,nx,dd,by simp[h1],?_,?_,?_⟩
    .intro y hy;rcases Y1.mp hy with hy|hy
     .exact h2 y hy
     .rw[YR.mp hy];exact hx
    .intro b o hb;have bp:b≠p:=bH hb hp;have br:b≠r:=bH (h3 b o hb) hq;rw[bK bp,bK br];exact h3 b o hb
    .rw[bA];exact bI
   by_cases h0:0<d
   .rw[ZY (Zs h0)];exact⟨_,cR,_,(bK pr).trans h4,by rw[ak,h1];exact aU hk (aM hn (by decide)),Bd.sm (by decide),fin _ (by lia)⟩
   .rw[ZZ (by simp;exact Int.le_of_not_gt h0)];exact⟨_,c7,_,(bK pr).trans h4,by rw[ak,h1];exact aU hk (aM hn (by decide)),Bd.sm (by decide),fin _ (by lia)⟩
  clear hR
  walk_at "rd"
  refine adL (λ_=>loop _ a0) λ_=>⟨aev (by decide) (by decide),adL (λ_=>loop _ a0) λ_=>loop 0 (by decide)⟩
def afd(H:Hp)(D:Adr)(s:Addr)(n:Str)(p l:Addr):Prop:=∃C dx,Fam D C/\H s=some (.ins C dx [("name",.str n),("pay",.ref p),("leads",.ref l)])
def qz(D:Adr):Sp:=λvs H Q _=>∃(s:Addr)(n:Str)(p l:Addr)(xs:Μ),vs=[.ref s]/\afd H D s n p l/\H l=some (.lst xs)/\xs.length<=100/\∀r,H r=none->Q (.ref r) (upd H r (.lst xs))
theorem Od(F:Fun K Ca Cr vX f fd)(T:Txt K mg D):cF P w K mg base CX0 1 f fd oF (qz D):=by
 refine F.ok Ol ?_ ?_
 .rintro _ _ _ _ ⟨s,n,p,l,xs,rfl,_⟩;rfl
 .rintro cdv A outer s H _ Q E hr ⟨o,n,p,l,xs,rfl,⟨C,dx,hC,ho⟩,hl,hz,q⟩;refine⟨_,(bM (cg (qO HY (by rfl) T.DY boot_list (bD (su (pv 0) rfl) bF)))),?_⟩
  walk_at "rd"
  exact⟨C,dx,_,ho,T.cl C hC,T.Jv C hC,_,rfl,l,rfl,xs,hl,q⟩
structure Xi(H:Hp)(xs:Μ)(ws:List (Str×Addr)):Prop where
 len:xs.length=ws.length
 at_:∀(k:Nat)(g:Str×Addr),ws[k]?=some g->∃t,xs[k]?=some (.ref t)/\H t=some (.tup [.str g.1,.ref g.2])
theorem Xi.same{H H':Hp}{xs:Μ}{ws:List (Str×Addr)}(h:Xi H xs ws)(S:Same H H'):Xi H' xs ws:=⟨h.len,λk g e=>let⟨t,a,b⟩:=h.at_ k g e;⟨t,a,S _ _ b⟩⟩
noncomputable def cell(ns:List Int)(k:Int):Int:=ns.getD k.toNat 0
def Ar(K:Frag)(a:Addr)(ns:List Int):Sp:=λvs H Q _=>∃(k:Int),vs=[.ref a,.int k]/\SqL K H a (ns.map V.int)/\ns.length<=63/\0<=k/\Q (.int (cell ns k)) H
theorem ac3(F:Fun K zy zy Uu f fd)(a:Addr)(ns:List Int):cF P w K mg base CX0 1 f fd zm (Ar K a ns):=by
 refine cF.clean (sp:=λvs H Q _=>∃(k:Int),vs=[.ref a,.int k]/\SqL K H a (ns.map V.int)/\ns.length<=63/\0<=k/\∀H',Same H H'->Q (.int (cell ns k)) H')
  (F.ok acw (λvs H Q E h=>?_) (λcdv A outer s H vs Q E hr h=>?_)) λvs H Q E hP=>by obtain⟨k,h1,h2,h3,h4,h5⟩:=hP;exact⟨k,h1,h2,h3,h4,λH' S=>⟨S,h5⟩⟩
 .obtain⟨k,rfl,_⟩:=h
  rfl
 .obtain⟨k,rfl,hs,hl,hk,q⟩:=h;refine⟨_,(bM (cg (bQ bY (bU Uk (oV Ge (pv 0) (jO (pv 1)) (jO (bU dW (pv 1) bG))) (o9 (bD bG bF))) bG (λ_ _=>rfl)))),?_⟩
  walk_at "rd"
  refine⟨_,hs,λp hp=>⟨Zb,λp1 hp1=>?_⟩⟩;have n1:p≠p1:=bH bI hp1;refine⟨_,(bK n1).trans bI,?_,λp2 hp2=>⟨_,?_,q _ ?_⟩⟩
  .refine aes ?_;have:=Ey (ns.map V.int) (some k) (some (k+1));rw[ak]at this;lia
  .have:=ace ns k.toNat;rw[Int.toNat_of_nonneg hk]at this;exact this
  .exact((Same.upd hp).trans (Same.upd hp1)).trans (Same.upd hp2)
structure Fq(f:Ι):Prop where
 pos:0<f.2
 gcd:Int.gcd f.1 f.2=1
 sa:f.1.natAbs<=10^40
 sb:f.2.natAbs<=10^40
theorem Fq.ba{f:Ι}(h:Fq f):Bd f.1:=Y2 h.sa (by decide +kernel)
theorem Fq.bb{f:Ι}(h:Fq f):Bd f.2:=Y2 h.sb (by decide +kernel)
noncomputable def Yt(fs:Ψ):List Nat:=fs.map λf=>f.2.natAbs
def lvB(fs:Ψ):Nat:=Lv.Ys (Yt fs)
def lvT(fs:Ψ):List Int:=fs.map λf=>f.1*((lvB fs:Nat)/f.2)
theorem Bg{B:Nat} : ∀(bs:List Nat)(a:Nat),0<a->(∀b∈bs,0<b/\b<=B)->bs.foldl Nat.lcm a<=a*B^bs.length
  |[],a,_,_=>by simp
  |b::bs,a,ha,hb=>by
    have h1:=hb b aO;have h2:=Bg bs (Nat.lcm a b) (Nat.lcm_pos ha h1.1) λc hc=>hb c (aH _ hc);rw[List.foldl_cons,List.length_cons,Nat.pow_succ];refine aM h2 ?_;have h3:Nat.lcm a b<=a*B:=aM (Nat.le_of_dvd (Nat.mul_pos ha h1.1) (Nat.lcm_dvd_mul a b)) (Nat.mul_le_mul_left a h1.2)
    calc Nat.lcm a b*B^bs.length<=a*B*B^bs.length:=Nat.mul_le_mul_right _ h3
      _=a*(B^bs.length*B):=by rw[Nat.mul_assoc,Nat.mul_comm B]
theorem YH{fs:Ψ}(h:∀f∈fs,Fq f):∀b∈Yt fs,0<b:=λb hb=>by
 obtain⟨f,hf,rfl⟩:=YV.mp hb;have:=(h f hf).pos;omega
theorem Gr{fs:Ψ}(h:∀f∈fs,Fq f):0<lvB fs:=Lv.R9 (YH h)
theorem abR{fs:Ψ}(h:∀f∈fs,Fq f)(hz:fs.length<=41):lvB fs<=(10^40)^41:=by
 have h1:=Bg (B:=10^40) (Yt fs) 1 (by decide) λb hb=>by
  obtain⟨f,hf,rfl⟩:=YV.mp hb;have:=(h f hf).pos;exact⟨by omega,(h f hf).sb⟩
 rw[Nat.one_mul]at h1;refine aM h1 (XU (by decide) ?_);unfold Yt;rw[ak];exact hz
theorem abj{fs:Ψ}(h:∀f∈fs,Fq f)(hz:fs.length<=41):Bd (lvB fs:Nat):=by
 unfold Bd;rw[XT];exact Y2 (abR h hz) (by decide +kernel)
theorem cB{α:Type}{l:List α}{k:Nat}{x:α}(h:l[k]?=some x):l.take (k+1)=l.take k++[x]:=by
 rw[List.take_succ,h];rfl
theorem abb{fs:Ψ}{k:Nat}{f:Ι}(h:fs[k]?=some f):lvB (fs.take (k+1))=Nat.lcm (lvB (fs.take k)) f.2.natAbs:=by
 unfold lvB Lv.Ys Yt;rw[cB h,bA,List.foldl_append];rfl
theorem acN{n:Nat}{b:Int}(hb:0<b)(hn:0<n):Int.fdiv (n:Int) (Int.gcd (n:Int) b:Nat)*b=(Nat.lcm n b.natAbs:Nat):=by
 obtain⟨m,rfl⟩ : ∃m:Nat,b=m:=⟨b.toNat,by lia⟩;have hg:0<Nat.gcd n m:=Nat.gcd_pos_of_pos_left m hn;rw[show Int.gcd (n:Int) (m:Int)=Nat.gcd n m from rfl,XT,ur _ (by lia),<- Int.natCast_ediv,<- Int.natCast_mul]
 congr 1
 unfold Nat.lcm;exact Nat.div_mul_right_comm (Nat.gcd_dvd_left n m) m
theorem V2{fs:Ψ}{f:Ι}(hf:f∈fs)(hq:Fq f):f.2 ∣ (lvB fs:Nat):=by
 have h1:f.2.natAbs ∣ lvB fs:=Lv.Gz (YV.mpr ⟨f,hf,rfl⟩);have:=Int.natCast_dvd_natCast.mpr h1;rwa[Int.natAbs_of_nonneg (XZ hq.pos)]at this
inductive FLK(K:Frag)(H:Hp):Μ->Ψ->Prop
 |nil:FLK K H [] []
 |cons {p:Addr}{f:Ι}{xs:Μ}{fs:Ψ} : SqT K H p [.int f.1,.int f.2]->FLK K H xs fs->FLK K H (.ref p::xs) (f::fs)
theorem PL{H:Hp} : ∀{xs:Μ}{fs:Ψ},FL H xs fs->FLK K H xs fs
 |_,_,.nil=>.nil
 |_,_,.cons e t=>.cons (.of e) (PL t)
theorem FLK.imp{H H':Hp}(h:∀p a b,SqT K H p [.int a,.int b]->SqT K H' p [.int a,.int b]):∀{xs:Μ}{fs:Ψ},FLK K H xs fs->FLK K H' xs fs
 |_,_,.nil=>.nil
 |_,_,.cons e t=>.cons (h _ _ _ e) (FLK.imp h t)
theorem FLK.same{H H':Hp}(S:Same H H'){xs:Μ}{fs:Ψ}(h:FLK K H xs fs):FLK K H' xs fs:=h.imp λ_ _ _ e=>S.tup e
theorem FLK.updL{H:Hp}{l:Addr}{ys zs:Μ}(hl:H l=some (.lst ys)){xs:Μ}{fs:Ψ}(h:FLK K H xs fs):FLK K (upd H l (.lst zs)) xs fs:=h.imp λ_ _ _ e=>e.updO hl (λ_ z=>by cases z) λ_ _ z=>by cases z
theorem FLK.length{H:Hp} : ∀{xs:Μ}{fs:Ψ},FLK K H xs fs->xs.length=fs.length
 |_,_,.nil=>rfl
 |_,_,.cons _ t=>by rw[List.length_cons,List.length_cons,FLK.length t]
theorem FLK.get{H:Hp} : ∀{xs:Μ}{fs:Ψ}{k:Nat}{x:V},FLK K H xs fs->xs[k]?=some x->∃p f,x=.ref p/\fs[k]?=some f/\SqT K H p [.int f.1,.int f.2]
 |_,_,_,_,.nil,h=>by simp at h
 |_,_,0,_,.cons (p:=p) (f:=f) e t,h=>by
  simp at h;exact⟨p,f,h.symm,rfl,e⟩
 |_,_,k+1,_,.cons e t,h=>by
  obtain⟨p,f,h1,h2,h3⟩:=FLK.get (k:=k) t (by simpa using h);exact⟨p,f,h1,by simpa using h2,h3⟩
theorem FLK.append{H:Hp} : ∀{xs ys:Μ}{fs gs:Ψ},FLK K H xs fs->FLK K H ys gs->FLK K H (xs++ys) (fs++gs)
 |_,_,_,_,.nil,h=>h
 |_,_,_,_,.cons e t,h=>.cons e (FLK.append t h)
def t_(K:Frag):Sp:=λvs H Q _=>∃(l:Addr)(xs:Μ)(fs:Ψ),vs=[.ref l]/\H l=some (.lst xs)/\FLK K H xs fs/\(∀f∈fs,Fq f)/\fs.length<=41 /\
 ∀D p,H D=none->upd H D (.lst ((lvT fs).map V.int)) p=none->Q (.ref p) (upd (upd H D (.lst ((lvT fs).map V.int))) p (.tup [.ref D,.int (lvB fs:Nat)]))
def lJ(l:Addr)(fs:Ψ)(H1:Hp)(k:Nat)(σ:L2.St)(H:Hp):Prop:=∃z,σ=[some (.ref l),some (.int (lvB (fs.take k):Nat)),z]/\H=H1
def lK(fs:Ψ)(D:Addr)(H1:Hp)(k:Nat)(ys:Μ)(H:Hp):Prop:=ys=((lvT fs).take k).map V.int/\H=upd H1 D (.lst ys)
structure Fz(f:Ι):Prop where
 pos:0<f.2
 ba:Bd f.1
 bb:Bd f.2
theorem Fq.fz{f:Ι}(h:Fq f):Fz f:=⟨h.pos,h.ba,h.bb⟩
theorem Gh{fs:Ψ}(h:∀f∈fs,Fz f):0<lvB fs:=Lv.R9 λb hb=>by
 obtain⟨f,hf,rfl⟩:=YV.mp hb;have:=(h f hf).pos;omega
theorem Zk{fs:Ψ}(h:∀f∈fs,Fz f)(b:Bd (lvB fs:Nat))(k:Nat):0<lvB (fs.take k)/\Bd (lvB (fs.take k):Nat):=by
 refine⟨Gh λf hf=>h f (List.mem_of_mem_take hf),?_⟩;have dv:lvB (fs.take k) ∣ lvB fs:=Lv.Di.mpr λc hc=>by
  obtain⟨f,hf,rfl⟩:=YV.mp hc;exact Lv.Gz (YV.mpr ⟨f,List.mem_of_mem_take hf,rfl⟩)
 have le:=Nat.le_of_dvd (Gh h) dv;unfold Bd at b ⊢;rw[XT]at b ⊢;exact Y2 le b
def uo(K:Frag):Sp:=λvs H Q _=>∃(l:Addr)(xs:Μ)(fs:Ψ),vs=[.ref l]/\H l=some (.lst xs)/\FLK K H xs fs/\(∀f∈fs,Fz f)/\fs.length<=41/\Bd (lvB fs:Nat) /\
 ∀D p,H D=none->upd H D (.lst ((lvT fs).map V.int)) p=none->Q (.ref p) (upd (upd H D (.lst ((lvT fs).map V.int))) p (.tup [.ref D,.int (lvB fs:Nat)]))
theorem Eh(F:Fun K gW gW CN f fd)(d9:OkF P w K mg base 1 jf jh iD):cF P w K mg base CX0 2 f fd iJ (uo K):=by
 refine F.ok CG ?_ ?_
 .rintro _ _ _ _ ⟨l,xs,fs,rfl,_⟩;rfl
 .rintro cdv A outer s H _ Q E hr ⟨l,xs,fs,rfl,hl,hf,hq,hz,hB,q⟩;refine⟨_,(bL (cj (i:=1) CG.nd rfl (Or.inr rfl) bG)
   (bL (iR PassesOwn.never rfl (cZ ((pv 0)).mono) (cM (i:=2) CG.nd rfl (Or.inl rfl))
    (bM (cj (i:=1) CG.nd rfl (Or.inr rfl) (bU cL (bU o8 (pv 1) (bO d9 hr.md (by rfl) (bD (pv 1) (bD (bQ (show IxR _ (C_ K)from cG) (pv 2) bG (λ_ _=>rfl)) bF)))) (bQ (show IxR _ (C_ K)from cG) (pv 2) bG (λ_ _=>rfl))))))
   (bM (cg (mO (bD (iY (bN CN) Vx ["fractions","bottom","?one"] ["one"] (cZ ((pv 0)).mono) (d7 (i:=0)) dz (bU cL (bQ (show IxR _ (C_ K)from cG) (pv 0) bG (λ_ _=>rfl)) (bU o8 (pv 2) (bQ (show IxR _ (C_ K)from cG) (pv 0) bG (λ_ _=>rfl))))) (bD (pv 1) bF))))))),?_⟩
  unfold iD
  walk_at "rd"
  have hx:xs.length<=41:=by rw[hf.length];exact hz
  refine gC ⟨_,rfl,l,xs,rfl,hl,lJ l fs H,⟨none,rfl,rfl⟩,?_,?_⟩
  .rintro k x σ' H' hk ⟨z,rfl,rfl⟩ _;obtain⟨p,g,rfl,hg,hp⟩:=hf.get hk;have hm:=aB hg;obtain⟨b0,b1⟩:=Zk hq hB k;have g0:=Ml (a:=((lvB (fs.take k):Nat):Int)) (b:=g.2) (Int.ne_of_gt (hq g hm).pos);have g1:=U0 (a:=((lvB (fs.take k):Nat):Int)) (b:=g.2) (Int.ne_of_gt (hq g hm).pos) (hq g hm).bb
   walk_at "rd"
   refine⟨_,hp,_,cR,_,rfl,by exact Int.ne_of_gt g0,g1,_,hp,_,cR,_,rfl,?_,(hq g hm).bb,hl,some (.ref p),?_,rfl⟩
   .rw[ur _ g0];exact b1.div g0
   .rw[acN (hq g hm).pos b0,<- abb hg]
  .rintro σ' H' ⟨z,rfl,rfl⟩ _
   walk_at "rd"
   have e0:fs.take xs.length=fs:=by rw[hf.length];exact aP
   rw[e0];refine dM ⟨_,rfl,l,xs,rfl,hl,aM hx (by decide),λD hD=>⟨lK fs D H',⟨rfl,rfl⟩,?_,?_⟩⟩
   .rintro k x ys Hc hk ⟨rfl,rfl⟩ _ ha;obtain⟨p,g,rfl,hg,hp⟩:=hf.get hk;have hm:=aB hg;have hpD:SqT K (upd H' D (.lst (((lvT fs).take k).map V.int))) p [.int g.1,.int g.2]:=(Same.upd hD).tup hp
    walk_at "rd"
    refine⟨_,hpD,_,c7,_,hpD,_,cR,_,rfl,Int.ne_of_gt (hq g hm).pos,(hq g hm).bb,_,rfl,(hq g hm).ba,?_,ha,?_,yZ⟩
    .rw[ur _ (hq g hm).pos];exact hB.div (hq g hm).pos
    .rw[ur _ (hq g hm).pos];have e1:(lvT fs)[k]?=some (g.1*((lvB fs:Nat)/g.2)):=by
      unfold lvT;rw[aq,hg];rfl
     rw[cB e1,bA];rfl
   .rintro ys Hc ⟨rfl,rfl⟩ _;have e2:(lvT fs).take xs.length=lvT fs:=by
     refine aK ?_;unfold lvT;rw[ak,hf.length];exact aF _
    rw[e2];exact⟨d8,λp hp=>q D p hD hp⟩
theorem Ef(F:Fun K gW gW CN f fd)(d9:OkF P w K mg base 1 jf jh iD):cF P w K mg base CX0 2 f fd iJ (t_ K) :=
 (Eh F d9).imp λvs H Q E h=>by
  obtain⟨l,xs,fs,a,b,c,d,e,q⟩:=h;exact⟨l,xs,fs,a,b,c,λf hf=>(d f hf).fz,e,abj d e,q⟩
def Dj:Sp:=λvs H Q _=>∃(l:Addr)(xs:Μ)(fs:Ψ),vs=[.ref l]/\H l=some (.lst xs)/\FL H xs fs/\(∀f∈fs,Fq f)/\fs.length<=41 /\
 ∀D p,H D=none->upd H D (.lst ((lvT fs).map V.int)) p=none->Q (.ref p) (upd (upd H D (.lst ((lvT fs).map V.int))) p (.tup [.ref D,.int (lvB fs:Nat)]))
theorem aac{vs:Μ}{H:Hp}{Q:VK}{E:XK}(h:Dj vs H Q E):t_ K vs H Q E:=by obtain⟨l,xs,fs,a,b,c,d⟩:=h;exact⟨l,xs,fs,a,b,PL c,d⟩
def CV:Sp:=λvs H Q _=>∃(l:Addr)(xs:Μ)(fs:Ψ),vs=[.ref l]/\H l=some (.lst xs)/\FL H xs fs/\(∀f∈fs,Fq f)/\fs.length<=41 /\
 ∀p x y,Low (lvT fs).sum (lvB fs:Nat) x y->H p=none->Q (.ref p) (upd H p (.tup [.int x,.int y]))
theorem ZS(F:Fun K wH wH Ms f fd)(T:Txt K mg D)(oM:OkF P w K mg base 2 gW iJ Dj)(eE:OkF P w K mg base 2 j8 j7 jr):cF P w K mg base CX0 3 f fd xY CV:=by
 refine cF.cleanP (sp:=λvs H Q _=>∃(l:Addr)(xs:Μ)(fs:Ψ),vs=[.ref l]/\H l=some (.lst xs)/\FL H xs fs/\(∀f∈fs,Fq f)/\fs.length<=41 /\
   ∀p x y H',Low (lvT fs).sum (lvB fs:Nat) x y->Same H H'->H p=none->H' p=some (.tup [.int x,.int y])->Q (.ref p) H')
  (F.ok Rk (λvs H Q E h=>?_) (λcdv A outer s H vs Q E hr h=>?_)) λvs H Q E hP=>by obtain⟨l,xs,fs,h1,h2,h3,h4,h5,h6⟩:=hP;exact⟨l,xs,fs,h1,h2,h3,h4,h5,λp x y H' l S e1 e2=>⟨S,p,_,e2,e1,h6 p x y l e1⟩⟩
 .obtain⟨l,xs,fs,rfl,_⟩:=h
  rfl
 .obtain⟨l,xs,fs,rfl,hl,hf,hq,hz,q⟩:=h;refine⟨_,(bL (cj (i:=1) Rk.nd rfl (Or.inl rfl) (bO oM hr.md (by rfl) (bD (pv 0) bF)))
   (bM (cg (bO eE hr.md (by rfl) (bD (b_ (Dz rfl) (by rfl) T.YC boot_sum (bD (bQ cQ (pv 1) bG (λ_ _=>rfl)) bF)) (bD (bQ cQ (pv 1) bG (λ_ _=>rfl)) bF)))))),?_⟩
  unfold Dj jr
  walk_at "rd"
  refine⟨xs,hl,fs,hf,hq,hz,λD p hD hp=>⟨lvT fs,(bK (bH bI hp)).trans bI,?_,abj hq hz,λp1 x y lw hp1=>?_⟩⟩
  .have:=Gr hq;lia
  .have S:=(Same.upd hD (o:=.lst ((lvT fs).map V.int))).trans (Same.upd hp (o:=.tup [.ref D,.int (lvB fs:Nat)]));exact q p1 x y _ lw (S.trans (Same.upd hp1)) (S.free hp1) bI
structure Pairs(H:Hp)(xs:Μ)(ps:List (Str×Int×Int)):Prop where
 len:xs.length=ps.length
 at_:∀(k:Nat)(g:Str×Int×Int),ps[k]?=some g->∃t c:Addr,xs[k]?=some (.ref t)/\H t=some (.tup [.str g.1,.ref c])/\H c=some (.tup [.int g.2.1,.int g.2.2])
structure aa1(g:Str×Int×Int):Prop where
 len:g.1.length<=1000
 wd:m9 g.1.cps.toList=true
 pos:0<g.2.2
 gcd:Int.gcd g.2.1 g.2.2=1
 lo:0<=g.2.1
 hi:g.2.1<=g.2.2
 fq:Fq g.2
def oU:Sp:=λvs H Q _=>∃(l:Addr)(xs:Μ)(ps:List (Str×Int×Int)),vs=[.ref l]/\H l=some (.lst xs)/\Pairs H xs ps/\(∀g∈ps,aa1 g)/\ps.length<=41/\(∀x y,Low (lvT (ps.map (·.2))).sum (lvB (ps.map (·.2)):Nat) x y->x=1/\y=1)/\∀H',Same H H'->Q .non H'
def jP(l:Addr)(H:Hp)(_:Nat)(σ:L2.St)(H':Hp):Prop:=∃u v,σ=[some (.ref l),u,v]/\H'=H
def jQ(D1:Addr)(ps:List (Str×Int×Int))(H:Hp)(k:Nat)(ys:Μ)(Hc:Hp):Prop:=FL H ys ((ps.map (·.2)).take k)/\Hc=upd H D1 (.lst ys)
theorem Iv(F:Fun K j9 j9 pX f fd)(T:Txt K mg D)(mK:OkX P w K mg base 2 eV eU kE)(qg:OkX P w K mg base 3 gQ gP (qR (K:=K)))(ZP:OkX P w K mg base 3 wH xY CV):cF P w K mg base (CXO P w) 4 f fd jW oU:=by
 refine F.okX rP ?_ ?_
 .rintro _ _ _ _ ⟨l,xs,ps,rfl,_⟩;rfl
 .rintro cdv A outer s H _ Q E hr ⟨l,xs,ps,rfl,hl,hp,hg,hz,h1,q⟩;refine⟨_,(bL (iR PassesOwn.leaving rfl (cZ ((pv 0)).mono) (fV (n:=2) rfl (cD (cM (i:=1) rP.nd rfl (Or.inl rfl)) (cD (cM (i:=2) rP.nd rfl (Or.inl rfl)) fL)))
    (bL (dD (eN mK hr.md (by rfl) fK (bD (pv 1) bF)))
    (bM (dD (eN qg hr.md (by rfl) fK (bD (pv 2) bF))))))
   (bM (cW (cI (WW (K:=K) rfl hr.units) (eN ZP hr.md (by rfl) fK (bD (iY (bN pX) tR tR ["pair"] (cZ ((pv 0)).mono) (d7 (i:=0)) dz (bQ cQ (pv 0) bG (λ_ _=>rfl))) bF)) (jo (by rfl) T.K6) (cJ _))
    (bM (rC rfl (by rfl) T.zV T.JB rZ (bD mQ bF)))
    cA))),?_⟩
  unfold kE qR CV
  walk_at "rd"
  refine gC ?_
  walk_at "rd"
  refine⟨xs,hl,jP l H,⟨none,none,rfl,rfl⟩,?_,?_⟩
  .rintro k x σ' H' hk ⟨u,v,rfl,rfl⟩ _;have lk:k<ps.length:=by rw[<- hp.len];exact(ao.mp hk).1
   have e:ps[k]?=some ps[k]:=aj lk;have ok:=hg _ (aV lk);obtain⟨t,c,a,b,d⟩:=hp.at_ k _ e;rw[hk]at a;cases a;exact⟨t,rfl,_,b,rfl,_,_,rfl,_,_,rfl,rfl,_,rfl,_,rfl,ok.len,ok.wd,_,rfl,c,rfl,⟨_,_,⟨.of d,ok.pos,ok.gcd⟩,ok.lo,ok.hi,ok.fq.bb⟩,hl,_,_,rfl,rfl⟩
  .rintro σ' H' ⟨u,v,rfl,rfl⟩ _;refine dM ?_
   walk_at "rd"
   refine⟨xs,hl,by rw[hp.len];exact aM hz (by decide),λD1 hD=>⟨jQ D1 ps H',⟨.nil,rfl⟩,?_,?_⟩⟩
   .rintro k x ys Hc hk ⟨hf,rfl⟩ hy _;have lk:k<ps.length:=by rw[<- hp.len];exact(ao.mp hk).1
    have e:ps[k]?=some ps[k]:=aj lk;obtain⟨t,c,a,b,d⟩:=hp.at_ k _ e;rw[hk]at a;cases a
    walk_at "rd"
    refine⟨_,(bK (bH b hD)).trans b,_,cR,(bK (bH hl hD)).trans hl,?_,yZ⟩;rw[List.take_succ,aq,e];exact hf.append (.one d)
   .rintro ys Hc ⟨hf,rfl⟩ hy;have hk:(ps.map (·.2)).take xs.length=ps.map (·.2):=by rw[hp.len,<- ak (f:=λg:Str×Int×Int=>g.2),aP]
    rw[hk]at hf;refine⟨ys,bI,_,hf.same (Same.upd hD),?_,by rw[ak];exact hz,λp x y lo hn=>?_⟩
    .intro g hm;obtain⟨g',hm',rfl⟩:=YV.mp hm;exact(hg g' hm').fq
    .obtain⟨rfl,rfl⟩:=h1 x y lo;refine⟨_,.tup (.of bI) (dU.ints K _ [1,1]),_,.tup (T.DG _) (dU.ints K _ [1,1]),rfl,rfl,?_⟩;rw[ZZ (by decide)];exact q _ ((Same.upd hD).trans (Same.upd hn))
inductive DA(H:Hp)(S:Int):List (Key×V)->List (Str×Int)->Prop
 |nil:DA H S [] []
 |cons {n:Str}{W:Int}{c:Addr}{kvs:List (Key×V)}{acc:List (Str×Int)} (h:H c=some (.tup [.int (Ac.lw W S).1,.int (Ac.lw W S).2])) (t:DA H S kvs acc):DA H S ((.inr n,.ref c)::kvs) ((n,W)::acc)
theorem DA.imp{H H':Hp}{S:Int}(h:∀c x y,H c=some (.tup [.int x,.int y])->H' c=some (.tup [.int x,.int y])):∀{kvs:List (Key×V)}{acc:List (Str×Int)},DA H S kvs acc->DA H' S kvs acc
 |_,_,.nil=>.nil
 |_,_,.cons a t=>.cons (h _ _ _ a) (t.imp h)
theorem DA.len{H:Hp}{S:Int} : ∀{kvs:List (Key×V)}{acc:List (Str×Int)},DA H S kvs acc->kvs.length=acc.length
 |_,_,.nil=>rfl
 |_,_,.cons _ t=>ZH (· + 1) t.len
theorem DA.keys{H:Hp}{S:Int} : ∀{kvs:List (Key×V)}{acc:List (Str×Int)},DA H S kvs acc->kvs.map (·.1)=(acc.map (·.1)).map Sum.inr
 |_,_,.nil=>rfl
 |_,_,.cons _ t=>by rw[List.map_cons,List.map_cons,List.map_cons,t.keys]
theorem DA.val{H:Hp}{S:Int}(r:Str):∀{kvs:List (Key×V)}{acc:List (Str×Int)},DA H S kvs acc->(sE kvs (.inr r)=none/\Ac.look acc r=0)\/∃c,sE kvs (.inr r)=some (.ref c)/\H c=some (.tup [.int (Ac.lw (Ac.look acc r) S).1,.int (Ac.lw (Ac.look acc r) S).2])
 |_,_,.nil=>.inl ⟨rfl,rfl⟩
 |_,_,.cons (n:=n) (W:=W) (c:=c) (kvs:=kvs) (acc:=acc) h t=>by
  by_cases e:n=r
  .subst e;refine .inr ⟨c,G_ rfl,?_⟩;have:Ac.look ((n,W)::acc) n=W:=by simp[Ac.look]
   rw[this];exact h
  .have e1:sE ((Sum.inr n,V.ref c)::kvs) (Sum.inr r:Key)=sE kvs (.inr r):=Ib λz=>e (Sum.inr.inj z);have e2:Ac.look ((n,W)::acc) r=Ac.look acc r:=by simp[Ac.look,List.find?_cons,e]
   rw[e1,e2];exact t.val r
theorem DA.any{H:Hp}{S:Int}(r:Str):∀{kvs:List (Key×V)}{acc:List (Str×Int)},DA H S kvs acc->(kvs.any λkv=>decide (kv.1=(.inr r:Key)))=acc.any λg=>decide (g.1=r)
 |_,_,.nil=>rfl
 |_,_,.cons (n:=n) _ t=>by
  rw[List.any_cons,List.any_cons,t.any r]
  congr 1
  by_cases e:n=r
  .subst e;rw[Zs rfl,Zs rfl]
  .rw[Zp e,Zp λz=>e (Sum.inr.inj z)]
theorem DA.sets{H:Hp}{S y:Int}{c:Addr}{r:Str}(hc:H c=some (.tup [.int (Ac.lw y S).1,.int (Ac.lw y S).2])):∀{kvs:List (Key×V)}{acc:List (Str×Int)},DA H S kvs acc->DA H S (kvs.map λkv=>if kv.1=(.inr r:Key)then(kv.1,.ref c)else kv) (acc.map λg=>if g.1=r then(g.1,y)else g)
 |_,_,.nil=>.nil
 |_,_,.cons (n:=n) (W:=W) (c:=c') h t=>by
  rw[List.map_cons,List.map_cons];by_cases e:n=r
  .subst e;rw[ZY rfl,ZY rfl];exact .cons hc (t.sets hc)
  .rw[ZZ e,ZZ λz=>e (Sum.inr.inj z)];exact .cons h (t.sets hc)
theorem DA.snoc{H:Hp}{S y:Int}{c:Addr}{r:Str}(hc:H c=some (.tup [.int (Ac.lw y S).1,.int (Ac.lw y S).2])):∀{kvs:List (Key×V)}{acc:List (Str×Int)},DA H S kvs acc->DA H S (kvs++[(.inr r,.ref c)]) (acc++[(r,y)])
 |_,_,.nil=>.cons hc .nil
 |_,_,.cons h t=>.cons h (t.snoc hc)
theorem DA.put{H:Hp}{S y:Int}{c:Addr}{r:Str}{kvs:List (Key×V)}{acc:List (Str×Int)}(hc:H c=some (.tup [.int (Ac.lw y S).1,.int (Ac.lw y S).2]))(h:DA H S kvs acc):DA H S (putK kvs (.inr r) (.ref c)) (Ac.put acc r y):=by
 unfold putK Ac.put;rw[h.any r];split
 .exact h.sets hc
 .exact h.snoc hc
theorem DA.get{H:Hp}{S:Int} : ∀{kvs:List (Key×V)}{acc:List (Str×Int)}{i:Nat}{k:Key}{v:V},DA H S kvs acc->kvs[i]?=some (k,v)->∃n W c,acc[i]?=some (n,W)/\k=.inr n/\v=.ref c/\H c=some (.tup [.int (Ac.lw W S).1,.int (Ac.lw W S).2])
 |_,_,_,_,_,.nil,e=>by simp at e
 |_,_,0,_,_,.cons h _,e=>by
  rw[List.getElem?_cons_zero]at e;cases e;exact⟨_,_,_,rfl,rfl,rfl,h⟩
 |_,_,i+1,_,_,.cons _ t,e=>t.get (by rw[List.getElem?_cons_succ]at e;exact e)
theorem V6:∀{kvs:List (Key×V)}{i:Nat}{k:Key}{v:V},(kvs.map (·.1)).Nodup->kvs[i]?=some (k,v)->sE kvs k=some v
 |[],_,_,_,_,e=>by simp at e
 |p::kvs,0,k,v,_,e=>by
  rw[List.getElem?_cons_zero]at e;cases e;exact G_ rfl
 |p::kvs,i+1,k,v,hn,e=>by
  rw[List.getElem?_cons_succ]at e;rw[List.map_cons,List.nodup_cons]at hn;rw[Ib λz=>hn.1 (by rw[z];exact YV.mpr ⟨(k,v),aB e,rfl⟩)];exact V6 hn.2 e
inductive WF(K:Frag)(H:Hp):Μ->List (Str×Int×Int)->List (Str×Addr)->Prop
 |nil:WF K H [] [] []
 |cons {t c:Addr}{n:Str}{x y:Int}{xs:Μ}{gs:List (Str×Int×Int)}{ws:List (Str×Addr)} (h1:H t=some (.tup [.str n,.ref c])) (h2:SqT K H c [.int x,.int y]) (r:WF K H xs gs ws):WF K H (.ref t::xs) ((n,x,y)::gs) ((n,c)::ws)
theorem WF.imp{H H':Hp}(h:∀t ys,H t=some (.tup ys)->H' t=some (.tup ys))(h':∀c xs,SqT K H c xs->SqT K H' c xs):∀{xs:Μ}{gs:List (Str×Int×Int)}{ws:List (Str×Addr)},WF K H xs gs ws->WF K H' xs gs ws
 |_,_,_,.nil=>.nil
 |_,_,_,.cons a b r=>.cons (h _ _ a) (h' _ _ b) (r.imp h h')
theorem WF.same{H H':Hp}(S:Same H H'){xs:Μ}{gs:List (Str×Int×Int)}{ws:List (Str×Addr)}(h:WF K H xs gs ws):WF K H' xs gs ws:=h.imp (λt ys e=>S _ _ e) λc xs e=>S.tup e
theorem WF.updL{H:Hp}{l:Addr}{ys zs:Μ}(hl:H l=some (.lst ys)){xs:Μ}{gs:List (Str×Int×Int)}{ws:List (Str×Addr)}(h:WF K H xs gs ws):WF K (upd H l (.lst zs)) xs gs ws :=
 h.imp (λt us e=>(bK (i_ e hl (by intro z;cases z))).trans e) λc xs e=>e.updO hl (by intro ys z;cases z) (by intro ob ys z;cases z)
theorem WF.len{H:Hp} : ∀{xs:Μ}{gs:List (Str×Int×Int)}{ws:List (Str×Addr)},WF K H xs gs ws->xs.length=gs.length
 |_,_,_,.nil=>rfl
 |_,_,_,.cons _ _ r=>ZH (· + 1) r.len
theorem WF.snoc{H:Hp}{t c:Addr}{n:Str}{x y:Int}(h1:H t=some (.tup [.str n,.ref c]))(h2:SqT K H c [.int x,.int y]):∀{xs:Μ}{gs:List (Str×Int×Int)}{ws:List (Str×Addr)},WF K H xs gs ws->WF K H (xs++[.ref t]) (gs++[(n,x,y)]) (ws++[(n,c)])
 |_,_,_,.nil=>.cons h1 h2 .nil
 |_,_,_,.cons a b r=>.cons a b (r.snoc h1 h2)
theorem WF.ways{H:Hp} : ∀{xs:Μ}{gs:List (Str×Int×Int)}{ws:List (Str×Addr)},WF K H xs gs ws->Xi H xs ws
 |_,_,_,.nil=>⟨rfl,λk g e=>by simp at e⟩
 |_,_,_,.cons a b r=>⟨ZH (· + 1) r.ways.len,λk g e=>by
  cases k with
  |zero =>
   rw[List.getElem?_cons_zero]at e;cases e;exact⟨_,rfl,a⟩
  |succ k =>
   rw[List.getElem?_cons_succ]at e ⊢;exact r.ways.at_ k g e⟩
noncomputable def VR(S:Int)(acc:List (Str×Int)):List (Str×Int×Int):=(acc.filter λg=>decide (0<g.2)).map λg=>(g.1,Ac.lw g.2 S)
theorem Ie{S:Int}{acc:List (Str×Int)}{i:Nat}{n:Str}{W:Int}(h:acc[i]?=some (n,W)):VR S (acc.take (i+1))=VR S (acc.take i)++if 0<W then[(n,Ac.lw W S)]else[]:=by
 unfold VR;rw[List.take_succ,h,List.filter_append,bA]
 congr 1
 show List.map _ (List.filter _ [(n,W)])=_;by_cases e:0<W
 .rw[ZY e,List.filter_cons,ZY (Zs e)];rfl
 .rw[ZZ e,List.filter_cons,ZZ (by simpa using e)];rfl
structure PW(H:Hp)(xs:Μ)(gs:List (Str×Int))(S:Int):Prop where
 len:xs.length=gs.length
 at_:∀(k:Nat)(g:Str×Int),gs[k]?=some g->∃t c:Addr,xs[k]?=some (.ref t)/\H t=some (.tup [.str g.1,.ref c])/\H c=some (.tup [.int (Ac.lw g.2 S).1,.int (Ac.lw g.2 S).2])
theorem PW.imp{H H':Hp}(h':∀t ys,H t=some (.tup ys)->H' t=some (.tup ys)){xs:Μ}{gs:List (Str×Int)}{S:Int}(h:PW H xs gs S):PW H' xs gs S:=⟨h.len,λk g e=>let⟨t,c,a,b,d⟩:=h.at_ k g e;⟨t,c,a,h' _ _ b,h' _ _ d⟩⟩
theorem PW.same{H H':Hp}{xs:Μ}{gs:List (Str×Int)}{S:Int}(h:PW H xs gs S)(T:Same H H'):PW H' xs gs S:=h.imp λ_ _ e=>T _ _ e
theorem PW.pairs{H:Hp}{xs:Μ}{gs:List (Str×Int)}{S:Int}(h:PW H xs gs S):Pairs H xs (gs.map λg=>(g.1,Ac.lw g.2 S)):=⟨by rw[h.len,ak],λk g e=>by
 rw[aq]at e;cases e0:gs[k]? with
 |none=>rw[e0]at e;cases e
 |some g0 =>
  rw[e0]at e;cases e;exact h.at_ k g0 e0⟩
structure Wt(gs:List (Str×Int))(S:Int):Prop where
 pos:0<S
 le:S<=10^20
 len:gs.length<=8
 wd:∀g∈gs,g.1.length<=1000/\m9 g.1.cps.toList=true
 lo:∀g∈gs,0<=g.2
 sum:(gs.map (·.2)).sum=S
theorem X4{i:Int}(h:i.natAbs<=10^20):Bd i:=Y2 h (by decide +kernel)
theorem V5{gs:List (Str×Int)} : (∀g∈gs,0<=g.2)->0<=(gs.map (·.2)).sum/\∀g∈gs,g.2<=(gs.map (·.2)).sum:=by
 induction gs with
 |nil=>intro _;exact⟨by simp,by simp⟩
 |cons a gs ih =>
  intro h;obtain⟨h1,h2⟩:=ih λg hg=>h g (aH _ hg);have h0:=h a aO;rw[List.map_cons,List.sum_cons];refine⟨by lia,λg hg=>?_⟩;rcases YU.mp hg with rfl|hg
  .lia
  .have:=h2 g hg;lia
theorem Wt.hi{gs:List (Str×Int)}{S:Int}(h:Wt gs S){g:Str×Int}(hg:g∈gs):g.2<=S:=by
 rw[<- h.sum];exact(V5 h.lo).2 g hg
theorem Wt.pair{gs:List (Str×Int)}{S:Int}(h:Wt gs S){g:Str×Int}(hg:g∈gs):aa1 (g.1,Ac.lw g.2 S):=by
 have p:=h.pos;have l:=h.le;have lo:=h.lo g hg;have hi:=h.hi hg;have p2:=Ac.lB (t:=g.2) p;have g1:=Ac.Al (t:=g.2) p;exact⟨(h.wd g hg).1,(h.wd g hg).2,p2,g1,Ac.aeb p lo,Ac.aec p hi,p2,g1,aM (Ac.Im _ _) (aM (by lia:g.2.natAbs<=10^20) (by decide)),aM (Ac.Er _ _) (aM (by omega:S.natAbs<=10^20) (by decide))⟩
theorem acV(a b c d:Int):PyData.eqv (.tuple (List.map PyData.int [a,b])) (.tuple (List.map PyData.int [c,d]))=(decide (a=c)&&decide (b=d)):=by
 simp[PyData.eqv,PyData.eqvAll]
 rfl
def yS(K:Frag):Sp:=λvs H Q _=>∃(l:Addr)(xs:Μ)(gs:List (Str×Int))(S:Int),vs=[.ref l]/\H l=some (.lst xs)/\PW H xs gs S/\Wt gs S /\
 ∀H' r ys ws,Same H H'->H r=none->H' r=some (.lst ys)->WF K H' ys (Ac.ways gs S) ws->Q (.ref r) H'
def jJ(l d:Addr)(gs:List (Str×Int))(S:Int)(H:Hp)(k:Nat)(σ:L2.St)(H':Hp):Prop:=∃u v kvs,σ=[some (.ref l),some (.ref d),u,v]/\Same H H'/\H' d=some (.dK kvs)/\DA H' S kvs (Ac.jU (gs.take k))
def jC(K:Frag)(acc:List (Str×Int))(S:Int)(d D1:Addr)(u:HO)(H:Hp)(i:Nat)(ys:Μ)(Hc:Hp):Prop:=Same (upd H d u) Hc/\Hc D1=some (.lst ys)/\∃ws,WF K Hc ys (VR S (acc.take i)) ws
theorem G9(F:Fun K jR jR pO f fd)(T:Txt K mg D)(adV:OkX P w K mg base 3 sX sU (nA (K:=K) (· + ·))):cF P w K mg base (CXO P w) 4 f fd jX (yS K):=by
 refine F.okX nq ?_ ?_
 .rintro _ _ _ _ ⟨l,xs,gs,S,rfl,_⟩;rfl
 .rintro cdv A outer s H _ Q E hr ⟨l,xs,gs,S,rfl,hl,hp,W,q⟩;have p0:=W.pos;have sle:=W.le;refine⟨_,(bL (cj (i:=1) nq.nd rfl (Or.inr rfl) Hi)
   (bL (iR PassesOwn.leaving rfl (cZ ((pv 0)).mono) (fV (n:=2) rfl (cD (cM (i:=2) nq.nd rfl (Or.inl rfl)) (cD (cM (i:=3) nq.nd rfl (Or.inl rfl)) fL)))
    (bM (Pg (zF hr) (pv 1) (pv 2) (eN adV hr.md (by rfl) fK (bD (abu (zF hr) (pv 1) (pv 2) (jo (by rfl) T.uE) (by first|exact⟨rfl,rfl,rfl,rfl,rfl⟩|constructor<;>rfl)) (bD (pv 3) bF))) rfl)))
   (bM (cg (iY (bN pO) zP ["pairs","chances","?room","chance"] ["room"] (acM ((pv 1)).mono) (d7 (i:=0)) (ab2 (cI (WW (K:=K) rfl hr.units) (O4 (zF hr) (pv 2) (pv 0) (λ_ _=>rfl)) (jo (by rfl) T.uE) (cJ _))) (mO (bD (pv 0) (bD (O4 (zF hr) (pv 2) (pv 0) (λ_ _=>rfl)) bF)))))))),?_⟩
  unfold nA
  walk_at "rd"
  refine λd hd=>gC ?_
  walk_at "rd"
  have ld:l≠d:=bH hl hd;refine⟨xs,(bK ld).trans hl,jJ l d gs S H,⟨none,none,[],rfl,Same.upd hd,bI,.nil⟩,?_,?_⟩
  .rintro k x σ' H' hk ⟨u,v,kvs,rfl,S1,h1,da⟩ _;have lk:k<gs.length:=by rw[<- hp.len];exact(ao.mp hk).1
   have e:gs[k]?=some gs[k]:=aj lk;have hm:=aV lk;obtain⟨t,c,a,b,cc⟩:=hp.at_ k _ e;rw[hk]at a;cases a;generalize gs[k]=g at *;obtain⟨n,x⟩:=g;have wx:=W.hi hm;have wl:=W.lo _ hm;have al:=Ac.xK (gs.take k) λg hg=>W.lo g (List.mem_of_mem_take hg);have st:((gs.take k).map (·.2)).sum<=S:=by
    have e1:gs.map (·.2)=(gs.take k).map (·.2)++(gs.drop k).map (·.2):=by rw[<- bA,List.take_append_drop]
    have e2:=(V5 (gs:=gs.drop k) λg hg=>W.lo g (List.mem_of_mem_drop hg)).1;have e3:=W.sum;rw[e1,List.sum_append]at e3;lia
   have look:0<=Ac.look (Ac.jU (gs.take k)) n/\(Ac.look (Ac.jU (gs.take k)) n).natAbs<=10^20:=by
    rcases Ac.R6 (Ac.jU (gs.take k)) n with e0|⟨g,hg,e0⟩
    .rw[e0];exact⟨Int.le_refl _,by decide⟩
    .rw[e0];have:=al.2.2 g hg;lia
   obtain⟨cq,hq,sq⟩ : ∃cq,(sE kvs (.inr n)).getD (.ref D.NOUGHT)=.ref cq/\SqT K H' cq [.int (Ac.lw (Ac.look (Ac.jU (gs.take k)) n) S).1,.int (Ac.lw (Ac.look (Ac.jU (gs.take k)) n) S).2]:=by
    rcases da.val n with⟨e1,e2⟩|⟨c',e1,e2⟩
    .rw[e1,e2,((Ac.yU p0).mpr rfl).1,((Ac.yU p0).mpr rfl).2];exact⟨_,rfl,T.qM H'⟩
    .rw[e1];exact⟨c',rfl,.of e2⟩
   walk_at "rd"
   have q1:=Ac.lB (t:=Ac.look (Ac.jU (gs.take k)) n) p0;have q2:=Ac.lB (t:=x) p0;have d1:=aM (Ac.Im (Ac.look (Ac.jU (gs.take k)) n) S) look.2;have d2:=aM (Ac.Er (Ac.look (Ac.jU (gs.take k)) n) S) (by lia:S.natAbs<=10^20);have d3:=aM (Ac.Im x S) (by have:x<=S:=wx;have:0<=x:=wl;lia:x.natAbs<=10^20);have d4:=aM (Ac.Er x S) (by lia:S.natAbs<=10^20);have d5:Bd ((Ac.lw (Ac.look (Ac.jU (gs.take k)) n) S).2*(Ac.lw x S).2):=by
    refine Y2 (m:=10^20*10^20) ?_ (by decide +kernel);rw[Int.natAbs_mul];exact Nat.mul_le_mul d2 d4
   have hlen:kvs.length<sizeLine:=by
    have h9:9<sizeLine:=by decide
    have:=al.2.1;have:=W.len;rw[da.len];rw[bh]at *;lia
   refine⟨_,S1 _ _ b,rfl,_,_,rfl,_,_,rfl,rfl,.inl ⟨kvs,.inl h1⟩,_,yI.k (k:=.inr n) h1,cq,hq,c,rfl,_,_,sq,_,_,.of (S1 _ _ cc),X4 d1,X4 d2,X4 d3,X4 d4,q1,q2,d5,λr z o lo hr=>?_⟩;have rd:d≠r:=bH h1 hr;refine⟨_,Uj.k (k:=.inr n) ((bK rd).trans h1) hlen,(bK ld).trans ((bK (bH ‹H' l=some (HO.lst xs)› hr)).trans ‹H' l=some (HO.lst xs)›),_,_,_,rfl,?_,bI,?_⟩
   .intro b' o' e';rw[bK (bH e' hd),bK (bH (S1 _ _ e') hr)];exact S1 _ _ e'
   .obtain⟨ez,eo⟩:=Ac.aeA p0 lo.pos lo.gcd lo.eq;rw[cB e,Ac.DN];refine DA.put ?_ (da.imp λc' x' y' e'=>?_)
    .rw[bK rd.symm,<- ez,<- eo];exact bI
    .rw[bK (i_ e' h1 (by intro z;cases z)),bK (bH e' hr)];exact e'
  .rintro σ' H' ⟨u,v,kvs,rfl,S1,h1,da⟩ _;refine Ti ?_;have e8:gs.take xs.length=gs:=by rw[hp.len,aP]
   rw[e8]at da;have al:=Ac.xK gs W.lo;have nd:(kvs.map (·.1)).Nodup:=by
    rw[da.keys];exact al.1.map (f:=Sum.inr) (S:=(· ≠ ·)) λa b h z=>h (Sum.inr.inj z)
   have hlen:kvs.length<=sizeLine:=by
    have h9:9<sizeLine:=by decide
    have:=al.2.1;have:=W.len;rw[da.len];lia
   walk_at "rd"
   refine⟨kvs,h1,hlen,λo D1 hD1=>⟨jC K (Ac.jU gs) S d D1 (.frz o (.dK kvs)) H',⟨Same.upd hD1,bI,[],.nil⟩,?_,?_⟩⟩
   .rintro i k y ys Hc hi ⟨S2,hD,ws,wf⟩ hy hfr pre hpre;obtain⟨u0,rfl⟩:=List.length_eq_one_iff.mp hpre;obtain⟨nm,X,c,ea,rfl,rfl,hc⟩:=da.get hi;have vv:=V6 nd hi;have hcd:c≠d:=i_ hc h1 (by intro z;cases z);have hcc:Hc c=some (.tup [.int (Ac.lw X S).1,.int (Ac.lw X S).2]):=S2 _ _ ((bK hcd).trans hc)
    walk_at "rd"
    have dg:yI Hc d (kV (.inr nm)) (some (.ref c)):=.inl ⟨kvs,.inr nm,.inr ⟨o,hfr⟩,rfl,vv.symm⟩;refine⟨[some (.str nm)],rfl,rfl,_,dg,_,.tup (.of hcc) (dU.ints K _ [_,_]),_,.tup (T.qM _) (dU.ints K _ [0,1]),rfl,rfl,?_⟩;have X0:=(al.2.2 _ (aB ea)).1;by_cases hX:X=0
    .subst hX;obtain⟨e1,e2⟩:=(Ac.yU (b:=S) p0).mpr rfl;rw[show PyData.eqv (.tuple (List.map PyData.int [(Ac.lw 0 S).1,(Ac.lw 0 S).2])) (.tuple (List.map PyData.int [0,1]))=true by rw[e1,e2];rfl];refine⟨hfr,S2,hD,ws,?_⟩;rw[Ie ea,ZZ (by decide),List.append_nil];exact wf
    .have e0:PyData.eqv (.tuple (List.map PyData.int [(Ac.lw X S).1,(Ac.lw X S).2])) (.tuple (List.map PyData.int [0,1]))=false:=by
      rw[acV];simp only[Bool.and_eq_false_iff,decide_eq_false_iff_not];by_cases h1:(Ac.lw X S).1=0
      .exact .inr λh2=>hX ((Ac.yU p0).mp ⟨h1,h2⟩)
      .exact .inl h1
     rw[e0];refine⟨_,dg,d8,λp hp=>?_⟩;have pD:D1≠p:=bH hD hp;have pd:d≠p:=bH hfr hp;refine⟨(bK pD).trans hD,(bK pd).trans hfr,?_,bI,ws++[(nm,c)],?_⟩
     .intro b' o' e';rw[bK (bH e' hD1),bK (bH (S2 _ _ e') hp)];exact S2 _ _ e'
     .rw[Ie ea,ZY (by lia)];exact WF.updL ((bK pD).trans hD) ((wf.same (Same.upd hp)).snoc bI (.of ((bK (bH hcc hp)).trans hcc)))
   .rintro ys Hc ⟨S2,hD,ws,wf⟩ _;rw[da.len,aP]at wf;refine q _ D1 ys ws ?_ ?_ hD wf
    .intro b o' e';exact S2 _ _ ((bK (bH e' hd)).trans (S1 _ _ e'))
    .cases z:H D1 with
     |none=>rfl
     |some o' =>
      have:=(bK (H:=H') (o:=.frz o (.dK kvs)) (bH z hd)).trans (S1 _ _ z);rw[this]at hD1;cases hD1
theorem YJ{gs:List (Str×Int)}{S:Int}(W:Wt gs S):∀(hs:List (Str×Int))(L:Int),(∀g∈hs,g∈gs/\(Ac.lw g.2 S).2 ∣ L)->((hs.map λg=>(Ac.lw g.2 S).1*(L/(Ac.lw g.2 S).2)).sum)*S=(hs.map (·.2)).sum*L
 |[],L,_=>by simp
 |g::hs,L,h=>by
  have ih:=YJ W hs L λg hg=>h g (aH _ hg);obtain⟨hm,q,hq⟩:=h g aO;have p:=Ac.lB (t:=g.2) W.pos;have e:=Ac.Dg (t:=g.2) W.pos;rw[List.map_cons,List.sum_cons,List.map_cons,List.sum_cons,Int.add_mul,Int.add_mul,ih]
  congr 1
  generalize(Ac.lw g.2 S).1=a at *;generalize(Ac.lw g.2 S).2=b at *;rw[hq,Int.mul_ediv_cancel_left _ (Int.ne_of_gt p),Int.mul_right_comm,e,Int.mul_assoc]
theorem abW{gs:List (Str×Int)}{S:Int}(W:Wt gs S):∀x y,Low (lvT ((gs.map λg=>(g.1,Ac.lw g.2 S)).map (·.2))).sum (lvB ((gs.map λg=>(g.1,Ac.lw g.2 S)).map (·.2)):Nat) x y->x=1/\y=1:=by
 intro x y lo;have hq:∀f∈((gs.map λg=>(g.1,Ac.lw g.2 S)).map (·.2)),Fq f:=by
  intro f hf;obtain⟨u,hu,rfl⟩:=YV.mp hf;obtain⟨g,hg,rfl⟩:=YV.mp hu;exact(W.pair hg).fq
 have e0:(gs.map λg=>(g.1,Ac.lw g.2 S)).map (·.2)=gs.map λg=>Ac.lw g.2 S:=by rw[List.map_map];rfl
 have bp:=Gr hq;have top:=YJ W gs (lvB ((gs.map λg=>(g.1,Ac.lw g.2 S)).map (·.2)):Nat) λg hg=>⟨hg,V2 (f:=Ac.lw g.2 S) (YV.mpr ⟨(g.1,Ac.lw g.2 S),YV.mpr ⟨g,hg,rfl⟩,rfl⟩) (W.pair hg).fq⟩;have e1:(lvT ((gs.map λg=>(g.1,Ac.lw g.2 S)).map (·.2))).sum=(gs.map λg=>(Ac.lw g.2 S).1*((lvB ((gs.map λg=>(g.1,Ac.lw g.2 S)).map (·.2)):Nat)/(Ac.lw g.2 S).2)).sum:=by
  unfold lvT;rw[List.map_map,List.map_map];rfl
 rw[<- e1,W.sum,Int.mul_comm S]at top;have e2:=Int.eq_of_mul_eq_mul_right (Int.ne_of_gt W.pos) top;rw[e2]at lo;have h:=lo.eq;rw[Int.mul_comm _ y]at h;have e3:x=y:=Int.eq_of_mul_eq_mul_right (by lia) h;subst e3;have g:=lo.gcd;have p:=lo.pos;rw[Int.gcd_self]at g;lia
def Keep(s:Addr)(H H':Hp):Prop:=∀b o,b≠s->H b=some o->H' b=some o
theorem Keep.tup{s C dx:Addr}{fs:List (Str×V)}{H H':Hp}(h:Keep s H H')(hs:H s=some (.ins C dx fs)):∀t ys,H t=some (.tup ys)->H' t=some (.tup ys):=λt ys e=>h t _ (i_ e hs (by intro z;cases z)) e
theorem Keep.lst{s C dx:Addr}{fs:List (Str×V)}{H H':Hp}(h:Keep s H H')(hs:H s=some (.ins C dx fs)){t:Addr}{ys:Μ}(e:H t=some (.lst ys)):H' t=some (.lst ys):=h t _ (i_ e hs (by intro z;cases z)) e
theorem Keep.free{s r:Addr}{o:HO}{H H':Hp}(h:Keep s H H')(hr:H' r=none)(hs:H' s=some o):H r=none:=by
 cases z:H r with
 |none=>rfl
 |some u =>
  have:=h r u (bH hs hr).symm z;rw[hr]at this;cases this
theorem WF.updI{H:Hp}{o C dx:Addr}{fs:List (Str×V)}{u:HO}(ho:H o=some (.ins C dx fs)){xs:Μ}{gs:List (Str×Int×Int)}{ws:List (Str×Addr)}(h:WF K H xs gs ws):WF K (upd H o u) xs gs ws :=
 h.imp (λt us e=>(bK (i_ e ho (by intro z;cases z))).trans e) λc xs e=>e.updO ho (by intro ys z;cases z) (by intro ob ys z;cases z)
theorem PW.snoc{H:Hp}{xs:Μ}{gs:List (Str×Int)}{S:Int}(h:PW H xs gs S){t c:Addr}{g:Str×Int}(h1:H t=some (.tup [.str g.1,.ref c]))(h2:H c=some (.tup [.int (Ac.lw g.2 S).1,.int (Ac.lw g.2 S).2])):PW H (xs++[.ref t]) (gs++[g]) S:=by
 refine⟨by rw[aA,aA,h.len];rfl,λk u e=>?_⟩;by_cases hk:k<gs.length
 .rw[aD hk]at e;rw[aD (by rw[h.len];exact hk)];exact h.at_ k u e
 .rw[aC (Nat.le_of_not_lt hk)]at e;rw[aC (by rw[h.len];exact Nat.le_of_not_lt hk),h.len];have e0:k-gs.length=0:=by
   cases e1:k-gs.length with
   |zero=>rfl
   |succ m=>rw[e1]at e;simp at e
  rw[e0,List.getElem?_cons_zero]at e;cases e;rw[e0];exact⟨t,c,rfl,h1,h2⟩
structure W6(K:Frag)(H:Hp)(s C:Addr)(n:Str)(p:Addr)(ds:List (Str×Int×Int))(ld:Addr)(ys:Μ)(ws:List (Str×Addr)):Prop where
 at_:∃dx,H s=some (.ins C dx [("name",.str n),("pay",.ref p),("leads",.ref ld)])
 hl:H ld=some (.lst ys)
 wf:WF K H ys ds ws
def ig(K:Frag)(D:Adr):Sp:=λvs H Q _=>∃(s dx C:Addr)(n:Str)(p l:Addr)(x y:Int)(xs:Μ)(gs:List (Str×Int))(S:Int),vs=[.ref s,.str n,.ref p,.ref l]/\H s=some (.ins C dx [])/\Fam D C/\n.length<=1000/\m9 n.cps.toList=true/\Fk K H p x y /\
 H l=some (.lst xs)/\PW H xs gs S/\Wt gs S/\∀H' ld ys ws,H ld=none->Keep s H H'->W6 K H' s C n p (Ac.ways gs S) ld ys ws->Q .non H'
theorem J_(F:Fun K zO zG uI f fd)(T:Txt K mg D)(k_:OkI P w K mg base (CXO P w) 4 D.Door_init kY (lu (K:=K) D))(JK:OkX P w K mg base 4 j9 jW oU)
 (GR:OkX P w K mg base 4 jR jX (yS K)):cF P w K mg base (CXO P w) 5 f fd iB (ig K D):=by
 refine F.okX Kg ?_ ?_
 .rintro _ _ _ _ ⟨s,dx,C,n,p,l,x,y,xs,gs,S,rfl,_⟩;rfl
 .rintro cdv A outer s H _ Q E hr ⟨o,dx,C,n,p,l,x,y,xs,gs,S,rfl,ho,hC,hn,hw,hf,hl,hp,W,q⟩;refine⟨_,(bL (dD (BP T.Bb k_ hr.md (by rfl) T.abE fK (bD (pv 0) (bD (pv 1) (bD (pv 2) bF)))))
   (bL (dD (eN JK hr.md (by rfl) fK (bD (pv 3) bF)))
   (bM (yN (pv 0) (eN GR hr.md (by rfl) fK (bD (pv 3) bF)) rfl)))),?_⟩
  unfold lu oU yS
  walk_at "rd"
  refine⟨dx,C,ho,hC,hn,hw,⟨x,y,hf⟩,λl0 h0=>?_⟩;have ol:o≠l0:=bH bI h0;rw[bK ol.symm]at h0;have k1:Keep o H (upd (upd H l0 (.lst [])) o (.ins C dx [("name",.str n),("pay",.ref p),("leads",.ref l0)])):=λb u hb e=>(bK hb).trans ((bK (bH e h0)).trans e);have o1:upd (upd H l0 (.lst [])) o (.ins C dx [("name",.str n),("pay",.ref p),("leads",.ref l0)]) o=some (.ins C dx [("name",.str n),("pay",.ref p),("leads",.ref l0)]):=bI;generalize upd (upd H l0 (.lst [])) o (.ins C dx [("name",.str n),("pay",.ref p),("leads",.ref l0)])=H1 at k1 o1 ⊢;refine⟨xs,k1.lst ho hl,_,(hp.imp (k1.tup ho)).pairs,?_,?_,abW W,λH2 S2=>?_⟩
  .intro g hg;obtain⟨u,hu,rfl⟩:=YV.mp hg;exact W.pair hu
  .rw[ak];exact aM W.len (by decide)
  .refine⟨xs,S2 _ _ (k1.lst ho hl),gs,S,(hp.imp (k1.tup ho)).same S2,W,λH3 r ys ws S3 hr3 hr hwf=>?_⟩;have o3:=S3 _ _ (S2 _ _ o1);refine⟨C,dx,_,o3,T.cl C hC,T.Jv C hC,(by show 3<1000;decide),?_⟩;refine q _ r ys ws (k1.free (S2.free hr3) o1) (λb u hb e=>(bK hb).trans (S3 _ _ (S2 _ _ (k1 b u hb e)))) ⟨⟨dx,bI⟩,(bK (i_ hr o3 (by intro z;cases z))).trans hr,hwf.updI o3⟩
inductive xu(K:Frag)(D:Adr)(vs:Μ)(H:Hp)(Q:VK):Prop
 |mk (s dx:Addr) (n r1 r2:Str) (p c:Addr) (x y w S:Int) (h0:vs=[.ref s,.str n,.ref p,.ref c,.str r1,.str r2]) (h1:H s=some (.ins D.Toss dx [])) (h2:n.length<=1000) (h3:m9 n.cps.toList=true) (h4:Fk K H p x y) (h5:H c=some (.tup [.int (Ac.lw w S).1,.int (Ac.lw w S).2])) (h6:Wt [(r1,w),(r2,S-w)] S) (h7:∀H' ld ys ws,H ld=none->Keep s H H'->W6 K H' s D.Toss n p (Ac.ways [(r1,w),(r2,S-w)] S) ld ys ws->Q .non H'):xu K D vs H Q
def vG(K:Frag)(D:Adr):Sp:=λvs H Q _=>xu K D vs H Q
theorem Oo(F:Fun K Df Bj vY f fd)(T:Txt K mg D)(ju:OkX P w K mg base 3 jw jK (jB (K:=K)))(qg:OkX P w K mg base 3 gQ gP (qR (K:=K)))(aaf:OkX P w K mg base 3 rM qY (nA (K:=K) (· - ·)))
 (fj:OkI P w K mg base (CXO P w) 5 D.Mixed_init iB (ig K D)):cF P w K mg base (CXO P w) 6 f fd nH (vG K D):=by
 refine F.okX Og ?_ ?_
 .rintro _ _ _ _ ⟨s,dx,n,r1,r2,p,c,x,y,w,S,rfl,_⟩;rfl
 .rintro cdv A outer s H _ Q E hr ⟨o,dx,n,r1,r2,p,c,x,y,w,S,rfl,ho,hn,hw,hf,hc,W,q⟩;refine⟨_,(bL (dD (eN ju hr.md (by rfl) fK (bD (pv 1) (bD (pv 2) bF))))
   (bL (dD (eN qg hr.md (by rfl) fK (bD (pv 3) bF)))
   (bM (dD (BP T.zH fj hr.md (by rfl) T.NZ fK (bD (pv 0) (bD (pv 1) (bD (pv 2) (bD (o9 (bD (mO (bD (pv 4) (bD (pv 3) bF))) (bD (mO (bD (pv 5) (bD (eN aaf hr.md (by rfl) fK (bD (jo (by rfl) T.K6) (bD (pv 3) bF))) bF))) bF))) bF))))))))),?_⟩
  unfold jB qR nA ig
  walk_at "rd"
  have p0:=W.pos;have sle:=W.le;have w0:0<=w:=W.lo (r1,w) (by simp);have w1:w<=S:=W.hi (g:=(r1,w)) (by simp);have q2:=Ac.lB (t:=w) p0;have b3:=X4 (aM (Ac.Im w S) (by lia:w.natAbs<=10^20));have b4:=X4 (aM (Ac.Er w S) (by lia:S.natAbs<=10^20));have b1:Bd 1:=Bd.sm (by decide);refine⟨hn,hw,⟨x,y,hf⟩,⟨_,_,⟨.of hc,q2,Ac.Al p0⟩,Ac.aeb p0 w0,Ac.aec p0 w1,b4⟩,d8,λp1 h1=>⟨1,1,T.DG _,_,_,.of (Same.upd h1 _ _ hc),b1,b1,b3,b4,by decide,q2,by rw[Int.one_mul];exact b4,λr z o1 lo hr=>⟨d8,λp2 h2=>⟨d8,λp3 h3=>?_⟩⟩⟩⟩;have T2:Same (upd H p1 (.tup [.str r1,.ref c])) (upd (upd H p1 (.tup [.str r1,.ref c])) r (.tup [.int z,.int o1])):=Same.upd hr;have T3:Same (upd (upd H p1 (.tup [.str r1,.ref c])) r (.tup [.int z,.int o1])) (upd (upd (upd H p1 (.tup [.str r1,.ref c])) r (.tup [.int z,.int o1])) p2 (.tup [.str r2,.ref r])):=Same.upd h2;have T4:Same (upd (upd (upd H p1 (.tup [.str r1,.ref c])) r (.tup [.int z,.int o1])) p2 (.tup [.str r2,.ref r])) (upd (upd (upd (upd H p1 (.tup [.str r1,.ref c])) r (.tup [.int z,.int o1])) p2 (.tup [.str r2,.ref r])) p3 (.lst [.ref p1,.ref p2])):=Same.upd h3;have TS:Same H (upd (upd (upd (upd H p1 (.tup [.str r1,.ref c])) r (.tup [.int z,.int o1])) p2 (.tup [.str r2,.ref r])) p3 (.lst [.ref p1,.ref p2])):=(Same.upd h1).trans (T2.trans (T3.trans T4));have e1:=T4 _ _ (T3 _ _ (T2 p1 _ bI));have e2:=T4 _ _ (T3 r _ bI);have e3:=T4 p2 _ bI;obtain⟨ez,eo⟩:=Ac.Px p0 lo.pos lo.gcd lo.eq;generalize upd (upd (upd (upd H p1 (.tup [.str r1,.ref c])) r (.tup [.int z,.int o1])) p2 (.tup [.str r2,.ref r])) p3 (.lst [.ref p1,.ref p2])=Hn at TS e1 e2 e3 ⊢;refine⟨dx,D.Toss,TS _ _ ho,(by simp[Fam]),hn,hw,⟨x,y,hf.same TS⟩,[(r1,w),(r2,S-w)],S,⟨rfl,λk g e=>?_⟩,W,λH' ld ys ws f k d=>q H' ld ys ws (TS.free f) (λb u hb e=>k b u hb (TS b u e)) d⟩
  match k,e with
  |0,e =>
   cases e;exact⟨p1,c,rfl,e1,TS _ _ hc⟩
  |1,e =>
   cases e;exact⟨p2,r,rfl,e3,by rw[<- ez,<- eo];exact e2⟩
  |k+2,e=>cases e
def jE(D1:Addr)(rs:Β)(H:Hp)(k:Nat)(ys:Μ)(Hc:Hp):Prop:=PW Hc ys ((rs.map λr=>(r,(1:Int))).take k) rs.length/\Same H Hc/\Hc D1=some (.lst ys)
inductive xq(K:Frag)(D:Adr)(vs:Μ)(H:Hp)(Q:VK):Prop
 |mk (s dx:Addr) (n:Str) (p l:Addr) (x y:Int) (rs:Β) (h0:vs=[.ref s,.str n,.ref p,.ref l]) (h1:H s=some (.ins D.Even dx [])) (h2:n.length<=1000) (h3:m9 n.cps.toList=true) (h4:Fk K H p x y) (h5:H l=some (.lst (rs.map V.str))) (h6:Wt (rs.map λr=>(r,(1:Int))) rs.length) (h7:∀H' ld ys ws,H ld=none->Keep s H H'->W6 K H' s D.Even n p (Ac.ways (rs.map λr=>(r,(1:Int))) rs.length) ld ys ws->Q .non H'):xq K D vs H Q
def vd(K:Frag)(D:Adr):Sp:=λvs H Q _=>xq K D vs H Q
theorem Qe(F:Fun K A_ BX sZ f fd)(T:Txt K mg D)(fj:OkI P w K mg base (CXO P w) 5 D.Mixed_init iB (ig K D)):cF P w K mg base (CXO P w) 6 f fd ou (vd K D):=by
 refine F.okX Ng ?_ ?_
 .rintro _ _ _ _ ⟨s,dx,n,p,l,x,y,rs,rfl,_⟩;rfl
 .rintro cdv A outer s H _ Q E hr ⟨o,dx,n,p,l,x,y,rs,rfl,ho,hn,hw,hf,hl,W,q⟩;refine⟨_,(bM (dD (BP T.zH fj hr.md (by rfl) T.NZ fK (bD (pv 0) (bD (pv 1) (bD (pv 2) (bD (iY (bN sZ) xV xV ["room"] (cZ ((pv 3)).mono) (d7 (i:=0)) dz (mO (bD (pv 0) (bD (mO (bD bG (bD (b_ dw (by rfl) T.iH PySem.boot_len (bD (pv 4) bF)) bF))) bF)))) bF))))))),?_⟩;unfold ig
  walk_at "rd"
  refine dM ?_
  walk_at "rd"
  have l8:=W.len;rw[ak]at l8;have p0:=W.pos;have z9:9<sizeLine:=by decide
  refine⟨_,hl,by rw[ak];exact aM l8 (by decide),λD1 hD=>⟨jE D1 rs H,⟨⟨rfl,λk g e=>by simp at e⟩,Same.upd hD,bI⟩,?_,?_⟩⟩
  .rintro k x1 ys Hc hk ⟨pw,S1,hD1⟩ hy hlc;rw[aq]at hk;cases er:rs[k]? with
   |none=>rw[er]at hk;cases hk
   |some r =>
    rw[er]at hk;cases hk;refine⟨_,hlc,d8,λp1 hp1=>⟨d8,λp2 hp2=>?_⟩⟩;have T1:Same Hc (upd (upd Hc p1 (.tup [.int 1,.int (rs.map V.str).length])) p2 (.tup [.str r,.ref p1])):=(Same.upd hp1).trans (Same.upd hp2);have e1:upd (upd Hc p1 (.tup [.int 1,.int (rs.map V.str).length])) p2 (.tup [.str r,.ref p1]) p1=some (.tup [.int 1,.int (rs.map V.str).length]):=Same.upd hp2 p1 _ bI;have e2:upd (upd Hc p1 (.tup [.int 1,.int (rs.map V.str).length])) p2 (.tup [.str r,.ref p1]) p2=some (.tup [.str r,.ref p1]):=bI;generalize upd (upd Hc p1 (.tup [.int 1,.int (rs.map V.str).length])) p2 (.tup [.str r,.ref p1])=Hn at T1 e1 e2 ⊢;have nD:∀t us,Hn t=some (.tup us)->upd Hn D1 (.lst (ys++[.ref p2])) t=some (.tup us):=λt us e=>(bK (i_ e (T1 _ _ hD1) (by intro z;cases z))).trans e;refine⟨T1 _ _ hD1,T1 _ _ hlc,?_,?_,bI⟩
    .rw[List.take_succ,aq,er];refine((pw.same T1).imp nD).snoc (c:=p1) (nD _ _ e2) ?_;obtain⟨h1,h2⟩:=Ac.aeQ p0;show _=some (HO.tup [.int (Ac.lw 1 (rs.length:Int)).1,.int (Ac.lw 1 (rs.length:Int)).2]);rw[h1,h2,nD _ _ e1,ak]
    .intro b u e;rw[bK (bH e hD)];exact T1 _ _ (S1 _ _ e)
  .rintro ys Hc ⟨pw,S1,hD1⟩ hy;have ek:(rs.map λr=>(r,(1:Int))).take (rs.map V.str).length=rs.map λr=>(r,(1:Int)):=aK (by rw[ak,ak];exact aF _);rw[ek]at pw;exact⟨dx,D.Even,S1 _ _ ho,(by simp[Fam]),hn,hw,⟨x,y,hf.same S1⟩,ys,hD1,_,_,pw,W,λH' ld ys ws f k d=>q H' ld ys ws (S1.free f) (λb u hb e=>k b u hb (S1 b u e)) d⟩
def Lt(x:Str):Prop:=x.cps.toList.all Ag=true
theorem W9(x y:Str):(x++y).cps.toList=x.cps.toList++y.cps.toList:=by
 show(x.cps++y.cps).toList=_;rw[Array.toList_append]
theorem ad9(x y:Str):(x++y).length=x.length+y.length:=by
 show(x.cps++y.cps).size=_;rw[Array.size_append];rfl
theorem aaD{α:Type}{xs:List α}{i:Int}(h0:0<=i)(h1:i<xs.length):∃v,atI xs i=some v/\v∈xs:=by
 obtain⟨n,rfl⟩:=Int.eq_ofNat_of_zero_le h0;have hn:n<xs.length:=by lia
 exact⟨xs[n],cu (aj hn),aV hn⟩
theorem Lt.one{i:Int}(h0:0<=i)(h1:i<26):∃c,atI (Str.ofString "abcdefghijklmnopqrstuvwxyz").cps.toList i=some c/\Lt ⟨#[c]⟩:=by
 have l1:(Str.ofString "abcdefghijklmnopqrstuvwxyz").cps.toList.length=26:=by decide +kernel
 obtain⟨v,e,e2⟩:=aaD (xs:=(Str.ofString "abcdefghijklmnopqrstuvwxyz").cps.toList) h0 (by rw[l1];exact h1);refine⟨v,e,?_⟩;unfold Lt Ag;simp only[List.all_cons,List.all_nil,Bool.and_true,decide_eq_true_eq];exact e2
structure Wd(x:Str):Prop where
 lt:Lt x
 lo:1<=x.length
 hi:x.length<=8
theorem Wd.word{x:Str}(h:Wd x):m9 x.cps.toList=true:=by
 have l:=h.lt;have lo:=h.lo;have hi:=h.hi;have hl:x.cps.toList.length=x.length:=Array.length_toList;unfold Lt at l;unfold m9;rw[l,hl,Zs lo,Zs hi];rfl
theorem Lt.fold:∀(ys:Β)(acc:Array Nat),acc.toList.all Ag=true->(∀y∈ys,Lt y)->(ys.foldl (λacc p=>acc++(Str.ofString "").cps++p.cps) acc).toList.all Ag=true
 |[],acc,h,_=>h
 |y::ys,acc,h,hy=>by
  rw[List.foldl_cons];refine Lt.fold ys _ ?_ λz hz=>hy z (aH _ hz);have e0:(Str.ofString "").cps = #[]:=by decide +kernel
  have hy0:y.cps.toList.all Ag=true:=hy y aO;rw[e0,Array.append_empty,Array.toList_append,List.all_append,h,hy0];rfl
theorem Lt.glued{ys:Β}(h:∀y∈ys,Lt y):Lt (Txt.join (Str.ofString "") ys):=by
 show((ys.drop 1).foldl (λacc p=>acc++(Str.ofString "").cps++p.cps) (ys.headD Str.empty).cps).toList.all Ag=true;refine Lt.fold _ _ ?_ λy hy=>h y (List.mem_of_mem_drop hy);cases ys with
 |nil=>rfl
 |cons y ys=>exact h y aO
noncomputable def zJ(ns:Β)(o:Nat):List (Key×V):=(ns.zipIdx o).map λg=>(.inr g.1,.int (g.2:Nat))
abbrev Em(ns:Β):List (Key×V):=zJ ns 0
theorem Iw{ns:Β}{o:Nat} : (zJ ns o).length=ns.length:=by unfold zJ;rw[ak,List.length_zipIdx]
theorem DW{n:Str}{ns:Β}{o:Nat} : zJ (n::ns) o=(.inr n,.int (o:Nat))::zJ ns (o+1):=by unfold zJ;rw[List.zipIdx_cons];rfl
theorem W4{n:Str} : ∀{ns:Β}{o:Nat},n∉ns->sE (zJ ns o) (.inr n)=none
 |[],_,_=>rfl
 |a::ns,o,h=>by
  rw[DW];have ne:¬(Sum.inr a:Key)=.inr n:=λz=>h (by injection z with z;rw[z];exact aO);unfold sE;rw[List.find?_cons,Zp ne];exact W4 λm=>h (aH _ m)
theorem Rv{n:Str} : ∀{ns:Β}{o k:Nat},ns.Nodup->ns[k]?=some n->sE (zJ ns o) (.inr n)=some (.int ((o+k:Nat):Int))
 |[],_,_,_,h=>by simp at h
 |a::ns,o,0,_,h=>by
  rw[List.getElem?_cons_zero]at h;cases h;rw[DW];unfold sE;rw[List.find?_cons,Zs rfl];rfl
 |a::ns,o,k+1,nd,h=>by
  rw[List.getElem?_cons_succ]at h;obtain⟨na,nd'⟩:=List.nodup_cons.mp nd;have ne:¬(Sum.inr a:Key)=.inr n:=λz=>na (by injection z with z;rw[z];exact aB h);have ih:=Rv (o:=o+1) nd' h;rw[DW];unfold sE at ih ⊢;rw[List.find?_cons,Zp ne];rw[show o+(k+1)=o+1+k by lia];exact ih
theorem aau{n:Str}{ns:Β}(h:n∉ns):putK (Em ns) (.inr n) (.int (ns.length:Nat))=Em (ns++[n]):=by
 have a:((Em ns).any λkv=>decide (kv.1=.inr n))=false:=by
  rw[List.any_eq_false];intro kv hk;unfold Em zJ at hk;obtain⟨g,hg,rfl⟩:=YV.mp hk;have:g.1∈ns:=by
   have:=List.mem_map_of_mem (f:=Prod.fst) hg;rwa[List.zipIdx_map_fst]at this
  intro z;have z:(Sum.inr g.1:Key)=.inr n:=of_decide_eq_true z;injection z with z;exact h (z ▸ this)
 unfold putK;rw[a,ZZ (by decide)];unfold Em zJ;rw[List.zipIdx_append,bA,Nat.zero_add];rfl
structure V8(H:Hp)(xs:Μ)(ns:Β):Prop where
 len:xs.length=ns.length
 at_:∀(k:Nat)(n:Str),ns[k]?=some n->∃t v,xs[k]?=some (.ref t)/\H t=some (.tup [.str n,v])
theorem Jh{α:Type}{l:List α}{k:Nat}{a:α}(nd:l.Nodup)(e:l[k]?=some a):a∉l.take k:=by
 obtain⟨lk,rfl⟩:=ao.mp e;rw[<- List.take_append_drop k l,List.nodup_append]at nd;intro z;refine nd.2.2 _ z _ ?_ rfl;rw[List.drop_eq_getElem_cons lk];exact aO
def n_:Sp:=λvs H Q _=>∃(p:Addr)(x y:Int),vs=[.ref p]/\Fk K H p x y/\0<=x/\x<y/\Bd x/\Bd y/\Q .non H
theorem H_(F:Fun K jY jY tX f fd)(T:Txt K mg D)(jc:OkF P w K mg base 2 j4 j5 (iV (K:=K)))(fX:OkF P w K mg base 1 mF lQ (lC (K:=K))):cF P w K mg base CX0 3 f fd jT (n_ (K:=K)):=by
 refine F.ok Jr ?_ ?_
 .rintro _ _ _ _ ⟨p,x,y,rfl,_⟩;rfl
 .rintro cdv A outer s H _ Q E hr ⟨p,x,y,rfl,fk,x0,xy,bx,b_y,q⟩;refine⟨_,(bM (cW (PW.pt (pw_or (dh (cV (bO jc hr.md (by rfl) (bD (pv 0) bF)) (λ_=>rfl))) (pw_or (cV (bO fX hr.md (by rfl) (bD (pv 0) (bD (jo (by rfl) T.uE) bF))) (λ_=>rfl)) (pw_or1 (dh (cV (bO fX hr.md (by rfl) (bD (pv 0) (bD (jo (by rfl) T.K6) bF))) (λ_=>rfl)))))))
    (bM oH)
    cA)),?_⟩
  unfold iV lC
  walk_at "rd"
  have hy:=fk.pos;have b0:Bd 0:=Nat.two_pow_pos 8000;have b1:Bd 1:=Nat.one_lt_two_pow (by decide);refine⟨⟨x,y,fk⟩,x,y,fk.at_,0,1,T.qM H,bx,b_y,b0,b1,?_⟩;rw[ZZ (by simp;omega)];refine⟨x,y,fk.at_,1,1,T.DG H,bx,b_y,b1,b1,?_⟩;rw[ZZ (by simp;omega)];exact q
def pK:Sp:=λvs H Q _=>∃(l:Addr)(xs:Μ)(rs:Β),vs=[.ref l]/\H l=some (.lst xs)/\V8 H xs rs/\rs.Nodup/\(∀g∈rs,Wd g)/\rs.length<=20 /\
 ∀d H',Same H H'->H d=none->H' d=some (.dK (Em rs))->Q (.ref d) H'
def nJ(l d:Addr)(rs:Β)(H:Hp)(k:Nat)(σ:L2.St)(H':Hp):Prop:=∃u v,σ=[some (.ref l),some (.ref d),u,v]/\Same H H'/\H' d=some (.dK (Em (rs.take k)))
theorem KY(F:Fun K lW lW vI f fd)(T:Txt K mg D)(kj:OkF P w K mg base 1 mJ mW wY):cF P w K mg base CX0 2 f fd lG pK:=by
 refine F.ok pL ?_ ?_
 .rintro _ _ _ _ ⟨l,xs,rs,rfl,_⟩;rfl
 .rintro cdv A outer s H _ Q E hr ⟨l,xs,rs,rfl,hl,ra,nd,wd,n20,q⟩;refine⟨_,(bL (cj (i:=1) pL.nd rfl (Or.inl rfl) Hi)
   (bL (iR PassesOwn.never rfl (cZ ((pv 0)).mono) (cM (i:=2) pL.nd rfl (Or.inl rfl))
    (bL (cj (i:=3) pL.nd rfl (Or.inl rfl) (bQ cQ (pv 2) bG (λ_ _=>rfl)))
    (bL (cW (PW.pt (pw_or (dh (cV (bO kj hr.md (by rfl) (bD (pv 3) bF)) (λ_=>rfl))) (pw_or1 (Tv (aaH (zF hr) (pv 3) (pv 1))))))
     (bM oH)
     cA)
    (bM (Pg (zF hr) (pv 1) (pv 3) (b_ Ma (by rfl) T.iH PySem.boot_len (bD (pv 1) bF)) rfl)))))
   (bM (cg (pv 1))))),?_⟩
  unfold wY
  walk_at "rd"
  refine λd hd=>gC ?_
  walk_at "rd"
  have ld:l≠d:=bH hl hd;refine⟨xs,(bK ld).trans hl,nJ l d rs H,⟨none,none,rfl,Same.upd hd,bI⟩,?_,?_⟩
  .rintro k x σ' H' hk ⟨u,v,rfl,S1,h1⟩ hl';have lk:k<rs.length:=by rw[<- ra.len];exact(ao.mp hk).1
   have e:rs[k]?=some rs[k]:=aj lk;have hm:=aV lk;obtain⟨t,dv,a,b⟩:=ra.at_ k _ e;rw[hk]at a;cases a;have hw:=wd _ hm;have no:rs[k]∉rs.take k:=by exact Jh nd e
   generalize rs[k]=n at *
   walk_at "rd"
   have l9:=hw.hi;refine⟨_,S1 _ _ b,_,c7,.inl ⟨n,rfl,aM l9 (by decide),?_⟩⟩;rw[ZZ (by rw[hw.word];decide)];refine⟨_,yI.k (k:=.inr n) h1,?_⟩;rw[W4 no,ZZ (by decide)];have hlen:(Em (rs.take k)).length<sizeLine:=by
    have h9:21<sizeLine:=by decide
    rw[Iw,bh];lia
   refine⟨d,_,rfl,h1,_,Uj.k (k:=.inr n) h1 hlen,(bK ld).trans hl',_,_,rfl,λb' o' e'=>(bK (bH e' hd)).trans (S1 _ _ e'),?_⟩;rw[bI,Iw,aau no,cB e]
  .rintro σ' H' ⟨u,v,rfl,S1,h1⟩ _;rw[ra.len,aP]at h1
   walk_at "rd"
   exact q d H' S1 hd h1
structure NWs(ns:Β)(H:Hp)(zs:Μ)(ws:List (Str×Addr)):Prop where
 len:zs.length=ws.length
 at_:∀(k:Nat)(g:Str×Addr),ws[k]?=some g->∃t i,zs[k]?=some (.ref t)/\ns[i]?=some g.1/\H t=some (.tup [.int (i:Nat),.ref g.2])
theorem NWs.imp{ns:Β}{H H':Hp}{zs:Μ}{ws:List (Str×Addr)}(h':∀t ys,H t=some (.tup ys)->H' t=some (.tup ys))(h:NWs ns H zs ws):NWs ns H' zs ws:=⟨h.len,λk g e=>let⟨t,i,a,b,c⟩:=h.at_ k g e;⟨t,i,a,b,h' _ _ c⟩⟩
theorem NWs.snoc{ns:Β}{H:Hp}{zs:Μ}{ws:List (Str×Addr)}{t:Addr}{i:Nat}{g:Str×Addr}(h:NWs ns H zs ws)(hi:ns[i]?=some g.1)(ht:H t=some (.tup [.int (i:Nat),.ref g.2])):NWs ns H (zs++[.ref t]) (ws++[g]):=by
 refine⟨by rw[aA,aA,h.len];rfl,λk g' e=>?_⟩;by_cases hk:k<ws.length
 .rw[aD hk]at e;obtain⟨t',i',a,b,c⟩:=h.at_ k g' e;exact⟨t',i',by rw[aD (by rw[h.len];exact hk)];exact a,b,c⟩
 .rw[aC (Nat.le_of_not_lt hk)]at e;have e0:k-ws.length=0:=by
   have:=(ao.mp e).1;simp at this;omega
  rw[e0]at e;cases e;refine⟨t,i,?_,hi,ht⟩;rw[aC (by rw[h.len];exact Nat.le_of_not_lt hk),h.len,e0];rfl
def kZ(D:Adr):Sp:=λvs H Q _=>∃(s n C dx p l:Addr)(nm:Str)(xs:Μ)(ws:List (Str×Addr))(ns:Β),vs=[.ref s,.ref n]/\fW D C/\H s=some (.ins C dx [("name",.str nm),("pay",.ref p),("leads",.ref l)])/\H l=some (.lst xs)/\Xi H xs ws/\ws.length<=100/\H n=some (.dK (Em ns))/\ns.Nodup/\(∀g∈ws,g.1∈ns) /\
 ∀r H' zs,Same H H'->H r=none->H' r=some (.lst zs)->NWs ns H' zs ws->Q (.ref r) H'
def nwJ(s n r:Addr)(ns:Β)(ws:List (Str×Addr))(H:Hp)(k:Nat)(σ:L2.St)(H':Hp):Prop:=∃u v zs,σ=[some (.ref s),some (.ref n),some (.ref r),u,v]/\Same H H'/\H' r=some (.lst zs)/\NWs ns H' zs (ws.take k)
theorem Ek(F:Fun K iT iT qm f fd)(T:Txt K mg D)(wu:OkI P w K mg base CX0 1 D.Door_ways oF (qz D)):cF P w K mg base CX0 2 f fd iQ (kZ D):=by
 refine F.ok kO ?_ ?_
 .rintro _ _ _ _ ⟨d,n,C,dx,p,l,nm,xs,ws,ns,rfl,_⟩;rfl
 .rintro cdv A outer s H _ Q E hr ⟨d,n,C,dx,p,l,nm,xs,ws,ns,rfl,hC,hs,hl,hw,n100,hn,nd,hin,q⟩;refine⟨_,(bL (cj (i:=2) kO.nd rfl (Or.inl rfl) (o9 bF))
   (bL (iR PassesOwn.never rfl (cZ ((PE.any λC(hC:fW D C)=>(qN (pv 0) (T.cl C hC.fam) (T.Ou C hC) wu hr.md))).mono) (fV (n:=2) rfl (cD (cM (i:=3) kO.nd rfl (Or.inl rfl)) (cD (cM (i:=4) kO.nd rfl (Or.inl rfl)) fL)))
    (bL (cW (Tv (Xn (zF hr) (pv 3) (pv 1)))
     (bM oH)
     cA)
    (bM (dD (rH (pv 2) (bD (mO (bD (O4 (zF hr) (pv 1) (pv 3) (λ_ _=>rfl)) (bD (pv 4) bF))) bF))))))
   (bM (cg (pv 2))))),?_⟩
  unfold qz
  walk_at "rd"
  refine⟨by decide,λr hrn=>gC ?_⟩
  walk_at "rd"
  have sr:∀{b o},H b=some o->(upd H r (.lst [])) b=some o:=λ{b o}e=>(bK (bH e hrn)).trans e;refine⟨C,hC,dx,_,sr hs,rfl,nm,p,l,⟨C,dx,hC.fam,sr hs⟩,xs,sr hl,by rw[hw.len];exact n100,λr2 hr2=>⟨nwJ d n r ns ws H,?_,?_,?_⟩⟩
  .have rr:r≠r2:=bH bI hr2;refine⟨none,none,[],rfl,λb o e=>(bK (bH (sr e) hr2)).trans (sr e),(bK rr).trans bI,rfl,λk g e=>by simp at e⟩
  .rintro k x σ' H' hk ⟨u,v,zs,rfl,S1,h1,nw⟩ hx;have lk:k<ws.length:=by rw[<- hw.len];exact(ao.mp hk).1
   have e:ws[k]?=some ws[k]:=aj lk;have hm:=hin _ (aV lk);obtain⟨t,a,b⟩:=hw.at_ k _ e;rw[hk]at a;cases a;generalize ws[k]=g at *;obtain⟨m,c⟩:=g;obtain⟨i,hi⟩:=aW hm
   walk_at "rd"
   have rr:r≠r2:=bH bI hr2;have vl:sE (Em ns) (.inr m)=some (.int ((0+i:Nat):Int)):=Rv nd hi;have dg:yI H' n (kV (.inr m)) (some (.int ((0+i:Nat):Int))):=vl ▸ yI.k (k:=.inr m) (S1 _ _ hn);refine⟨_,S1 _ _ b,rfl,_,_,rfl,_,_,rfl,rfl,_,dg,?_⟩;rw[ZZ (by simp)];refine⟨⟨_,h1⟩,_,dg,d8,λp hp=>?_⟩;have rp:r≠p:=bH h1 hp;have zl:zs.length<sizeLine:=by
    have h9:101<sizeLine:=by decide
    rw[nw.len,bh];lia
   refine⟨zs,(bK rp).trans h1,zl,(bK rr.symm).trans ((bK (bH hx hp)).trans hx),_,_,_,rfl,λb' o' e'=>(bK (bH e' hrn)).trans ((bK (bH (S1 _ _ e') hp)).trans (S1 _ _ e')),bI,?_⟩;rw[cB e];refine(nw.imp λt ys e'=>?_).snoc hi ?_
   .rw[bK (i_ e' h1 (by intro z;cases z)),bK (bH e' hp)];exact e'
   .rw[bK rp.symm,bI,Nat.zero_add]
  .rintro σ' H' ⟨u,v,zs,rfl,S1,h1,nw⟩ hx;rw[hw.len,aP]at nw
   walk_at "rd"
   exact q r H' zs S1 hrn h1 nw
noncomputable def del(as:Ε)(H:Hp):Hp:=λb=>if b∈as then none else H b
theorem gK{as:Ε}{H:Hp}{b:Addr}{o:HO}(h:b∉as)(e:H b=some o):del as H b=some o:=by unfold del;rw[ZZ h];exact e
theorem tU{as:Ε}{H:Hp}{b:Addr}{o:HO}(e:del as H b=some o):b∉as/\H b=some o:=by
 unfold del at e;split at e
 .cases e
 .exact⟨by assumption,e⟩
theorem jq{as:Ε}{H:Hp} : Same (del as H) H:=λb o e=>(tU e).2
theorem lM{as:Ε}{H H':Hp}(h:∀b o,b∉as->H b=some o->H' b=some o):Same (del as H) (del as H'):=λb o e=>let⟨a,c⟩:=tU e;gK a (h b o a c)
structure Dr where
 nm:Str
 p:Addr
 ws:List (Str×Addr)
def aaQ(D:Adr)(H:Hp)(s:Addr)(g:Dr):Prop:=∃C dx l xs,fW D C/\H s=some (.ins C dx [("name",.str g.nm),("pay",.ref g.p),("leads",.ref l)])/\H l=some (.lst xs)/\Xi H xs g.ws/\g.ws.length<=100
theorem aaQ.same{H H':Hp}{s:Addr}{g:Dr}(S:Same H H')(h:aaQ D H s g):aaQ D H' s g:=by obtain⟨C,dx,l,xs,a,b,c,d,e⟩:=h;exact⟨C,dx,l,xs,a,S _ _ b,S _ _ c,d.same S,e⟩
structure zN(D:Adr)(H:Hp)(xs:Μ)(gs:List Dr):Prop where
 len:xs.length=gs.length
 at_:∀(k:Nat)(g:Dr),gs[k]?=some g->∃s,xs[k]?=some (.ref s)/\aaQ D H s g
theorem zN.same{H H':Hp}{xs:Μ}{gs:List Dr}(S:Same H H')(h:zN D H xs gs):zN D H' xs gs:=⟨h.len,λk g e=>let⟨s,a,b⟩:=h.at_ k g e;⟨s,a,b.same S⟩⟩
structure sI(ns:Β)(H:Hp)(zs:Μ)(gs:List Dr):Prop where
 len:zs.length=gs.length
 at_:∀(k:Nat)(g:Dr),gs[k]?=some g->∃t r ys,zs[k]?=some (.ref t)/\H t=some (.tup [.str g.nm,.ref g.p,.ref r])/\H r=some (.lst ys)/\NWs ns H ys g.ws
theorem sI.same{ns:Β}{H H':Hp}{zs:Μ}{gs:List Dr}(S:Same H H')(h:sI ns H zs gs):sI ns H' zs gs:=⟨h.len,λk g e=>let⟨t,r,ys,a,b,c,d⟩:=h.at_ k g e;⟨t,r,ys,a,S _ _ b,S _ _ c,d.imp λ_ _ z=>S _ _ z⟩⟩
theorem sI.snoc{ns:Β}{H:Hp}{zs ys:Μ}{gs:List Dr}{t r:Addr}{g:Dr}(h:sI ns H zs gs)(ht:H t=some (.tup [.str g.nm,.ref g.p,.ref r]))(hr:H r=some (.lst ys))(hn:NWs ns H ys g.ws):sI ns H (zs++[.ref t]) (gs++[g]):=by
 refine⟨by rw[aA,aA,h.len];rfl,λk g' e=>?_⟩;by_cases hk:k<gs.length
 .rw[aD hk]at e;obtain⟨t',r',ys',a,b⟩:=h.at_ k g' e;exact⟨t',r',ys',by rw[aD (by rw[h.len];exact hk)];exact a,b⟩
 .rw[aC (Nat.le_of_not_lt hk)]at e;have e0:k-gs.length=0:=by
   have:=(ao.mp e).1;simp at this;omega
  rw[e0]at e;cases e;refine⟨t,r,ys,?_,ht,hr,hn⟩;rw[aC (by rw[h.len];exact Nat.le_of_not_lt hk),h.len,e0];rfl
noncomputable def Hw(ns:Β):List (Key×V):=ns.map λn=>(.inr n,.bl true)
theorem acR{n:Str}{ns:Β}(h:n∉ns):sE (Hw ns) (.inr n)=none:=by
 unfold sE;rw[List.find?_eq_none.mpr]
 .rfl
 .intro kv hk z;unfold Hw at hk;obtain⟨m,hm,rfl⟩:=YV.mp hk;have z:(Sum.inr m:Key)=.inr n:=of_decide_eq_true z;injection z with z;exact h (z ▸ hm)
theorem Zo{n:Str}{ns:Β}(h:n∉ns):putK (Hw ns) (.inr n) (.bl true)=Hw (ns++[n]):=by
 have a:((Hw ns).any λkv=>decide (kv.1=.inr n))=false:=by
  rw[List.any_eq_false];intro kv hk z;unfold Hw at hk;obtain⟨m,hm,rfl⟩:=YV.mp hk;have z:(Sum.inr m:Key)=.inr n:=of_decide_eq_true z;injection z with z;exact h (z ▸ hm)
 unfold putK;rw[a,ZZ (by decide)];unfold Hw;rw[bA];rfl
def WL(H:Hp)(as:Ε):Prop:=∀a∈as,∃u,H a=some u/\∀ys,u≠.tup ys
def qF(D:Adr):Sp:=λvs H Q _=>∃(l n:Addr)(xs:Μ)(gs:List Dr)(ns:Β),vs=[.ref l,.ref n]/\H l=some (.lst xs)/\zN D H xs gs/\gs.length<=100/\(gs.map (·.nm)).Nodup/\H n=some (.dK (Em ns))/\ns.Nodup/\(∀g∈gs,∀z∈g.ws,z.1∈ns) /\
 ∀r H' zs,Same H H'->H r=none->H' r=some (.lst zs)->(∀as,WL H as->sI ns (del as H') zs gs)->Q (.ref r) H'
def oJ(l n d r:Addr)(ns:Β)(gs:List Dr)(H:Hp)(k:Nat)(σ:L2.St)(H':Hp):Prop:=∃u zs,σ=[some (.ref l),some (.ref n),some (.ref d),some (.ref r),u]/\Same H H'/\H' d=some (.dK (Hw ((gs.take k).map (·.nm))))/\H' r=some (.lst zs)/\∀as,WL H as->sI ns (del (d::r::as) H') zs (gs.take k)
theorem O_(F:Fun K nY nY yE f fd)(T:Txt K mg D)(qj:OkF P w K mg base 2 iT iQ (kZ D)):cF P w K mg base CX0 3 f fd oG (qF D):=by
 refine F.ok qJ ?_ ?_
 .rintro _ _ _ _ ⟨l,n,xs,gs,ns,rfl,_⟩;rfl
 .rintro cdv A outer s H _ Q E hr ⟨l,n,xs,gs,ns,rfl,hl,dr,n100,ndg,hn,nd,hin,q⟩;refine⟨_,(bL (cj (i:=2) qJ.nd rfl (Or.inl rfl) Hi)
   (bL (cj (i:=3) qJ.nd rfl (Or.inl rfl) (o9 bF))
   (bL (iR PassesOwn.never rfl (cZ ((pv 0)).mono) (cM (i:=4) qJ.nd rfl (Or.inl rfl))
    (bL (cW (Tv (aaH (zF hr) (su (pv 4) rfl) (pv 2)))
     (bM oH)
     cA)
    (bL (Pg (zF hr) (pv 2) (su (pv 4) rfl) fU rfl)
    (bM (dD (rH (pv 3) (bD (mO (bD (su (pv 4) rfl) (bD (su (pv 4) rfl) (bD (bO qj hr.md (by rfl) (bD (pv 4) (bD (pv 1) bF))) bF)))) bF)))))))
   (bM (cg (pv 3)))))),?_⟩
  unfold kZ
  walk_at "rd"
  refine λd hd=>⟨by decide,λr hrn=>gC ?_⟩
  walk_at "rd"
  have dr0:d≠r:=bH bI hrn;have hrn':H r=none:=(bK dr0.symm).symm.trans hrn;have st:Same H (upd (upd H d (.dK [])) r (.lst [])):=λb o e=>(bK (bH e hrn')).trans ((bK (bH e hd)).trans e);refine⟨xs,st _ _ hl,oJ l n d r ns gs H,⟨none,[],rfl,st,(bK dr0).trans bI,bI,λas _=>⟨rfl,λk g e=>by simp at e⟩⟩,?_,?_⟩
  .rintro k x σ' H' hk ⟨u,zs,rfl,S1,h1,h2,of_⟩ hx;have lk:k<gs.length:=by rw[<- dr.len];exact(ao.mp hk).1
   have e:gs[k]?=some gs[k]:=aj lk;have hm:=hin _ (aV lk);obtain⟨t,a,b⟩:=dr.at_ k _ e;rw[hk]at a;cases a;have no:gs[k].nm∉(gs.take k).map (·.nm):=by
    rw[List.map_take];exact Jh ndg (by rw[aq,e];rfl)
   generalize gs[k]=g at *;obtain⟨C,dx,ll,ys,hC,hs,hll,hw,w100⟩:=b.same S1
   walk_at "rd"
   refine⟨C,dx,_,hs,T.cl C hC.fam,T.Gk C hC.fam,_,rfl,_,yI.k (k:=.inr g.nm) h1,?_⟩;rw[acR no,ZZ (by decide)];have hlen:(Hw ((gs.take k).map (·.nm))).length<sizeLine:=by
    have h9:101<sizeLine:=by decide
    unfold Hw;rw[ak,ak,bh];lia
   have up:∀{b o},b≠d->H' b=some o->upd H' d (.dK (putK (Hw ((gs.take k).map (·.nm))) (.inr g.nm) (.bl true))) b=some o:=λ{b o}h e=>(bK h).trans e;have td:t≠d:=i_ hs h1 (by intro z;cases z);have ld:ll≠d:=i_ hll h1 (by intro z;cases z);have nd_:n≠d:=bH hn hd;refine⟨C,dx,_,hs,T.cl C hC.fam,T.Gk C hC.fam,_,rfl,_,Uj.k (k:=.inr g.nm) h1 hlen,⟨zs,up dr0.symm h2⟩,C,dx,_,up td hs,T.cl C hC.fam,T.Gk C hC.fam,_,rfl,C,dx,_,up td hs,T.cl C hC.fam,T.abk C hC.fam,_,rfl,C,hC,dx,g.p,ll,⟨g.nm,up td hs⟩,ys,up ld hll,g.ws,⟨hw.len,λk g e=>let⟨t,a,b⟩:=hw.at_ k g e;⟨t,a,up (i_ b h1 (by intro z;cases z)) b⟩⟩,w100,ns,up nd_ (S1 _ _ hn),nd,hm,?_⟩;intro r3 H3 z3 S3 f3 e3 w3;refine⟨by decide,λp hp=>?_⟩;have lr:l≠r:=bH hl hrn';have ld0:l≠d:=bH hl hd;have a1:=S3 _ _ (up dr0.symm h2);have a2:=S3 d _ bI;have rp:r≠p:=bH a1 hp;have dp:d≠p:=bH a2 hp;have a3:=S3 _ _ (up ld0 hx);have zl:zs.length<sizeLine:=by
    have h9:101<sizeLine:=by decide
    rw[(of_ [] (by intro a ha;cases ha)).len,bh];lia
   have r3p:r3≠p:=bH e3 hp;refine⟨zs,(bK rp).trans a1,zl,(bK lr).trans ((bK (bH a3 hp)).trans a3),_,_,rfl,λb o e'=>?_,?_,bI,?_⟩
   .have c:=S3 _ _ (up (bH e' hd) (S1 _ _ e'));rw[bK (bH e' hrn'),bK (bH c hp)];exact c
   .rw[bK dr0,bK dp,a2,Zo no,cB e,bA];rfl
   .intro as has;have r3n:r3∉d::r::as:=by
     simp only[YU,not_or];refine⟨λz=>(by rw[z,bI]at f3;cases f3),λz=>(by rw[z,up dr0.symm h2]at f3;cases f3),λz=>?_⟩;obtain⟨u,hu,_⟩:=has _ z;rw[up (bH hu hd) (S1 _ _ hu)]at f3;cases f3
    have asp:∀a∈as,∃u,H3 a=some u/\∀ys,u≠.tup ys:=λa ha=>let⟨u,hu,n⟩:=has a ha;⟨u,S3 _ _ (up (bH hu hd) (S1 _ _ hu)),n⟩;have pn:p∉d::r::as:=by
     simp only[YU,not_or];exact⟨dp.symm,rp.symm,λz=>let⟨u,hu,_⟩:=asp _ z;bH hu hp rfl⟩
    have u2:∀{b o},b∉d::r::as->(upd H3 p (.tup [.str g.nm,.ref g.p,.ref r3])) b=some o->del (d::r::as) (upd (upd H3 p (.tup [.str g.nm,.ref g.p,.ref r3])) r (.lst (zs++[.ref p]))) b=some o:=λ{b o}h e=>gK h ((bK (by simp only[YU,not_or]at h;exact h.2.1)).trans e);rw[cB e];refine((of_ as has).same λb o e'=>?_).snoc (u2 pn bI) (u2 r3n ((bK r3p).trans e3)) (w3.imp λt ys e'=>?_)
    .obtain⟨b1,b2⟩:=tU e';have c:=S3 _ _ (up (by simp only[YU,not_or]at b1;exact b1.1) b2);exact u2 b1 ((bK (bH c hp)).trans c)
    .refine u2 ?_ ((bK (bH e' hp)).trans e');simp only[YU,not_or];exact⟨i_ e' a2 (by intro z;cases z),i_ e' a1 (by intro z;cases z),λz=>let⟨u,hu,n⟩:=asp _ z;n _ (Option.some.inj (hu.symm.trans e'))⟩
  .rintro σ' H' ⟨u,zs,rfl,S1,h1,h2,of_⟩ hx;rw[dr.len,aP]at of_
   walk_at "rd"
   exact q r H' zs S1 hrn' h2 λas has=>(of_ as has).same λb o e=>let⟨a,c⟩:=tU e;gK (λz=>a (aH _ (aH _ z))) c
structure pB(D:Adr)(H:Hp)(xs:Μ)(rms:List (Str×List Dr)):Prop where
 len:xs.length=rms.length
 at_:∀(k:Nat)(g:Str×List Dr),rms[k]?=some g->∃t l ys,xs[k]?=some (.ref t)/\H t=some (.tup [.str g.1,.ref l])/\H l=some (.lst ys)/\zN D H ys g.2
theorem pB.rooms{H:Hp}{xs:Μ}{rms:List (Str×List Dr)}(h:pB D H xs rms):V8 H xs (rms.map (·.1)):=⟨by rw[h.len,ak],λk n e=>by
 rw[aq]at e;cases e0:rms[k]? with
 |none=>rw[e0]at e;cases e
 |some g =>
  rw[e0]at e;cases e;obtain⟨t,l,ys,a,b,_⟩:=h.at_ k g e0;exact⟨t,_,a,b⟩⟩
theorem pB.same{H H':Hp}{xs:Μ}{rms:List (Str×List Dr)}(S:Same H H')(h:pB D H xs rms):pB D H' xs rms:=⟨h.len,λk g e=>let⟨t,l,ys,a,b,c,d⟩:=h.at_ k g e;⟨t,l,ys,a,S _ _ b,S _ _ c,d.same S⟩⟩
structure xW(ns:Β)(H:Hp)(zs:Μ)(gss:List (List Dr)):Prop where
 len:zs.length=gss.length
 at_:∀(k:Nat)(gs:List Dr),gss[k]?=some gs->∃l ys,zs[k]?=some (.ref l)/\H l=some (.lst ys)/\sI ns H ys gs
theorem xW.same{ns:Β}{H H':Hp}{zs:Μ}{gss:List (List Dr)}(S:Same H H')(h:xW ns H zs gss):xW ns H' zs gss:=⟨h.len,λk g e=>let⟨l,ys,a,b,c⟩:=h.at_ k g e;⟨l,ys,a,S _ _ b,c.same S⟩⟩
theorem xW.snoc{ns:Β}{H:Hp}{zs ys:Μ}{gss:List (List Dr)}{l:Addr}{gs:List Dr}(h:xW ns H zs gss)(hl:H l=some (.lst ys))(ho:sI ns H ys gs):xW ns H (zs++[.ref l]) (gss++[gs]):=by
 refine⟨by rw[aA,aA,h.len];rfl,λk g' e=>?_⟩;by_cases hk:k<gss.length
 .rw[aD hk]at e;obtain⟨l',ys',a,b⟩:=h.at_ k g' e;exact⟨l',ys',by rw[aD (by rw[h.len];exact hk)];exact a,b⟩
 .rw[aC (Nat.le_of_not_lt hk)]at e;have e0:k-gss.length=0:=by
   have:=(ao.mp e).1;simp at this;omega
  rw[e0]at e;cases e;refine⟨l,ys,?_,hl,ho⟩;rw[aC (by rw[h.len];exact Nat.le_of_not_lt hk),h.len,e0];rfl
theorem Ed{H:Hp}{o b C0 dx0:Addr}{u:HO}(ho:H o=some (.ins C0 dx0 []))(e:H b=some u)(n:u≠.ins C0 dx0 []):del [o] H b=some u:=gK (by simp only[YR];exact i_ e ho n) e
theorem pB.off{H:Hp}{o C0 dx0:Addr}{xs:Μ}{rms:List (Str×List Dr)}(ho:H o=some (.ins C0 dx0 []))(h:pB D H xs rms):pB D (del [o] H) xs rms:=⟨h.len,λk g e=>by
 obtain⟨t,l,ys,a,b,c,d⟩:=h.at_ k g e;refine⟨t,l,ys,a,Ed ho b (by intro z;cases z),Ed ho c (by intro z;cases z),d.len,λk g e=>?_⟩;obtain⟨s,a,C,dx,l,xs,h1,h2,h3,h4,h5⟩:=d.at_ k g e;exact⟨s,a,C,dx,l,xs,h1,Ed ho h2 (by intro z;injection z with _ _ z;cases z),Ed ho h3 (by intro z;cases z),⟨h4.len,λk g e=>let⟨t,a,b⟩:=h4.at_ k g e;⟨t,a,Ed ho b (by intro z;cases z)⟩⟩,h5⟩⟩
structure Wm(rms:List (Str×List Dr)):Prop where
 len:rms.length<=20
 nd:(rms.map (·.1)).Nodup
 wd:∀g∈rms,Wd g.1
 few:∀g∈rms,g.2.length<=100
 dn:∀g∈rms,(g.2.map (·.nm)).Nodup
 to_:∀g∈rms,∀d∈g.2,∀z∈d.ws,z.1∈rms.map (·.1)
def pG(D:Adr)(H:Hp)(a p:Addr)(rms:List (Str×List Dr)):Prop:=∃dx n l zs,H a=some (.ins D.Hall dx [("share",.ref p),("numbers",.ref n),("offered",.ref l)])/\H n=some (.dK (Em (rms.map (·.1))))/\H l=some (.lst zs)/\xW (rms.map (·.1)) H zs (rms.map (·.2))
theorem pG.same{H H':Hp}{a p:Addr}{rms:List (Str×List Dr)}(S:Same H H')(h:pG D H a p rms):pG D H' a p rms:=by obtain⟨dx,n,l,zs,b,c,d,e⟩:=h;exact⟨dx,n,l,zs,S _ _ b,S _ _ c,S _ _ d,e.same S⟩
inductive yx(K:Frag)(D:Adr)(vs:Μ)(H:Hp)(Q:VK):Prop
 |mk (o dx p l:Addr) (x y:Int) (xs:Μ) (rms:List (Str×List Dr)) (h0:vs=[.ref o,.ref p,.ref l]) (h1:H o=some (.ins D.Hall dx [])) (h2:Fk K H p x y) (h3:0<=x) (h4:x<y) (h5:Bd x) (h6:Bd y) (h7:H l=some (.lst xs)) (h8:pB D H xs rms) (h9:Wm rms) (h10:∀H',Keep o H H'->pG D H' o p rms->Q .non H'):yx K D vs H Q
def vD(K:Frag)(D:Adr):Sp:=λvs H Q _=>yx K D vs H Q
def hJ(o D1:Addr)(rms:List (Str×List Dr))(H:Hp)(k:Nat)(zs:Μ)(H':Hp):Prop:=Same H H'/\H' D1=some (.lst zs)/\xW (rms.map (·.1)) (del [o,D1] H') zs ((rms.take k).map (·.2))
theorem Oi(F:Fun K Dd Cz sO f fd)(T:Txt K mg D)(tG:OkF P w K mg base 3 jY jT (n_ (K:=K)))(vM:OkF P w K mg base 2 lW lG pK)(wN:OkF P w K mg base 3 nY oG (qF D)):cF P w K mg base CX0 4 f fd oO (vD K D):=by
 refine F.ok Ql ?_ ?_
 .rintro _ _ _ _ ⟨o,dx,p,l,x,y,xs,rms,rfl,_⟩;rfl
 .rintro cdv A outer s H _ Q E hr ⟨o,dx,p,l,x,y,xs,rms,rfl,ho,fk,x0,xy,bx,b_y,hl,hR,ok,q⟩;refine⟨_,(bL (dD (bO tG hr.md (by rfl) (bD (pv 1) bF)))
   (bL (yN (pv 0) (pv 1) rfl)
   (bL (yN (pv 0) (bO vM hr.md (by rfl) (bD (pv 2) bF)) rfl)
   (bM (yN (pv 0) (iY (bN sO) yK yK ["room"] (cZ ((pv 2)).mono) (d7 (i:=0)) dz (bO wN hr.md (by rfl) (bD (bQ cQ (pv 0) bG (λ_ _=>rfl)) (bD (adX (K':=K) rfl (pv 1) rfl) bF)))) rfl))))),?_⟩
  unfold n_ pK qF
  walk_at "rd"
  have hR0:=hR.off ho;have hl0:del [o] H l=some (.lst xs):=Ed ho hl (by intro z;cases z);have S1:∀u,Same (del [o] H) (upd H o u):=λu b v e=>by
   obtain⟨b1,b2⟩:=tU e;exact(bK (by simpa using b1)).trans b2
  have cl:=T.rK;refine⟨x,y,fk,x0,xy,bx,b_y,D.Hall,dx,[],ho,cl,T.pU,(by show 0<1000;decide),xs,S1 _ _ _ hl0,_,(hR0.same (S1 _)).rooms,ok.nd,λg hg=>?_,by rw[ak];exact ok.len,λd H2 S2 f2 e2=>?_⟩
  .obtain⟨g',hg',rfl⟩:=YV.mp hg;exact ok.wd g' hg'
  have od:d≠o:=λz=>by rw[z,bI]at f2;cases f2
  refine⟨D.Hall,dx,_,S2 _ _ bI,cl,T.qt,(by show 1<1000;decide),dM ?_⟩;have S3:∀u,Same (del [o] H) (upd H2 o u):=λu b v e=>(bK (by have:=(tU e).1;simpa using this)).trans (S2 _ _ (S1 _ _ _ e))
  walk_at "rd"
  have hz9:21<sizeLine:=by decide
  have n20:=ok.len;refine⟨xs,S3 _ _ _ hl0,by rw[hR.len];exact aM n20 (by decide),λD1 hD1=>?_⟩;have eo:upd H2 o (.ins D.Hall dx (nM "numbers" (.ref d) (nM "share" (.ref p) []))) o=some (.ins D.Hall dx [("share",.ref p),("numbers",.ref d)]):=bI;have ed:upd H2 o (.ins D.Hall dx (nM "numbers" (.ref d) (nM "share" (.ref p) []))) d=some (.dK (Em (rms.map (·.1)))):=(bK od).trans e2;have S4:=S3 (.ins D.Hall dx (nM "numbers" (.ref d) (nM "share" (.ref p) [])));generalize upd H2 o (.ins D.Hall dx (nM "numbers" (.ref d) (nM "share" (.ref p) [])))=H3 at eo ed S4 hD1 ⊢;have oD:o≠D1:=bH eo hD1;refine⟨hJ o D1 rms H3,⟨Same.upd hD1,bI,rfl,λk g e=>by simp at e⟩,?_,?_⟩
  .rintro k x1 ys Hc hk ⟨S5,h5,of_⟩ hy hlc;have lk:k<rms.length:=by rw[<- hR.len];exact(ao.mp hk).1
   have e:rms[k]?=some rms[k]:=aj lk;have hm:=aV lk;obtain⟨t,ll,ds,a,b,c,dd⟩:=(hR0.same (S4.trans S5)).at_ k _ e;rw[hk]at a;cases a;generalize rms[k]=g at *;refine⟨t,rfl,_,b,_,cR,D.Hall,dx,_,S5 _ _ eo,cl,T.qt,_,rfl,ll,rfl,d,rfl,ds,c,g.2,dd,ok.few g hm,ok.dn g hm,_,S5 _ _ ed,ok.nd,ok.to_ g hm,?_⟩;intro r H4 zs S6 f6 e6 o6;have h4:=S6 _ _ h5;have ho4:=S6 _ _ (S5 _ _ eo);refine⟨h4,S6 _ _ hlc,λb v e'=>?_,bI,?_⟩
   .exact(bK (bH e' hD1)).trans (S6 _ _ (S5 _ _ e'))
   .have ee:del [o,D1] (upd H4 D1 (.lst (ys++[.ref r])))=del [o,D1] H4:=by
     funext b
     unfold del;split
     .rfl
     .rename_i hb
      exact bK (by simp at hb;exact hb.2)
    rw[ee,cB e,bA];refine(of_.same (lM λb v _ e'=>S6 _ _ e')).snoc (gK ?_ e6) (o6 [o,D1] ?_)
    .simp only[YU,List.not_mem_nil,or_false,not_or];exact⟨λz=>(by rw[z,S5 _ _ eo]at f6;cases f6),λz=>(by rw[z,h5]at f6;cases f6)⟩
    .intro a ha;simp only[YU,List.not_mem_nil,or_false]at ha;rcases ha with rfl|rfl
     .exact⟨_,S5 _ _ eo,by intro ys z;cases z⟩
     .exact⟨_,h5,by intro ys z;cases z⟩
  .rintro ys Hc ⟨S5,h5,of_⟩ hy;rw[hR.len,aP]at of_;refine⟨D.Hall,dx,_,S5 _ _ eo,cl,T.vQ,(by show 2<1000;decide),q _ (λb v nb e=>?_) ⟨dx,d,D1,ys,bI,(bK (λz=>od (by rw[z]))).trans (S5 _ _ ed),(bK oD.symm).trans h5,of_.same λb v e=>?_⟩⟩
   .exact(bK nb).trans (S5 _ _ (S4 _ _ (gK (by simpa using nb) e)))
   .obtain⟨b1,b2⟩:=tU e;exact(bK (by simp at b1;exact b1.1)).trans b2
def fY(D:Adr):Sp:=λvs H Q _=>∃(o p:Addr)(rms:List (Str×List Dr)),vs=[.ref o]/\pG D H o p rms/\Q (.int rms.length) H
theorem Bt(F:Fun K Dh Ba yQ f fd)(T:Txt K mg D):cF P w K mg base CX0 1 f fd fu (fY D):=by
 refine F.ok Oj ?_ ?_
 .rintro _ _ _ _ ⟨o,p,rms,rfl,_⟩;rfl
 .rintro cdv A outer s H _ Q E hr ⟨o,p,rms,rfl,⟨dx,n,l,zs,ho,hn,hl,of_⟩,q⟩;refine⟨_,(bM (cg (b_ Ma (by rfl) T.iH PySem.boot_len (bD (su (pv 0) rfl) bF)))),?_⟩
  walk_at "rd"
  refine⟨D.Hall,dx,_,ho,T.rK,T.qt,_,rfl,n,_,rfl,hn,?_⟩;rw[Iw,ak];exact q
def mq(D:Adr):Sp:=λvs H Q _=>∃(o p:Addr)(k:Nat)(rms:List (Str×List Dr)),vs=[.ref o,.int k]/\pG D H o p rms/\k<rms.length/\Q .non H
theorem rG(F:Fun K rR qU oK f fd)(T:Txt K mg D)(cX:OkF P w K mg base 1 fH fD g_)(dj:OkI P w K mg base CX0 1 D.Hall_size fu (fY D)): cF P w K mg base CX0 2 f fd eX (mq D):=by
 refine F.ok zX ?_ ?_
 .rintro _ _ _ _ ⟨o,p,k,rms,rfl,_⟩;rfl
 .rintro cdv A outer s H _ Q E hr ⟨o,p,k,rms,rfl,hh,lk,q⟩;refine⟨_,(bM (cW (PW.pt (pw_or (dh (cV (bO cX hr.md (by rfl) (bD (pv 1) bF)) (λ_=>rfl))) (pw_or1 (dh (BZ zT zL bG (pv 1) (PE.any λC(hC:dI D C)=>(qN (pv 0) (T.cl C hC.fam) (T.oA C hC) dj hr.md)))))))
    (bM oH)
    cA)),?_⟩
  unfold g_ fY
  walk_at "rd"
  obtain⟨dx,n,l,zs,ho,hn,hl,of_⟩:=hh;rw[ZY (by simp)];refine⟨D.Hall,(by unfold dI;simp),dx,_,ho,rfl,p,rms,⟨dx,n,l,zs,ho,hn,hl,of_⟩,?_⟩;rw[ZZ (by simp;omega)];exact q
def fJ(D1:Addr)(ns:Β)(gs:List Dr)(H:Hp)(k:Nat)(zs:Μ)(H':Hp):Prop:=Same H H'/\H' D1=some (.lst zs)/\∀as,WL H as->sI ns (del (D1::as) H') zs (gs.take k)
def gB(D:Adr):Sp:=λvs H Q _=>∃(o p:Addr)(k:Nat)(rms:List (Str×List Dr))(g:Str×List Dr),vs=[.ref o,.int k]/\pG D H o p rms/\rms[k]?=some g/\g.2.length<=100/\(∀d∈g.2,d.ws.length<=100) /\
 ∀r H' zs,Same H H'->H r=none->H' r=some (.lst zs)->(∀as,WL H as->sI (rms.map (·.1)) (del as H') zs g.2)->Q (.ref r) H'
theorem xX(F:Fun K w5 wQ pQ f fd)(T:Txt K mg D)(gZ:OkI P w K mg base CX0 2 D.Hall_check_room eX (mq D)): cF P w K mg base CX0 3 f fd d_ (gB D):=by
 refine F.ok Hj ?_ ?_
 .rintro _ _ _ _ ⟨o,p,k,rms,g,rfl,_⟩;rfl
 .rintro cdv A outer s H _ Q E hr ⟨o,p,k,rms,g,rfl,hh,hg,g100,w100,q⟩;refine⟨_,(bL (dD (PE.any λC(hC:eY D C)=>(xr (pv 0) (T.cl C hC.fam) (T.z8 C hC) gZ hr.md (bD (pv 1) bF))))
   (bM (cg (iY (bN pQ) tH tH ["name","pay","numbered"] (cZ ((bQ bY (su (pv 0) rfl) (pv 1) (λ_ _=>rfl))).mono) (fV (n:=3) rfl (cD (d7 (i:=0)) (cD (d7 (i:=1)) (cD (d7 (i:=2)) fL)))) dz (mO (bD (pv 0) (bD (pv 1) (bD (qO HY (by rfl) T.DY boot_list (bD (pv 2) bF)) bF)))))))),?_⟩
  unfold mq
  walk_at "rd"
  obtain⟨dx,n,l,zs,ho,hn,hl,of_⟩:=hh;have lk:=(ao.mp hg).1;refine⟨D.Hall,(by unfold eY;simp),dx,_,ho,rfl,p,k,rfl,rms,⟨dx,n,l,zs,ho,hn,hl,of_⟩,lk,sV ?_⟩;obtain⟨ll,ys,a,b,c⟩:=of_.at_ k g.2 (by rw[aq,hg];rfl);have z9:101<sizeLine:=by decide
  walk_at "rd"
  refine⟨D.Hall,dx,_,ho,T.rK,T.vQ,_,rfl,l,rfl,zs,hl,_,cu a,ll,rfl,ys,b,by rw[c.len];exact aM g100 (by decide),λD1 hD=>?_⟩;refine⟨fJ D1 (rms.map (·.1)) g.2 H,⟨Same.upd hD,bI,λas _=>⟨rfl,λk g e=>by simp at e⟩⟩,?_,?_⟩
  .rintro i x1 zs1 Hc hi ⟨S5,h5,o5⟩ hy hlc pre hpre;have li:i<g.2.length:=by rw[<- c.len];exact(ao.mp hi).1
   have e:g.2[i]?=some g.2[i]:=aj li;have hm:=w100 _ (aV li);obtain⟨t,r,ws,ea,eb,ec,ed⟩:=(c.same S5).at_ i _ e;rw[hi]at ea;cases ea;generalize g.2[i]=d at *;obtain⟨u1,u2,u3,rfl⟩ : ∃a b c,pre=[a,b,c]:=by
    match pre,hpre with
    |[a,b,c],_=>exact⟨a,b,c,rfl⟩
   walk_at "rd"
   refine⟨_,eb,rfl,_,_,rfl,_,_,rfl,_,_,rfl,rfl,[_,_,_],rfl,rfl,?_⟩;refine⟨r,rfl,ws,ec,λl1 hl1=>⟨by decide,λp1 hp1=>?_⟩⟩;have lp:l1≠p1:=bH bI hp1;have hp1':Hc p1=none:=(bK lp.symm).symm.trans hp1;have S6:Same Hc (upd (upd Hc l1 (.lst ws)) p1 (.tup [.str d.nm,.ref d.p,.ref l1])):=(Same.upd hl1).trans (Same.upd hp1);have e6:upd (upd Hc l1 (.lst ws)) p1 (.tup [.str d.nm,.ref d.p,.ref l1]) l1=some (.lst ws):=(bK lp).trans bI;have e7:upd (upd Hc l1 (.lst ws)) p1 (.tup [.str d.nm,.ref d.p,.ref l1]) p1=some (.tup [.str d.nm,.ref d.p,.ref l1]):=bI;generalize upd (upd Hc l1 (.lst ws)) p1 (.tup [.str d.nm,.ref d.p,.ref l1])=H7 at S6 e6 e7 ⊢;refine⟨S6 _ _ h5,S6 _ _ hlc,λb v e'=>(bK (bH e' hD)).trans (S6 _ _ (S5 _ _ e')),bI,λas has=>?_⟩;have nin:∀{b},Hc b=none->b∉D1::as:=λ{b}hb=>by
    simp only[YU,not_or];exact⟨λz=>(by rw[z,h5]at hb;cases hb),λz=>let⟨u,hu,_⟩:=has _ z;bH (S5 _ _ hu) hb rfl⟩
   have u2:∀{b o},b∉D1::as->H7 b=some o->del (D1::as) (upd H7 D1 (.lst (zs1++[.ref p1]))) b=some o:=λ{b o}h e=>gK h ((bK (by simp only[YU,not_or]at h;exact h.1)).trans e);rw[cB e];refine((o5 as has).same λb v e'=>?_).snoc (u2 (nin hp1') e7) (u2 (nin hl1) e6) (ed.imp λt us e'=>u2 ?_ (S6 _ _ e'))
   .obtain⟨b1,b2⟩:=tU e';exact u2 b1 (S6 _ _ b2)
   .simp only[YU,not_or];exact⟨i_ e' h5 (by intro z;cases z),λz=>let⟨u,hu,n⟩:=has _ z;n _ (Option.some.inj ((S5 _ _ hu).symm.trans e'))⟩
  .rintro zs1 Hc ⟨S5,h5,o5⟩ _;rw[c.len,aP]at o5;exact q D1 Hc zs1 S5 hD h5 λas has=>(o5 as has).same λb o e=>let⟨a,c⟩:=tU e;gK (λz=>a (aH _ z)) c
theorem YZ{H H':Hp}(S:Same H H'){v:V}{t:String}(h:tyS H v=some t):tyS H' v=some t:=by
 cases v with
 |ref a =>
  have h:(match H a with
   |some (.lst _)=>some "list"
   |some (.tup _)=>some "tuple"
   |some (.dK _)=>some "dict"
   |_=>none)=some t:=h
  show(match H' a with
   |some (.lst _)=>some "list"
   |some (.tup _)=>some "tuple"
   |some (.dK _)=>some "dict"
   |_=>none)=some t
  split at h
  .rename_i e;rw[S a _ e];exact h
  .rename_i e;rw[S a _ e];exact h
  .rename_i e;rw[S a _ e];exact h
  .cases h
 |_=>exact h
def Odd(H:Hp)(v:V):Prop:=∃t,tyS H v=some t
theorem Odd.same{H H':Hp}{v:V}(h:Odd H v)(S:Same H H'):Odd H' v:=h.imp λ_ z=>YZ S z
theorem U3{H:Hp}{v:V}{t:String}(h:tyS H v=some t)(n:∀k,v≠.int k):(t=="int")=false:=by
 cases v with
 |int k=>exact absurd rfl (n k)
 |ref a =>
  unfold tyS at h;dsimp only at h;split at h<;>cases h<;>rfl
 |_=>cases h<;>rfl
structure UJ(rms:List (Str×List Dr)):Prop where
 len:rms.length<=20
 few:∀g∈rms,g.2.length<=100
 ways:∀g∈rms,∀d∈g.2,d.ws.length<=100
noncomputable def Ot(v:V)(m:Nat):Bool:=if m=0 then decide (v=.non)else match v with
 |.int i=>decide (0<=i)&&decide (i<m)
 |_=>false
def Ox:Sp:=λvs H Q _=>∃(v:V)(m:Nat),vs=[v,.int m]/\Odd H v/\Q (.bl (Ot v m)) H
theorem acy(F:Fun K Ao Ao Vp f fd)(T:Txt K mg D)(cX:OkF P w K mg base 1 fH fD g_):cF P w K mg base CX0 2 f fd Cp Ox:=by
 refine F.ok adq ?_ ?_
 .rintro _ _ _ _ ⟨v,m,rfl,_⟩;rfl
 .rintro cdv A outer s H _ Q E hr ⟨v,m,rfl,⟨t,ot⟩,q⟩;refine⟨_,(bL (cW (cI mZ (pv 1) bG (cJ _))
    (bM (cg (oE xO (pv 0) mX (cJ _))))
    cA)
   (bM (cg (Ds (bO cX hr.md (by rfl) (bD (pv 0) bF)) (Ir (QF zT zL bG (pv 0) (pv 1))))))),?_⟩
  unfold Ot at q;refine bV λR1 hR1=>?_;refine cT ⟨_,rfl,rfl,decide (m=0),ZH V.bl (decide_eq_decide.mpr ?_),?_⟩
  .constructor
   .intro z;injection z with z;lia
   .intro z;rw[z];rfl
  by_cases m0:m=0
  .rw[ZY m0]at q;rw[Zs m0];exact⟨_,rfl,rfl,q⟩
  .rw[ZZ m0]at q;rw[Zp m0];show R1 _ _ _;subst hR1;refine dX ⟨_,rfl,v,t,rfl,ot,_,rfl,?_⟩;by_cases iv:∃k,v=.int k
   .obtain⟨k,rfl⟩:=iv;cases ot;rw[ZY (by decide)];have q:Q (V.bl (decide (0<=k)&&decide (k<m))) H:=q;refine⟨_,rfl,0,k,rfl,rfl,decide (0<=k),rfl,?_⟩;by_cases k0:0<=k
    .rw[Zs k0]at q ⊢;exact⟨_,rfl,_,_,rfl,rfl,q⟩
    .rw[Zp k0]at q ⊢;exact q
   .rw[U3 ot λk z=>iv ⟨k,z⟩];cases v with
    |int k=>exact absurd ⟨k,rfl⟩ iv
    |_=>exact q
theorem Bp{H:Hp}{a:Addr}{xs:Μ}(h:H a=some (.lst xs)):tyS H (.ref a)=some "list":=by
 unfold tyS;dsimp only;rw[h]
noncomputable def vl(f:Ι):Rat:=(f.1:Rat)/(f.2:Rat)
theorem fM{x:Int}(h:0<x):(x:Rat)≠0:=λz=>by
 have:=Rat.intCast_inj.mp (z.trans Rat.intCast_zero.symm);lia
theorem W7{x y:Ι}(hx:0<x.2)(hy:0<y.2)(h:x.1*y.2=y.1*x.2):vl x=vl y:=by
 have e:(x.1:Rat)*(y.2:Rat)=(y.1:Rat)*(x.2:Rat):=by rw[<- XV,<- XV,h]
 have:=fM hx;have:=fM hy;unfold vl
 grind
theorem QZ{x y:Ι}(hx:0<x.2)(hy:0<y.2)(h:vl x=vl y):x.1*y.2=y.1*x.2:=by
 have h1:=fM hx;have h2:=fM hy;unfold vl at h;refine Rat.intCast_inj.mp ?_;rw[XV,XV]
 grind
theorem Low.vl{t b x y:Int}(h:Low t b x y)(hb:0<b):vl (x,y)=vl (t,b):=W7 h.pos hb h.eq
theorem Aa{x y u v:Int}(hy:0<y)(hv:0<v):vl (x*u,y*v)=vl (x,y)*vl (u,v):=by
 have:=fM hy;have:=fM hv;show((x*u:Int):Rat)/((y*v:Int):Rat)=(x:Rat)/(y:Rat)*((u:Rat)/(v:Rat));rw[XV,XV]
 grind
theorem UW{x y u v:Int}(hy:0<y)(hu:0<u)(hv:0<v):vl (x*v,y*u)=vl (x,y)/vl (u,v):=by
 have:=fM hy;have:=fM hv;have:=fM hu;show((x*v:Int):Rat)/((y*u:Int):Rat)=(x:Rat)/(y:Rat)/((u:Rat)/(v:Rat));rw[XV,XV]
 grind
theorem Dq{x y u v:Int}(hy:0<y)(hv:0<v):vl (x*v+u*y,y*v)=vl (x,y)+vl (u,v):=by
 have:=fM hy;have:=fM hv;show((x*v+u*y:Int):Rat)/((y*v:Int):Rat)=(x:Rat)/(y:Rat)+(u:Rat)/(v:Rat);rw[Rat.intCast_add,XV,XV,XV]
 grind
theorem N_(x:Int):vl (x,1)=(x:Rat):=by
 show(x:Rat)/((1:Int):Rat)=x;rw[Rat.intCast_one]
 grind
def Bn(n:Nat)(x:Int):Prop:=x.natAbs<=10^n
theorem Bn.up{a b:Nat}{x:Int}(h:Bn a x)(l:a<=b):Bn b x:=aM h (XU (by decide) l)
theorem Bn.mul{a b:Nat}{x y:Int}(h:Bn a x)(g:Bn b y):Bn (a+b) (x*y):=by
 unfold Bn;rw[Int.natAbs_mul,Nat.pow_add];exact Nat.mul_le_mul h g
theorem Bn.add{a:Nat}{x y:Int}(h:Bn a x)(g:Bn a y):Bn (a+1) (x+y):=by
 have h:x.natAbs<=10^a:=h;have g:y.natAbs<=10^a:=g;unfold Bn;rw[Nat.pow_succ];omega
theorem Bn.bd{n:Nat}{x:Int}(h:Bn n x)(l:n<=2400):Bd x:=Y2 (h.up l) (by decide +kernel)
theorem Bn.lx{n:Nat}{t b x y:Int}(h:Bn n t)(l:Low t b x y):Bn n x:=aM l.lx h
theorem Bn.ly{n:Nat}{t b x y:Int}(h:Bn n b)(l:Low t b x y):Bn n y:=aM l.ly h
def yt:Sp:=λvs H Q _=>∃(p q:Addr)(x y u v:Int),vs=[.ref p,.ref q]/\H p=some (.tup [.int x,.int y])/\H q=some (.tup [.int u,.int v])/\Bd x/\Bd y/\Bd u/\Bd v/\0<y/\0<v/\Bd (y*v) /\
 ∀r z o H',Same H H'->H r=none->H' r=some (.tup [.int z,.int o])->Low (x*u) (y*v) z o->Q (.ref r) H'
theorem Rx(F:Fun K rA rA M_ f fd)(eE:OkF P w K mg base 2 j8 j7 jr):cF P w K mg base CX0 3 f fd qT yt:=by
 refine F.ok aa0 ?_ ?_
 .rintro _ _ _ _ ⟨p,q,x,y,u,v,rfl,_⟩;rfl
 .rintro cdv A outer s H _ Q E hr ⟨p,q,x,y,u,v,rfl,hp,hq,bx,b_y,bu,bv,y0,v0,byv,k⟩;refine⟨_,(bM (cg (bO eE hr.md (by rfl) (bD (bU cL (bQ cQ (pv 0) bG (λ_ _=>rfl)) (bQ cQ (pv 1) bG (λ_ _=>rfl))) (bD (bU cL (bQ cQ (pv 0) bG (λ_ _=>rfl)) (bQ cQ (pv 1) bG (λ_ _=>rfl))) bF))))),?_⟩;exact dX ⟨_,rfl,p,_,0,_,rfl,rfl,hp,c7,_,rfl,q,_,0,_,rfl,rfl,hq,c7,x,u,rfl,rfl,⟨bx,bu⟩,_,rfl,p,_,1,_,rfl,rfl,hp,cR,_,rfl,q,_,1,_,rfl,rfl,hq,cR,y,v,rfl,rfl,⟨b_y,bv⟩,_,_,rfl,Int.ne_of_gt (Xs y0 v0),byv,λr z o l hr=>k r z o _ (Same.upd hr) hr bI l⟩
def Ax:Sp:=λvs H Q _=>∃(p q:Addr)(x y u v:Int),vs=[.ref p,.ref q]/\H p=some (.tup [.int x,.int y])/\H q=some (.tup [.int u,.int v])/\Bd x/\Bd y/\Bd u/\Bd v/\0<y/\0<u/\Bd (y*u) /\
 ∀r z o H',Same H H'->H r=none->H' r=some (.tup [.int z,.int o])->Low (x*v) (y*u) z o->Q (.ref r) H'
theorem Wy(F:Fun K vp vp Vq f fd)(eE:OkF P w K mg base 2 j8 j7 jr):cF P w K mg base CX0 3 f fd vA Ax:=by
 refine F.ok acG ?_ ?_
 .rintro _ _ _ _ ⟨p,q,x,y,u,v,rfl,_⟩;rfl
 .rintro cdv A outer s H _ Q E hr ⟨p,q,x,y,u,v,rfl,hp,hq,bx,b_y,bu,bv,y0,v0,byv,k⟩;refine⟨_,(bM (cg (bO eE hr.md (by rfl) (bD (bU cL (bQ cQ (pv 0) bG (λ_ _=>rfl)) (bQ cQ (pv 1) bG (λ_ _=>rfl))) (bD (bU cL (bQ cQ (pv 0) bG (λ_ _=>rfl)) (bQ cQ (pv 1) bG (λ_ _=>rfl))) bF))))),?_⟩;exact dX ⟨_,rfl,p,_,0,_,rfl,rfl,hp,c7,_,rfl,q,_,1,_,rfl,rfl,hq,cR,x,v,rfl,rfl,⟨bx,bv⟩,_,rfl,p,_,1,_,rfl,rfl,hp,cR,_,rfl,q,_,0,_,rfl,rfl,hq,c7,y,u,rfl,rfl,⟨b_y,bu⟩,_,_,rfl,Int.ne_of_gt (Xs y0 v0),byv,λr z o l hr=>k r z o _ (Same.upd hr) hr bI l⟩
theorem ael{sp:Sp}{te:TE}{t:TA}{σ:L2.St}{H:Hp}{Q:VK}(h:te σ H λx H1=>t σ H1 λxs H2=>sp (x::xs) H2 Q E0):Dt sp (rW te t) σ H Q:=h
structure Xp(K:Frag)(H:Hp)(t:Addr)(f:Ι)(cs:Θ):Prop where
 ex:∃(nm:Str)(p r:Addr)(ys:Μ),H t=some (.tup [.str nm,.ref p,.ref r])/\H p=some (.tup [.int f.1,.int f.2])/\H r=some (.lst ys)/\ys.length=cs.length/\∀(k:Nat)c,cs[k]?=some c->∃tt a,ys[k]?=some (.ref tt)/\H tt=some (.tup [.int (c.1:Nat),.ref a])/\SqT K H a [.int c.2.1,.int c.2.2]
theorem Xp.same{H H':Hp}{t:Addr}{f:Ι}{cs:Θ}(h:Xp K H t f cs)(S:Same H H'):Xp K H' t f cs:=by
 obtain⟨nm,p,r,ys,a,b,c,d,e⟩:=h.ex;refine⟨nm,p,r,ys,S _ _ a,S _ _ b,S _ _ c,d,λk z ez=>?_⟩;obtain⟨tt,a2,x1,x2,x3⟩:=e k z ez;exact⟨tt,a2,x1,S _ _ x2,S.tup x3⟩
noncomputable def chF(cs:Θ):Ψ:=cs.map (·.2)
def Rp(cs:Θ)(Ts:List Int):Int:=(List.zipWith (λp c=>p*Ts.getD c.1 0) (lvT (chF cs)) cs).sum
def za(K:Frag):Sp:=λvs H Q _=>∃(t T:Addr)(f:Ι)(cs:Θ)(Ts:List Int),vs=[.ref t,.ref T]/\Xp K H t f cs/\H T=some (.lst (Ts.map V.int))/\cs.length<=41/\(∀c∈cs,c.1<Ts.length/\Fq c.2)/\(∀x∈Ts,Bd x) /\
 ∀r z o H',Same H H'->H r=none->H' r=some (.tup [.int z,.int o])->Low (Rp cs Ts) (lvB (chF cs):Nat) z o->Q (.ref r) H'
theorem aaS{α β γ:Type}{g:α->β->γ}{xs:List α}{ys:List β}{k:Nat}{x:α}{y:β}(h1:xs[k]?=some x)(h2:ys[k]?=some y):(List.zipWith g xs ys)[k]?=some (g x y):=by
 rw[List.getElem?_zipWith,h1,h2]
theorem aaA{fs:Ψ}(h:∀f∈fs,Fq f)(hz:fs.length<=41):Bn 1640 (lvB fs:Nat):=by
 have:=abR h hz;rw[<- Nat.pow_mul]at this;unfold Bn;rw[XT];exact this
theorem aeM{fs:Ψ}(h:∀f∈fs,Fq f)(hz:fs.length<=41):∀x∈lvT fs,Bn 1680 x:=λx hx=>by
 obtain⟨f,hf,rfl⟩:=YV.mp hx;have b:Bn 1640 (((lvB fs:Nat):Int)/f.2):=aM (Int.natAbs_ediv_le_natAbs _ _) (aaA h hz);exact Bn.mul (a:=40) (b:=1640) (h f hf).sa b
theorem yq(F:Fun K iK iK lV f fd)(T:Txt K mg D)(oM:OkF P w K mg base 2 gW iJ (t_ K))(eE:OkF P w K mg base 2 j8 j7 jr):cF P w K mg base CX0 3 f fd iU (za K):=by
 refine F.ok wL ?_ ?_
 .rintro _ _ _ _ ⟨t,T,f,cs,Ts,rfl,_⟩;rfl
 .rintro cdv A outer s H _ Q E hr ⟨t,Ta,f,cs,Ts,rfl,of,hT,l41,hc,bT,q⟩;obtain⟨nm,p,r,ys,ht,hp,hr',yl,ya⟩:=of.ex;have z9:100<sizeLine:=by decide
  have cl:(chF cs).length=cs.length:=ak ..;have fq:∀f∈chF cs,Fq f:=λf hf=>by
   obtain⟨c,hc',rfl⟩:=YV.mp hf;exact(hc c hc').2
  refine⟨_,(bL (cj (i:=2) wL.nd rfl (Or.inl rfl) (bO oM hr.md (by rfl) (bD (iY (bN lV) mC mC ["room","chance"] (cZ ((bQ cQ (pv 0) bG (λ_ _=>rfl))).mono) (fV (n:=2) rfl (cD (d7 (i:=0)) (cD (d7 (i:=1)) fL))) dz (pv 1)) bF)))
   (bM (cg (bO eE hr.md (by rfl) (bD (b_ (Dz rfl) (by rfl) T.YC boot_sum (bD (iY (bN lV) mC mC ["part","way"] (DP (by rfl) T.Lz (bD (bQ cQ (pv 2) bG (λ_ _=>rfl)) (bD (bQ cQ (pv 0) bG (λ_ _=>rfl)) bF)).mono) (fV (n:=2) rfl (cD (d7 (i:=0)) (cD (d7 (i:=1)) fL))) dz (bU cL (pv 0) (bQ bY (pv 3) (bQ cQ (pv 1) bG (λ_ _=>rfl)) (λ_ _=>rfl)))) bF)) (bD (bQ cQ (pv 2) bG (λ_ _=>rfl)) bF)))))),?_⟩
  refine bV λR1 hR1=>?_;refine cC (ael (sV ⟨_,rfl,t,_,2,_,rfl,rfl,ht,cu (j:=2) rfl,r,ys,rfl,hr',by lia,λD1 gD=>⟨λk zs Hc=>Same H Hc/\Hc D1=some (.lst zs)/\FLK K H zs ((chF cs).take k),⟨Same.upd gD,bI,.nil⟩,?_,?_⟩⟩))
  .rintro k v zs Hc hk ⟨S1,h1,fl⟩ hz hc' pre hpre;obtain⟨w1,w2,rfl⟩:=Aj hpre;have lk:k<cs.length:=by rw[<- yl];exact(ao.mp hk).1
   have ec:cs[k]?=some cs[k]:=aj lk;obtain⟨tt,a,e1,e2,e3⟩:=ya k _ ec;rw[hk]at e1;cases e1;have en:(chF cs)[k]?=some cs[k].2:=by unfold chF;rw[aq,ec];rfl
   refine⟨tt,_,rfl,S1 _ _ e2,rfl,_,_,rfl,_,_,rfl,rfl,[_,_],rfl,rfl,_,rfl,h1,hc',λb o z=>(bK (bH z gD)).trans (S1 _ _ z),bI,?_⟩;rw[cB en];exact fl.append (.cons e3 .nil)
  rintro zs H1 ⟨S1,h1,fl⟩ hz;rw[yl,<- cl,aP]at fl;refine⟨D1,zs,chF cs,rfl,h1,fl.same S1,fq,by exact aM (Nat.le_of_eq cl) l41,λD2 p2 f2 g2=>?_⟩;have S2:Same H1 (upd (upd H1 D2 (.lst ((lvT (chF cs)).map V.int))) p2 (.tup [.ref D2,.int (lvB (chF cs):Nat)])):=(Same.upd f2).trans (Same.upd g2);have k1:=Same.upd g2 (o:=.tup [.ref D2,.int (lvB (chF cs):Nat)]) _ _ (bI (H:=H1) (a:=D2) (o:=.lst ((lvT (chF cs)).map V.int)));have k2:upd (upd H1 D2 (.lst ((lvT (chF cs)).map V.int))) p2 (.tup [.ref D2,.int (lvB (chF cs):Nat)]) p2=_:=bI;generalize upd (upd H1 D2 (.lst ((lvT (chF cs)).map V.int))) p2 (.tup [.ref D2,.int (lvB (chF cs):Nat)])=H2 at S2 k1 k2 ⊢;have SS:=S1.trans S2;have tl:(lvT (chF cs)).length=cs.length:=by unfold lvT;rw[ak,cl]
  dsimp only[cN,L2.start];subst hR1;refine dX (ael (OD (uL ⟨_,rfl,p2,_,0,_,rfl,rfl,k2,c7,_,rfl,t,_,2,_,rfl,rfl,SS _ _ ht,cu (j:=2) rfl,D2,r,_,ys,rfl,k1,SS _ _ hr',by rw[ak,tl,yl],by rw[ak,tl];exact aM l41 (by decide),λD3 g3=>⟨λk zs Hc=>Same H2 Hc/\Hc D3=some (.lst zs)/\zs=(((List.zipWith (λp c=>p*Ts.getD c.1 0) (lvT (chF cs)) cs).take k).map V.int),⟨Same.upd g3,bI,rfl⟩,?_,?_⟩⟩)))
  .rintro k x y zs Hc t2 hx hy ⟨S3,h3,rfl⟩ hz ht2 ha hb pre hpre;obtain⟨w1,w2,rfl⟩:=Aj hpre;have lk:k<cs.length:=by rw[<- yl];exact(ao.mp hy).1
   have ec:cs[k]?=some cs[k]:=aj lk;obtain⟨tt,a,e1,e2,e3⟩:=ya k _ ec;rw[hy]at e1;cases e1;have el:(lvT (chF cs))[k]?=some ((lvT (chF cs))[k]'(by lia)):=aj _;rw[aq,el]at hx;cases hx;have S4:Same Hc (upd Hc t2 (.tup [.int ((lvT (chF cs))[k]'(by lia)),.ref tt])):=Same.upd ht2;have k4:upd Hc t2 (.tup [.int ((lvT (chF cs))[k]'(by lia)),.ref tt]) t2=_:=bI;generalize upd Hc t2 (.tup [.int ((lvT (chF cs))[k]'(by lia)),.ref tt])=H4 at S4 k4 ⊢;have S24:=SS.trans (S3.trans S4);have cm:=hc _ (aV lk);have lt:cs[k].1<Ts.length:=cm.1;have eT:(Ts.map V.int)[cs[k].1]?=some (.int (Ts.getD cs[k].1 0)):=by rw[aq,aj lt,au,aj lt];rfl
   have bt:Bd (Ts.getD cs[k].1 0):=bT _ (by rw[au,aj lt];exact aV lt);have bl:Bd ((lvT (chF cs))[k]'(by lia)):=(aeM fq (aM (Nat.le_of_eq cl) l41) _ (aV _)).bd (by decide);refine⟨t2,_,rfl,k4,rfl,_,_,rfl,_,_,rfl,rfl,[_,_],rfl,rfl,_,rfl,_,rfl,_,rfl,tt,_,0,_,rfl,rfl,S24 _ _ e2,c7,Ta,_,_,_,rfl,rfl,S24 _ _ hT,cu (j:=cs[k].1) eT,_,_,rfl,rfl,⟨bl,bt⟩,S4 _ _ h3,S4 _ _ ha,S4 _ _ hb,λb o z=>(bK (bH z g3)).trans (S4 _ _ (S3 _ _ z)),bI,?_⟩;rw[cB (aaS (g:=λp(c:Nat×Int×Int)=>p*Ts.getD c.1 0) el ec),bA];rfl
  .rintro zs Hc ⟨S3,h3,ez⟩ hz;rw[ak,tl,aK (by rw[List.length_zipWith];exact Nat.min_le_right _ _)]at ez;subst ez;have b0:=Gr fq;exact⟨D3,_,rfl,h3,_,rfl,p2,_,1,_,rfl,rfl,S3 _ _ k2,cR,Rp cs Ts,(lvB (chF cs):Nat),rfl,by lia,(aaA fq (aM (Nat.le_of_eq cl) l41)).bd (by decide),λr z o l hr=>q r z o _ (SS.trans (S3.trans (Same.upd hr))) (Same.free (SS.trans S3) hr) bI l⟩
def mL(cs:Θ)(g:Nat->Rat):Rat:=(cs.map λc=>vl c.2*g c.1).sum
theorem VD{B:Int}(hB:0<B){Ts:List Int} : ∀{cs:Θ},(∀c∈cs,0<c.2.2/\c.2.2 ∣ B)->(((List.zipWith (λp(c:Nat×Int×Int)=>p*Ts.getD c.1 0) (cs.map λc=>c.2.1*(B/c.2.2)) cs).sum:Int):Rat)=(B:Rat)*mL cs λr=>(Ts.getD r 0:Rat)
 |[],_=>by
  show((0:Int):Rat)=(B:Rat)*0;rw[Rat.intCast_zero,Rat.mul_zero]
 |c::cs,h=>by
  have ih:=VD hB (Ts:=Ts) (cs:=cs) λc hc=>h c (aH _ hc);obtain⟨c0,d,e⟩:=h c aO;rw[List.map_cons,List.zipWith_cons_cons,List.sum_cons,Rat.intCast_add,ih];show _=(B:Rat)*(vl c.2*(Ts.getD c.1 0:Rat)+mL cs λr=>(Ts.getD r 0:Rat));have e2:B/c.2.2=d:=by rw[e,Int.mul_ediv_cancel_left _ (Int.ne_of_gt c0)]
  rw[e2,e,XV,XV,XV];have:=fM c0;unfold vl
  grind
theorem ac1{cs:Θ}{Ts:List Int}{z o:Int}(fq:∀f∈chF cs,Fq f)(l:Low (Rp cs Ts) (lvB (chF cs):Nat) z o):vl (z,o)=mL cs λr=>(Ts.getD r 0:Rat):=by
 have b0:(0:Int)<(lvB (chF cs):Nat):=by have:=Gr fq;lia
 rw[l.vl b0];have e:Rp cs Ts=(List.zipWith (λp(c:Nat×Int×Int)=>p*Ts.getD c.1 0) (cs.map λc=>c.2.1*(((lvB (chF cs):Nat):Int)/c.2.2)) cs).sum:=by
  unfold Rp lvT
  congr 2
  show(cs.map (·.2)).map _=_;rw[List.map_map];rfl
 have:=VD b0 (Ts:=Ts) (cs:=cs) λc hc=>⟨(fq c.2 (YV.mpr ⟨c,hc,rfl⟩)).pos,V2 (YV.mpr ⟨c,hc,rfl⟩) (fq c.2 (YV.mpr ⟨c,hc,rfl⟩))⟩;show((Rp cs Ts:Int):Rat)/(((lvB (chF cs):Nat):Int):Rat)=_;rw[e,this];have:=fM b0
 grind
theorem Ze{a:Nat} : ∀{l:List Int},(∀x∈l,Bn a x)->l.sum.natAbs<=l.length*10^a
 |[],_=>by simp
 |x::l,h=>by
  have h1:=Ze (l:=l) λy hy=>h y (aH _ hy);have h2:x.natAbs<=10^a:=h x aO;rw[List.sum_cons,List.length_cons,Nat.add_mul,Nat.one_mul];omega
theorem acd{a b:Nat}{cs:Θ}{Ts:List Int}(h1:∀x∈lvT (chF cs),Bn a x)(h2:∀x∈Ts,Bn b x)(l:cs.length<=100):Bn (a+b+2) (Rp cs Ts):=by
 have h:∀x∈List.zipWith (λp(c:Nat×Int×Int)=>p*Ts.getD c.1 0) (lvT (chF cs)) cs,Bn (a+b) x:=λx hx=>by
  obtain⟨k,hk⟩:=aW hx;rw[List.getElem?_zipWith]at hk;cases e1:(lvT (chF cs))[k]? with
  |none=>rw[e1]at hk;cases hk
  |some p =>
   cases e2:cs[k]? with
   |none=>rw[e1,e2]at hk;cases hk
   |some c =>
    rw[e1,e2]at hk;cases hk;refine Bn.mul (h1 p (aB e1)) ?_;rw[au];cases e3:Ts[c.1]? with
    |none=>exact bw _
    |some x=>exact h2 x (aB e3)
 have hs:=Ze h;unfold Bn Rp;rw[Nat.pow_add _ (a+b) 2,Nat.mul_comm];refine aM hs (Nat.mul_le_mul_right _ ?_);rw[List.length_zipWith];lia
structure Fo(n:Nat)(f:Ι)(cs:Θ):Prop where
 pay:0<f.2/\Bn 40 f.1/\Bn 40 f.2
 few:cs.length<=41
 ch:∀c∈cs,c.1<n/\Fq c.2
 lv:Bn 60 (lvB (chF cs):Nat)
theorem Fo.fq{n:Nat}{f:Ι}{cs:Θ}(h:Fo n f cs):∀f∈chF cs,Fq f:=λf hf=>by
 obtain⟨c,hc,rfl⟩:=YV.mp hf;exact(h.ch c hc).2
theorem Fo.tops{n:Nat}{f:Ι}{cs:Θ}(h:Fo n f cs):∀x∈lvT (chF cs),Bn 100 x:=λx hx=>by
 obtain⟨g,hg,rfl⟩:=YV.mp hx;have b:Bn 60 (((lvB (chF cs):Nat):Int)/g.2):=aM (Int.natAbs_ediv_le_natAbs _ _) h.lv;exact Bn.mul (a:=40) (b:=60) (h.fq g hg).sa b
inductive Es(K:Frag)(D:Adr)(vs:Μ)(H:Hp)(Q:VK):Prop
 |mk (o p t lv T:Addr) (rms:List (Str×List Dr)) (s f:Ι) (cs:Θ) (Ts:List Int) (W:Int) (h0:vs=[.ref o,.ref t,.ref lv]) (h1:pG D H o p rms) (h2:H p=some (.tup [.int s.1,.int s.2])) (h3:0<s.2) (h4:Bn 40 s.1) (h5:Bn 40 s.2) (h6:Xp K H t f cs) (h7:Fo Ts.length f cs) (h8:H lv=some (.tup [.ref T,.int W])) (h9:H T=some (.lst (Ts.map V.int))) (h10:0<W) (h11:Bn 600 W) (h12:(∀x∈Ts,Bn 640 x)) (h13:∀r z y H',Same H H'->H r=none->H' r=some (.tup [.int z,.int y])->0<y->Bn 830 z->Bn 140 y->vl (z,y)=vl f*(W:Rat)+vl s*mL cs (λr=>(Ts.getD r 0:Rat))->Q (.ref r) H'):Es K D vs H Q
def tZ(K:Frag)(D:Adr):Sp:=λvs H Q _=>Es K D vs H Q
theorem wM(F:Fun K gA gA tY f fd)(T:Txt K mg D)(lY:OkF P w K mg base 3 iK iU (za K))(qy:OkF P w K mg base 3 rA qT yt)(tL:OkF P w K mg base 3 sX sU (nA (K:=K) λa b=>a+b)):cF P w K mg base CX0 4 f fd fZ (tZ K D):=by
 refine F.ok xQ ?_ ?_
 .rintro _ _ _ _ ⟨o,p,t,lv,T,rms,s,f,cs,Ts,W,rfl,_⟩;rfl
 .rintro cdv A outer s H _ Q E hr ⟨o,p,t,lv,Ta,rms,sh,f,cs,Ts,W,rfl,hh,hp,s0,b1,b2,of,df,hlv,hT,w0,bW,bT,q⟩;have hI:=hh;obtain⟨dx,nn,ll,zs0,ho,_,_,_⟩:=hI;have fq:=df.fq;refine⟨_,(bL (cj (i:=3) xQ.nd rfl (Or.inl rfl) (bO lY hr.md (by rfl) (bD (pv 1) (bD (bQ cQ (pv 2) bG (λ_ _=>rfl)) bF))))
   (bM (cg (bO tL hr.md (by rfl) (bD (bO qy hr.md (by rfl) (bD (bQ cQ (pv 1) bG (λ_ _=>rfl)) (bD (dH (bD (bQ cQ (pv 2) bG (λ_ _=>rfl)) (bD bG bF))) bF))) (bD (bO qy hr.md (by rfl) (bD (su (pv 0) rfl) (bD (pv 3) bF))) bF)))))),?_⟩
  refine bV λR1 hR1=>?_;refine cC ⟨_,rfl,_,rfl,lv,_,0,_,rfl,rfl,hlv,c7,t,Ta,f,cs,Ts,rfl,of,hT,df.few,df.ch,λx hx=>(bT x hx).bd (by decide),λr1 z1 o1 H1 S1 f1 h1 l1=>?_⟩;have v1:=ac1 fq l1;have bz1:Bn 742 z1:=(acd (a:=100) (b:=640) df.tops bT (by have:=df.few;exact aM this (by decide))).lx l1;have bo1:Bn 60 o1:=df.lv.ly l1;have p1:=l1.pos;subst hR1;dsimp only[cN,L2.start];obtain⟨nm,pp,rr,ys,ht,hpp,_,_,_⟩:=of.ex;obtain⟨f0,bf1,bf2⟩:=df.pay;refine dX ⟨_,rfl,t,_,1,_,rfl,rfl,S1 _ _ ht,cR,_,rfl,lv,_,1,_,rfl,rfl,S1 _ _ hlv,cR,d8,λu2 H2 S2 f2 h2=>⟨pp,u2,f.1,f.2,W,1,rfl,S2 _ _ (S1 _ _ hpp),h2,bf1.bd (by decide),bf2.bd (by decide),bW.bd (by decide),Bd.sm (by decide),f0,by decide,by rw[Int.mul_one];exact bf2.bd (by decide),λr3 z3 o3 H3 S3 f3 h3 l3=>?_⟩⟩;rw[Int.mul_one]at l3;have bz3:Bn 640 z3:=(Bn.mul bf1 bW).lx l3;have bo3:Bn 40 o3:=bf2.ly l3;have p3:=l3.pos;have v3:vl (z3,o3)=vl f*(W:Rat):=by
   rw[l3.vl f0];have:=Aa (x:=f.1) (y:=f.2) (u:=W) (v:=1) f0 (by decide);rw[Int.mul_one]at this;rw[this,N_]
  have S13:=S1.trans (S2.trans S3);refine⟨_,rfl,o,D.Hall,dx,_,.ref p,rfl,S13 _ _ ho,T.rK,T.pU,rfl,_,rfl,p,r1,sh.1,sh.2,z1,o1,rfl,S13 _ _ hp,S3 _ _ (S2 _ _ h1),b1.bd (by decide),b2.bd (by decide),bz1.bd (by decide),bo1.bd (by decide),s0,p1,(Bn.mul b2 bo1).bd (by decide),λr4 z4 o4 H4 S4 f4 h4 l4=>?_⟩;have bz4:Bn 782 z4:=(Bn.mul b1 bz1).lx l4;have bo4:Bn 100 o4:=(Bn.mul b2 bo1).ly l4;have p4:=l4.pos;have v4:vl (z4,o4)=vl sh*mL cs λr=>(Ts.getD r 0:Rat):=by
   rw[l4.vl (Xs s0 p1),Aa s0 p1,v1]
  have S14:=S13.trans S4;refine⟨r3,r4,z3,o3,z4,o4,rfl,.of (S4 _ _ h3),.of h4,bz3.bd (by decide),bo3.bd (by decide),bz4.bd (by decide),bo4.bd (by decide),p3,p4,(Bn.mul bo3 bo4).bd (by decide),λr5 z5 o5 l5 f5=>?_⟩;have bt:Bn 823 (z3*o4+z4*o3):=Bn.add (a:=822) ((Bn.mul bz3 bo4).up (by decide)) (Bn.mul bz4 bo3);refine q r5 z5 o5 _ (S14.trans (Same.upd f5)) (Same.free S14 f5) bI l5.pos ((bt.lx l5).up (by decide)) ((Bn.mul bo3 bo4).ly l5) ?_;rw[l5.vl (Xs p3 p4),Dq p3 p4,v3,v4]
structure DrN(K:Frag)(H:Hp)(ns:Β)(d:Dr)(f:Ι)(cs:Θ):Prop where
 pay:H d.p=some (.tup [.int f.1,.int f.2])
 len:d.ws.length=cs.length
 at_:∀(k:Nat)g c,d.ws[k]?=some g->cs[k]?=some c->ns[c.1]?=some g.1/\SqT K H g.2 [.int c.2.1,.int c.2.2]
theorem DrN.same{H H':Hp}{ns:Β}{d:Dr}{f:Ι}{cs:Θ}(h:DrN K H ns d f cs)(S:Same H H'):DrN K H' ns d f cs:=⟨S _ _ h.pay,h.len,λk g c e1 e2=>⟨(h.at_ k g c e1 e2).1,S.tup (h.at_ k g c e1 e2).2⟩⟩
theorem uz{ns:Β}(nd:ns.Nodup){i j:Nat}{n:Str}(h1:ns[i]?=some n)(h2:ns[j]?=some n):i=j:=by
 exact(List.getElem?_inj (ao.mp h1).1 nd).mp (h1.trans h2.symm)
theorem sI.offN{ns:Β}(nd:ns.Nodup){H:Hp}{zs:Μ}{gs:List Dr}(h:sI ns H zs gs){k:Nat}{d:Dr}(e:gs[k]?=some d){f:Ι}{cs:Θ}(hd:DrN K H ns d f cs):∃t,zs[k]?=some (.ref t)/\Xp K H t f cs:=by
 obtain⟨t,r,ys,a,b,c,w⟩:=h.at_ k d e;refine⟨t,a,d.nm,d.p,r,ys,b,hd.pay,c,by rw[w.len,hd.len],λj g eg=>?_⟩;have lj:j<d.ws.length:=by rw[hd.len];exact(ao.mp eg).1
 have ew:d.ws[j]?=some d.ws[j]:=aj lj;obtain⟨tt,i,x1,x2,x3⟩:=w.at_ j _ ew;obtain⟨y1,y2⟩:=hd.at_ j _ g ew eg;cases uz nd x2 y1;exact⟨tt,_,x1,x3,y2⟩
def wq(fs:Ψ)(r:Nat):Rat:=vl (fs.getD r (0,1))
def oR(s f:Ι)(cs:Θ)(fs:Ψ):Rat:=vl f+vl s*mL cs (wq fs)
theorem Qx{W:Rat}{g h:Nat->Rat} : ∀{cs:Θ},(∀c∈cs,g c.1=W*h c.1)->mL cs g=W*mL cs h
 |[],_=>by
  show(0:Rat)=W*0;rw[Rat.mul_zero]
 |c::cs,e=>by
  have ih:=Qx (cs:=cs) λc hc=>e c (aH _ hc);show vl c.2*g c.1+mL cs g=W*(vl c.2*h c.1+mL cs h);rw[ih,e c aO]
  grind
structure Yc(K:Frag)(H:Hp)(ns:Β)(n:Nat)(gs:List Dr)(fcs:Δ):Prop where
 len:gs.length=fcs.length
 at_:∀(k:Nat)d fc,gs[k]?=some d->fcs[k]?=some fc->DrN K H ns d fc.1 fc.2/\Fo n fc.1 fc.2
theorem yG{a b c:Rat}(p:0<c):a<=b/c↔a*c<=b:=by rw[<- Rat.not_lt,Rat.div_lt_iff p,Rat.not_lt]
theorem Cg{a b c:Rat}(p:0<c):b/c<=a↔b<=a*c:=by rw[<- Rat.not_lt,Rat.lt_div_iff p,Rat.not_lt]
def IsI(q:Rat):Prop:=∃z:Int,q=(z:Rat)
theorem IsI.add{p q:Rat}(h:IsI p)(g:IsI q):IsI (p+q):=by
 obtain⟨a,rfl⟩:=h;obtain⟨b,rfl⟩:=g;exact⟨a+b,(Rat.intCast_add a b).symm⟩
theorem IsI.mul{p q:Rat}(h:IsI p)(g:IsI q):IsI (p*q):=by
 obtain⟨a,rfl⟩:=h;obtain⟨b,rfl⟩:=g;exact⟨a*b,(XV a b).symm⟩
theorem Uy{f:Ι}{N:Nat}(h0:0<f.2)(h:f.2 ∣ (N:Int)):IsI (vl f*((N:Int):Rat)):=by
 obtain⟨d,e⟩:=h;refine⟨f.1*d,?_⟩;have:=fM h0;rw[e,XV,XV];unfold vl
 grind
theorem Jc{g:Ι}{N:Nat}(h0:0<g.2)(hg:Int.gcd g.1 g.2=1)(h:IsI (vl g*((N:Int):Rat))):g.2 ∣ (N:Int):=by
 obtain⟨z,e⟩:=h;have h1:=fM h0;have e2:g.1*(N:Int)=z*g.2:=by
  refine Rat.intCast_inj.mp ?_;rw[XV,XV,<- e];unfold vl
  grind
 have c:Nat.Coprime g.2.natAbs g.1.natAbs:=by rw[Nat.coprime_comm];exact hg
 have d:g.2.natAbs ∣ g.1.natAbs*N:=by
  have:g.2.natAbs ∣ (g.1*(N:Int)).natAbs:=Int.natAbs_dvd_natAbs.mpr ⟨z,by rw[e2,Int.mul_comm]⟩;rwa[Int.natAbs_mul,XT]at this
 exact Int.natAbs_dvd.mp (Int.natCast_dvd_natCast.mpr (c.dvd_of_dvd_mul_left d))
structure Y6(s:Ι)(L:Nat)(fc:Ι×Θ):Prop where
 f0:0<fc.1.2
 pay:fc.1.2 ∣ (L:Int)
 big:fc.1.1.natAbs<=10^30
 few:fc.2.length<=41
 ch:∀c∈fc.2,0<c.2.2/\s.2*c.2.2 ∣ (L:Int)/\0<=c.2.1/\c.2.1<=c.2.2
def Ku(L k:Nat)(fs:Ψ):Prop:=∀f∈fs,0<f.2/\Int.gcd f.1 f.2=1/\f.2 ∣ ((L^k:Nat):Int)/\f.1.natAbs<=10^30*42^k*f.2.natAbs
def Wn(B q:Rat):Prop:=-B<=q/\q<=B
theorem abr{f:Ι}{B:Nat}(h0:0<f.2)(h:f.1.natAbs<=B*f.2.natAbs):Wn ((B:Int):Rat) (vl f):=by
 have p:(0:Rat)<(f.2:Rat):=Rat.intCast_pos.mpr h0;have e:((f.2.natAbs:Nat):Int)=f.2:=by exact Int.natAbs_of_nonneg (XZ h0)
 have h':((f.1.natAbs:Nat):Int)<=(B:Int)*f.2:=by rw[<- e,<- Int.natCast_mul];exact Int.ofNat_le.mpr h
 unfold vl;constructor
 .rw[yG p,<- Rat.intCast_neg,<- XV,Rat.intCast_le_intCast,Int.neg_mul];lia
 .rw[Cg p,<- XV,Rat.intCast_le_intCast];lia
theorem agF{f:Ι}{B:Nat}(h0:0<f.2)(h:Wn ((B:Int):Rat) (vl f)):f.1.natAbs<=B*f.2.natAbs:=by
 have p:(0:Rat)<(f.2:Rat):=Rat.intCast_pos.mpr h0;have e:((f.2.natAbs:Nat):Int)=f.2:=by exact Int.natAbs_of_nonneg (XZ h0)
 unfold vl at h;obtain⟨h1,h2⟩:=h;rw[yG p,<- Rat.intCast_neg,<- XV,Rat.intCast_le_intCast,Int.neg_mul]at h1;rw[Cg p,<- XV,Rat.intCast_le_intCast]at h2;have:((f.1.natAbs:Nat):Int)<=((B*f.2.natAbs:Nat):Int):=by rw[Int.natCast_mul,e];omega
 exact Int.ofNat_le.mp this
theorem Wn.add{A B p q:Rat}(h:Wn A p)(g:Wn B q):Wn (A+B) (p+q):=by
 obtain⟨a,b⟩:=h;obtain⟨c,d⟩:=g;exact⟨by grind,by grind⟩
theorem Wn.part{B c q:Rat}(h:Wn B q)(c0:0<=c)(c1:c<=1):Wn B (c*q):=by
 obtain⟨a,b⟩:=h;have B0:0<=B:=by
  have:=Rat.le_trans a b
  grind
 have k1:=Rat.mul_le_mul_of_nonneg_left a c0;have k2:=Rat.mul_le_mul_of_nonneg_left b c0;have k3:=Rat.mul_le_mul_of_nonneg_right c1 B0;rw[Rat.one_mul]at k3;refine⟨?_,Rat.le_trans k2 k3⟩;have : -B<=c * -B:=by
  rw[Rat.mul_neg];exact Rat.neg_le_neg k3
 exact Rat.le_trans this k1
theorem Z4{B:Rat}{G:Nat->Rat}(hG:∀r,Wn B (G r)):∀{cs:Θ},(∀c∈cs,0<c.2.2/\0<=c.2.1/\c.2.1<=c.2.2)->Wn (((cs.length:Nat):Rat)*B) (mL cs G)
 |[],_=>by
  show Wn (((0:Nat):Rat)*B) 0;rw[show((0:Nat):Rat)=0 from rfl,Rat.zero_mul];exact⟨by grind,by grind⟩
 |c::cs,h=>by
  obtain⟨a,b,d⟩:=h c aO;have p:(0:Rat)<(c.2.2:Rat):=Rat.intCast_pos.mpr a;have c0:0<=vl c.2:=by
   unfold vl;rw[yG p,Rat.zero_mul];exact Rat.intCast_nonneg.mpr b
  have c1:vl c.2<=1:=by
   unfold vl;rw[Cg p,Rat.one_mul,Rat.intCast_le_intCast];exact d
  have ih:=Z4 hG (cs:=cs) λc hc=>h c (aH _ hc);have:=((hG c.1).part c0 c1).add ih;show Wn _ (vl c.2*G c.1+mL cs G);rw[List.length_cons,show((cs.length+1:Nat):Rat)=(cs.length:Rat)+1 from by rw[Rat.natCast_add];rfl];have e:((cs.length:Rat)+1)*B=B+(cs.length:Rat)*B:=by grind
  rw[e];exact this
theorem Wa{x:Rat}{G:Nat->Rat} : ∀{cs:Θ},(∀c∈cs,IsI (vl c.2*G c.1*x))->IsI (mL cs G*x)
 |[],_=>⟨0,by show(0:Rat)*x=_;rw[Rat.zero_mul];rfl⟩
 |c::cs,h=>by
  have ih:=Wa (cs:=cs) λc hc=>h c (aH _ hc);show IsI ((vl c.2*G c.1+mL cs G)*x);rw[Rat.add_mul];exact(h c aO).add ih
theorem Ku.wq{L k:Nat}{fs:Ψ}(h:Ku L k fs)(r:Nat):IsI (wq fs r*(((L^k:Nat):Int):Rat))/\Wn (((10^30*42^k:Nat):Int):Rat) (wq fs r):=by
 unfold K54.wq;cases e:fs[r]? with
 |none =>
  rw[au,e];have z:vl (0,1)=0:=by
   show((0:Int):Rat)/((1:Int):Rat)=0;rw[Rat.intCast_zero];grind
  show IsI (vl (0,1)*_)/\Wn _ (vl (0,1));refine⟨by rw[z,Rat.zero_mul];exact⟨0,rfl⟩,abr (by decide) (bw _)⟩
 |some f =>
  rw[au,e];obtain⟨a,b,c,d⟩:=h f (aB e);exact⟨Uy a c,abr a d⟩
theorem adC{s:Ι}{L k:Nat}{fc:Ι×Θ}{fs:Ψ}(s0:0<=s.1)(s1:s.1<=s.2)(s2:0<s.2)(d:Y6 s L fc)(h:Ku L k fs):IsI (oR s fc.1 fc.2 fs*(((L^(k+1):Nat):Int):Rat))/\Wn (((10^30*42^(k+1):Nat):Int):Rat) (oR s fc.1 fc.2 fs):=by
 have eL:(((L^(k+1):Nat):Int):Rat)=((L:Int):Rat)*(((L^k:Nat):Int):Rat):=by rw[Nat.pow_succ,Int.natCast_mul,XV,Rat.mul_comm]
 have p:(0:Rat)<(s.2:Rat):=Rat.intCast_pos.mpr s2;have q0:0<=vl s:=by
  unfold vl;rw[yG p,Rat.zero_mul];exact Rat.intCast_nonneg.mpr s0
 have q1:vl s<=1:=by
  unfold vl;rw[Cg p,Rat.one_mul,Rat.intCast_le_intCast];exact s1
 unfold oR;constructor
 .rw[Rat.add_mul];refine IsI.add ?_ ?_
  .rw[eL,<- Rat.mul_assoc];exact(Uy d.f0 d.pay).mul ⟨_,rfl⟩
  .have e:vl s*mL fc.2 (K54.wq fs)*(((L^(k+1):Nat):Int):Rat)=mL fc.2 (K54.wq fs)*(vl s*(((L:Int):Rat)*(((L^k:Nat):Int):Rat))):=by rw[eL];grind
   rw[e];refine Wa λc hc=>?_;obtain⟨c0,dv,_⟩:=d.ch c hc;have e2:vl c.2*K54.wq fs c.1*(vl s*(((L:Int):Rat)*(((L^k:Nat):Int):Rat)))=(vl (s.1*c.2.1,s.2*c.2.2)*((L:Int):Rat))*(K54.wq fs c.1*(((L^k:Nat):Int):Rat)):=by
    rw[Aa s2 c0];grind
   rw[e2];exact(Uy (f:=(s.1*c.2.1,s.2*c.2.2)) (Xs s2 c0) dv).mul (h.wq c.1).1
 .have w1:Wn (((10^30:Nat):Int):Rat) (vl fc.1):=abr d.f0 (aM d.big (Nat.le_mul_of_pos_right _ (by have:=d.f0;omega)));have w2:=(Z4 (λr=>(h.wq r).2) (cs:=fc.2) λc hc=>let⟨a,_,b,e⟩:=d.ch c hc;⟨a,b,e⟩).part q0 q1;have w:=w1.add w2;have le:(((10^30:Nat):Int):Rat)+((fc.2.length:Nat):Rat)*(((10^30*42^k:Nat):Int):Rat)<=(((10^30*42^(k+1):Nat):Int):Rat):=by
   rw[show((fc.2.length:Nat):Rat)=(((fc.2.length:Nat):Int):Rat)from rfl,<- XV,<- Rat.intCast_add,Rat.intCast_le_intCast,<- Int.natCast_mul,<- Int.natCast_add];refine Int.ofNat_le.mpr ?_;have h1:fc.2.length*(10^30*42^k)<=41*(10^30*42^k):=Nat.mul_le_mul_right _ d.few;have h2:10^30*1<=10^30*42^k:=Nat.mul_le_mul_left _ (Nat.pos_of_ne_zero (by simp));have e:10^30*42^(k+1)=10^30*42^k*42:=(Nat.mul_assoc (10^30) (42^k) 42).symm;rw[e];generalize 10^30*42^k=x at *;generalize fc.2.length*x=u at *;lia
  exact⟨Rat.le_trans (Rat.neg_le_neg le) w.1,Rat.le_trans w.2 le⟩
def Eu(s:Ι)(fcss:Γ)(fs gs:Ψ):Prop :=
 gs.length=fcss.length/\∀(k:Nat)fcs g,fcss[k]?=some fcs->gs[k]?=some g->0<g.2/\Int.gcd g.1 g.2=1/\(fcs=[]->g=(0,1))/\(fcs≠[]->∃fc∈fcs,vl g=oR s fc.1 fc.2 fs)/\∀fc∈fcs,oR s fc.1 fc.2 fs<=vl g
theorem Eu.ok{s:Ι}{L k:Nat}{fcss:Γ}{fs gs:Ψ}(s0:0<=s.1)(s1:s.1<=s.2)(s2:0<s.2)(d:∀fcs∈fcss,∀fc∈fcs,Y6 s L fc)(n:Eu s fcss fs gs)(h:Ku L k fs):Ku L (k+1) gs:=by
 intro g hg;obtain⟨j,hj⟩:=aW hg;have lj:j<fcss.length:=by rw[<- n.1];exact(ao.mp hj).1
 obtain⟨g0,g1,z,nz,_⟩:=n.2 j _ g (aj lj) hj;have m:=aV lj;generalize fcss[j]=fcs at *;by_cases e:fcs=[]
 .have:=z e;subst this;refine⟨g0,g1,by exact Int.one_dvd _,bw _⟩
 .obtain⟨fc,hf,ev⟩:=nz e;obtain⟨a,b⟩:=adC s0 s1 s2 (d fcs m fc hf) h;rw[<- ev]at a b;exact⟨g0,g1,Jc g0 g1 a,agF g0 b⟩
theorem WX{x y:Ι}(hx:0<x.2)(hy:0<y.2):vl x<vl y↔x.1*y.2<y.1*x.2:=by
 have h1:(0:Rat)<(x.2:Rat):=Rat.intCast_pos.mpr hx;have h2:(0:Rat)<(y.2:Rat):=Rat.intCast_pos.mpr hy;unfold vl;have e:(y.1:Rat)/(y.2:Rat)*(x.2:Rat)=((y.1:Rat)*(x.2:Rat))/(y.2:Rat):=by grind
 rw[Rat.div_lt_iff h1,e,Rat.lt_div_iff h2,<- XV,<- XV,Rat.intCast_lt_intCast]
theorem Zt{a b c:Rat}(h1:a<=b)(h2:b<c):a<c:=Rat.not_le.mp λh=>Rat.not_le.mpr h2 (Rat.le_trans h h1)
structure Fb(f:Ι):Prop where
 pos:0<f.2
 bx:Bd f.1
 b_y:Bd f.2
structure Top(fs:Ψ)(j:Nat)(f:Ι):Prop where
 at_:fs[j]?=some f
 le:∀g∈fs,vl g<=vl f
 lt:∀i g,i<j->fs[i]?=some g->vl g<vl f
def uq:Sp:=λvs H Q _=>∃(l:Addr)(xs:Μ)(fs:Ψ),vs=[.ref l]/\H l=some (.lst xs)/\FL H xs fs/\(∀f∈fs,Fb f)/\(fs=[]->Q .non H)/\∀p f j,H p=some (.tup [.int f.1,.int f.2])->Top fs j f->Q (.ref p) H
theorem Fe(F:Fun K iZ iZ Ah f fd)(T:Txt K mg D)(fX:OkF P w K mg base 1 mF lQ (lC (K:=K))):cF P w K mg base CX0 2 f fd iW uq:=by
 refine F.ok sH ?_ ?_
 .rintro _ _ _ _ ⟨l,xs,fs,rfl,_⟩;rfl
 .rintro cdv A outer s H _ Q E hr ⟨l,xs,fs,rfl,hl,fl,fb,ne,q⟩;refine⟨_,(bL (cj (i:=1) sH.nd rfl (Or.inl rfl) mX)
   (bL (iR PassesOwn.never rfl (cZ ((pv 0)).mono) (cM (i:=2) sH.nd rfl (Or.inl rfl))
    (bM (cW (PW.pt (pw_or (cI xO (pv 1) mX (cJ _)) (pw_or1 (cV (bO fX hr.md (by rfl) (bD (pv 1) (bD (pv 2) bF))) (λ_=>rfl)))))
     (bM (cj (i:=1) sH.nd rfl (Or.inl rfl) (pv 2)))
     cA)))
   (bM (cg (pv 1))))),?_⟩
  refine cC ?_;refine bV λR1 hR1=>?_;refine cT (gC ⟨_,rfl,l,xs,rfl,hl,λk σ H'=>∃v u,σ=[some (.ref l),some v,u]/\H'=H/\((k=0/\v=.non)\/∃p f j,v=.ref p/\H p=some (.tup [.int f.1,.int f.2])/\j<k/\Top (fs.take k) j f),⟨_,_,rfl,rfl,.inl ⟨rfl,rfl⟩⟩,?_,?_⟩)
  .rintro k x σ' H' hk ⟨v,u,rfl,rfl,hv⟩ hx;obtain⟨p,g,rfl,hg,hp⟩:=fl.get hk;have gb:=fb g (aB hg);have lk:=(ao.mp hg).1;have gk:(fs.take (k+1))[k]?=some g:=by rw[List.getElem?_take,ZY (X1 _)];exact hg
   rcases hv with⟨rfl,rfl⟩|⟨p1,f1,j,rfl,hp1,hj,tp⟩
   .refine⟨_,rfl,rfl,true,ZH V.bl (Zs rfl),_,rfl,hx,_,_,rfl,rfl,.inr ⟨p,g,0,rfl,hp,by decide,gk,λg' hg'=>?_,λi g' hi=>absurd hi (Nat.not_lt_zero _)⟩⟩;rw[cB hg,List.take_zero,List.nil_append,YR]at hg';subst hg';exact Rat.le_refl
   .refine⟨_,rfl,rfl,false,ZH V.bl (Zp (λz=>by cases z)),?_⟩;have f1m:f1∈fs:=List.mem_of_mem_take (aB tp.at_);have fb1:=fb f1 f1m;have iff:=WX fb1.pos gb.pos;refine⟨_,rfl,_,rfl,p1,p,f1.1,f1.2,g.1,g.2,rfl,.of hp1,.of hp,fb1.bx,fb1.b_y,gb.bx,gb.b_y,decide (f1.1*g.2<g.1*f1.2),rfl,?_⟩;by_cases hlt:f1.1*g.2<g.1*f1.2
    .rw[Zs hlt];have lt:=iff.mpr hlt;refine⟨_,rfl,hx,_,_,rfl,rfl,.inr ⟨p,g,k,rfl,hp,by exact X1 _,gk,λg' hg'=>?_,λi g' hi eg=>?_⟩⟩
     .rw[cB hg]at hg';rcases Y1.mp hg' with z|z
      .exact Rat.le_of_lt (Zt (tp.le g' z) lt)
      .rw[YR.mp z];exact Rat.le_refl
     .rw[List.getElem?_take,ZY (WZ _ hi)]at eg;exact Zt (tp.le g' (aB (by rw[List.getElem?_take,ZY hi];exact eg))) lt
    .rw[Zp hlt];have le:vl g<=vl f1:=Rat.not_lt.mp λz=>hlt (iff.mp z);have cut:∀i:Nat,i<k->(fs.take (k+1))[i]?=(fs.take k)[i]?:=λi hi=>by rw[List.getElem?_take,List.getElem?_take,ZY (WZ _ hi),ZY hi]
     refine⟨hx,_,_,rfl,rfl,.inr ⟨p1,f1,j,rfl,hp1,by exact WZ _ hj,by rw[cut j hj];exact tp.at_,λg' hg'=>?_,λi g' hi eg=>?_⟩⟩
     .rw[cB hg]at hg';rcases Y1.mp hg' with z|z
      .exact tp.le g' z
      .rw[YR.mp z];exact le
     .rw[cut i (Nat.lt_trans hi hj)]at eg;exact tp.lt i g' hi eg
  .rintro σ' H' ⟨v,u,rfl,rfl,hv⟩ hx;subst hR1;rcases hv with⟨z,rfl⟩|⟨p1,f1,j,rfl,hp1,hj,tp⟩
   .exact⟨_,rfl,ne (List.eq_nil_of_length_eq_zero (by rw[<- fl.length];exact z))⟩
   .rw[fl.length,aP]at tp;exact⟨_,rfl,q p1 f1 j hp1 tp⟩
noncomputable def xU:V->Prop|.int k=>0<=k/\k<=40|_=>False
def M8(D:Adr):Sp:=λvs H Q E=>∃v,vs=[v]/\Odd H v/\(xU v->Q .non H)/\(¬xU v->E (.ref D.NoNumber) none H)
theorem Kr(F:Fun K lZ lZ vB f fd)(T:Txt K mg D)(cX:OkF P w K mg base 1 fH fD g_):cF P w K mg base (CXO P w) 2 f fd mz (M8 D):=by
 refine F.okX JT ?_ ?_
 .rintro _ _ _ _ ⟨v,rfl,_⟩;rfl
 .rintro cdv A outer s H _ Q E hr ⟨v,rfl,ov,q,e⟩;refine⟨_,(bM (cW (PW.pt (pw_or (dh (cV (bO cX hr.md (by rfl) (bD (pv 0) bF)) (λ_=>rfl))) (pw_or1 (dh (BZ zT zT bG (pv 0) (HS (by rfl) T.Zn))))))
    (bM (rC rfl (by rfl) T.uQ T.z_ rZ (bD mQ bF)))
    cA)),?_⟩
  unfold g_
  walk_at "rd"
  have no:¬xU v->1<=sizeLine/\E (Value.ref D.NoNumber) none H:=λz=>⟨by decide,e z⟩;by_cases iv:∃k,v=.int k
  .obtain⟨k,rfl⟩:=iv;refine⟨_,rfl,?_⟩;rw[ZZ (by decide)];refine⟨k,rfl,?_⟩;by_cases k0:0<=k
   .rw[ZY (Zs k0)];refine⟨k,rfl,?_⟩;by_cases k1:k<=40
    .rw[ZZ (by simp[k1])];exact q ⟨k0,k1⟩
    .rw[ZY (by simp[k1])];exact no λz=>k1 z.2
   .rw[ZZ (by simp[k0])];exact no λz=>k0 z.1
  .obtain⟨t,et⟩:=ov;refine⟨t,et,?_⟩;rw[U3 et λk z=>iv ⟨k,z⟩];exact no λz=>by
    cases v with
    |int k=>exact iv ⟨k,rfl⟩
    |_=>exact z
def Vm(D:Adr):Sp:=λvs H Q _=>∃(v:V)(W:Int),vs=[v,.int W]/\((v=.non/\Q (.ref D.NOUGHT) H)\/∃(p:Addr)(z y:Int),v=.ref p/\H p=some (.tup [.int z,.int y])/\0<y/\Bd z/\Bd y/\0<W/\Bd W/\Bd (y*W) /\
 ∀r a b H',Same H H'->H r=none->H' r=some (.tup [.int a,.int b])->Low z (y*W) a b->Q (.ref r) H')
theorem Vi(F:Fun K qX qX En f fd)(T:Txt K mg D)(Ad:OkF P w K mg base 3 vp vA Ax):cF P w K mg base CX0 4 f fd q_ (Vm D):=by
 refine F.ok Vf ?_ ?_
 .rintro _ _ _ _ ⟨v,W,rfl,_⟩;rfl
 .rintro cdv A outer s H _ Q E hr ⟨v,W,rfl,c⟩;refine⟨_,(bM (cg (Ig (cI xO (pv 0) mX (cJ _)) (jo (by rfl) T.uE) (bO Ad hr.md (by rfl) (bD (pv 0) (bD (dH (bD (pv 1) (bD bG bF))) bF)))))),?_⟩;rcases c with⟨rfl,q⟩|⟨p,z,y,rfl,hp,y0,bz,b_y,w0,bW,byW,q⟩
  .exact dX ⟨_,rfl,rfl,true,ZH V.bl (Zs rfl),q⟩
  .refine dX ⟨_,rfl,rfl,false,ZH V.bl (Zp (λz=>by cases z)),_,rfl,_,rfl,d8,λr1 H1 S1 f1 h1=>⟨p,r1,z,y,W,1,rfl,S1 _ _ hp,h1,bz,b_y,bW,Bd.sm (by decide),y0,w0,byW,λr a b H2 S2 f2 h2 l=>?_⟩⟩;rw[Int.mul_one]at l;exact q r a b H2 (S1.trans S2) (Same.free S1 f2) h2 l
theorem eZ{α:Type}{l:List α}{a b:α}{k:Nat}(h:(l++[a])[k]?=some b):(k<l.length/\l[k]?=some b)\/(k=l.length/\b=a):=by
 by_cases hk:k<l.length
 .rw[aD hk]at h;exact .inl ⟨hk,h⟩
 .have hl:=(ao.mp h).1;rw[aA,List.length_cons,List.length_nil]at hl;have e:k=l.length:=by lia
  subst e;rw[aC (aF _),Nat.sub_self]at h;cases h;exact .inr ⟨rfl,rfl⟩
theorem pP{as:Ε}{H:Hp}{a:Addr}{u:HO}(h:a∈as):del as (upd H a u)=del as H:=by
 funext b
 unfold del;split
 .rfl
 .rename_i hb
  exact bK λz=>hb (z ▸ h)
theorem V_{fs:Ψ}{f:Ι}(hf:f∈fs)(h0:0<f.2):f.2 ∣ (lvB fs:Nat):=by
 have h1:f.2.natAbs ∣ lvB fs:=Lv.Gz (YV.mpr ⟨f,hf,rfl⟩);have:=Int.natCast_dvd_natCast.mpr h1;rwa[Int.natAbs_of_nonneg (XZ h0)]at this
theorem aa5{fs:Ψ}(fz:∀f∈fs,Fz f){r:Nat}(lr:r<fs.length):((lvT fs).getD r 0:Rat)=(((lvB fs:Nat):Int):Rat)*wq fs r:=by
 have e:fs[r]?=some fs[r]:=aj lr;have q:=fz _ (aV lr);unfold wq lvT;rw[au,au,aq,e];show((fs[r].1*(((lvB fs:Nat):Int)/fs[r].2):Int):Rat)=(((lvB fs:Nat):Int):Rat)*vl fs[r];obtain⟨d,ed⟩:=V_ (aV lr) q.pos;have:=fM q.pos;have e2:((lvB fs:Nat):Int)/fs[r].2=d:=by rw[ed,Int.mul_ediv_cancel_left _ (Int.ne_of_gt q.pos)]
 rw[e2,ed,XV,XV];unfold vl
 grind
structure aeG(fs:Ψ):Prop where
 fz:∀f∈fs,Fz f
 few:fs.length<=12
 lv:Bn 490 (lvB fs:Nat)
 tops:∀x∈lvT fs,Bn 640 x
def jk(s:Ι)(fs:Ψ)(fcs:Δ):List Rat:=fcs.map λfc=>oR s fc.1 fc.2 fs
structure uy(K:Frag)(D:Adr)(H:Hp)(o:Addr)(s:Ι)(fcss:Γ):Prop where
 ex:∃(p:Addr)(rms:List (Str×List Dr)),pG D H o p rms/\UJ rms/\(rms.map (·.1)).Nodup/\H p=some (.tup [.int s.1,.int s.2])/\fcss.length=rms.length/\∀(k:Nat)g fcs,rms[k]?=some g->fcss[k]?=some fcs->Yc K H (rms.map (·.1)) fcss.length g.2 fcs
 s0:0<s.2
 b1:Bn 40 s.1
 b2:Bn 40 s.2
 n12:fcss.length<=12
theorem Yc.same{H H':Hp}{ns:Β}{n:Nat}{gs:List Dr}{fcs:Δ}(S:Same H H')(h:Yc K H ns n gs fcs):Yc K H' ns n gs fcs:=⟨h.len,λk d fc e1 e2=>⟨(h.at_ k d fc e1 e2).1.same S,(h.at_ k d fc e1 e2).2⟩⟩
theorem uy.same{H H':Hp}{o:Addr}{s:Ι}{fcss:Γ}(S:Same H H')(h:uy K D H o s fcss):uy K D H' o s fcss:=by
 obtain⟨p,rms,a,b,c,d,e,f⟩:=h.ex;exact⟨⟨p,rms,a.same S,b,c,S _ _ d,e,λk g fcs e1 e2=>(f k g fcs e1 e2).same S⟩,h.s0,h.b1,h.b2,h.n12⟩
def ug(K:Frag)(D:Adr):Sp:=λvs H Q _=>∃(o la:Addr)(s:Ι)(xs:Μ)(fs:Ψ)(fcss:Γ),vs=[.ref o,.ref la]/\uy K D H o s fcss/\H la=some (.lst xs)/\FLK K H xs fs/\aeG fs/\fs.length=fcss.length /\
 ∀r H' zs gs,Same H H'->H r=none->H' r=some (.lst zs)->FLK K H' zs gs->Eu s fcss fs gs->Q (.ref r) H'
theorem Kl(F:Fun K jN jN qK f fd)(T:Txt K mg D)(oM:OkF P w K mg base 2 gW iJ (uo K))(iC:OkF P w K mg base 4 gA fZ (tZ K D))(iG:OkF P w K mg base 2 iZ iW uq)(DR:OkF P w K mg base 4 qX q_ (Vm D))(dj:OkI P w K mg base CX0 1 D.Hall_size fu (fY D))(dG:OkI P w K mg base CX0 3 D.Hall_offers d_ (gB D)):cF P w K mg base CX0 5 f fd jL (ug K D):=by
 refine F.ok lN ?_ ?_
 .rintro _ _ _ _ ⟨o,la,s,xs,fs,fcss,rfl,_⟩;rfl
 .rintro cdv A outer s H _ Q E hr ⟨o,la,sh,xs,fs,fcss,rfl,hn,hla,fl,rb,fn,q⟩;obtain⟨p,rms,hh,few,nd,hp,fcl,dn⟩:=hn.ex;have s0:=hn.s0;have b1:=hn.b1;have b2:=hn.b2;have n12:=hn.n12;have hI:=hh;obtain⟨dx,nn,ll,zs0,ho,_,_,_⟩:=hI;have z9:101<sizeLine:=by decide
  refine⟨_,(bL (cj (i:=2) lN.nd rfl (Or.inr rfl) (bO oM hr.md (by rfl) (bD (pv 1) bF)))
   (bL (cj (i:=3) lN.nd rfl (Or.inl rfl) (jd bF))
   (bL (iR PassesOwn.never rfl (j_ (by rfl) T.qw (bD (PE.any λC(hC:dI D C)=>(qN (pv 0) (T.cl C hC.fam) (T.oA C hC) dj hr.md)) bF).mono) (cM (i:=4) lN.nd rfl (Or.inl rfl))
    (bL (Ld (bN qK) vq vq ["offer"] (cZ ((PE.any λC(hC:dB D C)=>(xr (pv 0) (T.cl C hC.fam) (T.nF C hC) dG hr.md (bD (pv 4) bF)))).mono) (d7 (i:=0)) dz (bO iC hr.md (by rfl) (bD (pv 1) (bD (pv 0) (bD (pv 3) bF)))) (cM (i:=5) lN.nd rfl (Or.inl rfl)))
    (bM (dD (rH (pv 3) (bD (bO DR hr.md (by rfl) (bD (bO iG hr.md (by rfl) (bD (pv 5) bF)) (bD (bQ cQ (pv 2) bG (λ_ _=>rfl)) bF))) bF))))))
   (bM (cg (pv 3)))))),?_⟩
  refine bV λR1 hR1=>?_;refine cC ⟨_,rfl,la,xs,fs,rfl,hla,fl,rb.fz,by have:=rb.few;exact aM this (by decide),rb.lv.bd (by decide),λD2 p2 f2 g2=>?_⟩;have S2:Same H (upd (upd H D2 (.lst ((lvT fs).map V.int))) p2 (.tup [.ref D2,.int (lvB fs:Nat)])):=(Same.upd f2).trans (Same.upd g2);have k1:=Same.upd g2 (o:=.tup [.ref D2,.int (lvB fs:Nat)]) _ _ (bI (H:=H) (a:=D2) (o:=.lst ((lvT fs).map V.int)));have k2:upd (upd H D2 (.lst ((lvT fs).map V.int))) p2 (.tup [.ref D2,.int (lvB fs:Nat)]) p2=_:=bI;generalize upd (upd H D2 (.lst ((lvT fs).map V.int))) p2 (.tup [.ref D2,.int (lvB fs:Nat)])=H2 at S2 k1 k2 ⊢;have W0:(0:Int)<(lvB fs:Nat):=by have:=Gh rb.fz;lia
  have bW:=rb.lv;have bT:=rb.tops;have lT:(lvT fs).length=fs.length:=by unfold lvT;rw[ak]
  have vT:∀r,r<fs.length->((lvT fs).getD r 0:Rat)=(((lvB fs:Nat):Int):Rat)*wq fs r:=λr lr=>aa5 rb.fz lr;generalize hW:((lvB fs:Nat):Int)=W at *;generalize lvT fs=Ts at *;have WR:(0:Rat)<(W:Rat):=Rat.intCast_pos.mpr W0;subst hR1;dsimp only[cN,L2.start];refine bV λR1 hR1=>?_;refine cC ⟨bw _,λtl H3 S3 f3 h3=>?_⟩;subst hR1;dsimp only[cN,L2.start];refine bV λR1 hR1=>?_;refine cT (zu ⟨D.Hall,(by unfold dI;simp),_,rfl,o,dx,_,rfl,S3 _ _ (S2 _ _ ho),rfl,o,p,rms,rfl,(hh.same S2).same S3,rms.length,rfl,by have:=few.len;exact Y2 this (by decide),λk σ H'=>∃u5 u6 zs gs,σ=[some (.ref o),some (.ref la),some (.ref p2),some (.ref tl),u5,u6]/\Same H2 H'/\H' tl=some (.lst zs)/\FLK K H' zs gs/\Eu sh (fcss.take k) fs gs,⟨none,none,[],[],rfl,S3,h3,.nil,?_⟩,?_,?_⟩)
  .exact⟨rfl,λk fcs g e=>by simp at e⟩
  .rintro k σ' H' hk ⟨u5,u6,zs,gs,rfl,S,htl,flg,nx⟩;have eg:rms[k]?=some rms[k]:=aj hk;have gm:=aV hk;have ef:fcss[k]?=some (fcss[k]'(by lia)):=aj _;have dn:=dn k _ _ eg ef;have gf:=few.few _ gm;have gw:=few.ways _ gm;generalize rms[k]=g at *;generalize fcss[k]'(by lia)=fcs at *;have SH:=S2.trans S;have zl:zs.length=k:=by rw[flg.length,nx.1,bh];lia
   dsimp only[cN,List.set_cons_succ,List.set_cons_zero];refine bV λR2 hR2=>?_;refine cC (dM ⟨D.Hall,(by unfold dB;simp),_,rfl,o,dx,_,rfl,SH _ _ ho,rfl,_,rfl,o,p,k,rms,g,rfl,hh.same SH,eg,gf,gw,λr H4 os S4 f4 h4 of4=>⟨r,os,rfl,h4,?_,λD3 g3=>⟨λj ys Hc=>Same H4 Hc/\Hc D3=some (.lst ys)/\∃qs,FL (del [D3] Hc) ys qs/\qs.length=j/\(∀f∈qs,Fb f/\Bn 140 f.2)/\qs.map vl=((jk sh fs fcs).take j).map (· * (W:Rat)),⟨Same.upd g3,bI,[],.nil,rfl,by simp,rfl⟩,?_,?_⟩⟩⟩)
   .rw[(of4 [] (by intro a ha;cases ha)).len];exact aM gf (by decide)
   .rintro j y ys Hc hj ⟨S5,h5,qs,fl5,ql5,fb5,v5⟩ _ ha;have of5:=(of4 [] (by intro a ha;cases ha)).same jq;have zl:os.length=fcs.length:=by rw[of5.len,dn.len]
    have lj:j<fcs.length:=by rw[<- zl];exact(ao.mp hj).1
    have ef2:fcs[j]?=some fcs[j]:=aj lj;have ed:g.2[j]?=some (g.2[j]'(by rw[dn.len];exact lj)):=aj _;obtain⟨dN,dF⟩:=dn.at_ j _ _ ed ef2;generalize fcs[j]=fc at ef2 dN dF;generalize g.2[j]'(by rw[dn.len];exact lj)=d at ed dN;have S04:=SH.trans S4;obtain⟨tt,et,oN⟩:=of5.offN nd ed (dN.same S04);rw[hj]at et;cases et;have S05:=S04.trans S5;have S25:=S.trans (S4.trans S5);have dF':=dF;rw[<- fn,<- lT]at dF';refine⟨_,rfl,_,rfl,_,rfl,o,p,tt,p2,D2,rms,sh,fc.1,fc.2,Ts,W,rfl,hh.same S05,S05 _ _ hp,s0,b1,b2,oN.same S5,dF',S25 _ _ k2,S25 _ _ k1,W0,bW.up (by decide),bT,λr7 z7 o7 H7 S7 f7 h7 y0 bz b_y v7=>?_⟩;have n7:r7∉[D3]:=by
     simp only[YR];exact(bH h5 f7).symm
    refine⟨S7 _ _ h5,S7 _ _ ha,λb u e=>(bK (bH e g3)).trans (S7 _ _ (S5 _ _ e)),bI,qs++[(z7,o7)],?_,by rw[aA,ql5];rfl,λf hf=>?_,?_⟩
    .rw[pP (YR.mpr rfl)];exact(fl5.same (lM λb o _ e=>S7 _ _ e)).append (.cons (gK n7 h7) .nil)
    .rcases Y1.mp hf with hf|hf
     .exact fb5 f hf
     .rw[YR.mp hf];exact⟨⟨y0,bz.bd (by decide),b_y.bd (by decide)⟩,b_y⟩
    .have eq:(jk sh fs fcs)[j]?=some (oR sh fc.1 fc.2 fs):=by unfold jk;rw[aq,ef2];rfl
     rw[cB eq,bA,bA,v5]
     congr 1
     show[vl (z7,o7)]=[oR sh fc.1 fc.2 fs*(W:Rat)];rw[v7,Qx (W:=(W:Rat)) (h:=wq fs) λc hc=>vT c.1 (by rw[fn];exact(dF.ch c hc).1)];unfold oR
     congr 1
     grind
   .rintro ys Hc ⟨S5,h5,qs,fl5,ql5,fb5,v5⟩ hy;have ol:os.length=fcs.length:=by rw[(of4 [] (by intro a ha;cases ha)).len,dn.len]
    have lq:(jk sh fs fcs).length=fcs.length:=by unfold jk;rw[ak]
    rw[ol,<- lq,aP]at v5;rw[ol]at ql5;have S6:=S4.trans S5;have htl:=S6 _ _ htl;have S26:=S.trans S6;have fin:∀(pv:Addr)(gv:Ι)(H7:Hp),Same Hc H7->SqT K H7 pv [.int gv.1,.int gv.2]->(0<gv.2/\Int.gcd gv.1 gv.2=1/\(fcs=[]->gv=(0,1))/\(fcs≠[]->∃fc∈fcs,vl gv=oR sh fc.1 fc.2 fs)/\∀fc∈fcs,oR sh fc.1 fc.2 fs<=vl gv)->∃u5 u6 zs' gs',[some (V.ref o),some (.ref la),some (.ref p2),some (.ref tl),some (.int (k:Nat)),some (.ref D3)]=[some (V.ref o),some (.ref la),some (.ref p2),some (.ref tl),u5,u6]/\Same H2 (upd H7 tl (.lst (zs++[.ref pv])))/\upd H7 tl (.lst (zs++[.ref pv])) tl=some (.lst zs')/\FLK K (upd H7 tl (.lst (zs++[.ref pv]))) zs' gs'/\Eu sh (fcss.take (k+1)) fs gs':=by
     intro pv gv H7 S7 hv cv;refine⟨_,_,zs++[.ref pv],gs++[gv],rfl,λb u e=>(bK (bH e f3)).trans (S7 _ _ (S26 _ _ e)),bI,?_,?_⟩
     .exact((flg.same (S6.trans S7)).append (.cons hv .nil)).updL (S7 _ _ htl)
     .rw[cB ef];refine⟨by rw[aA,aA,nx.1];rfl,λi fcs' g' e1 e2=>?_⟩;rcases eZ e1 with⟨a1,a2⟩|⟨a1,a2⟩<;>rcases eZ e2 with⟨c1,c2⟩|⟨c1,c2⟩
      .exact nx.2 i fcs' g' a2 c2
      .have:=nx.1;lia
      .have:=nx.1;lia
      .subst a2;subst c2;exact cv
    subst hR2;dsimp only[cN,List.set_cons_succ,List.set_cons_zero];have r20:=few.len;refine⟨_,rfl,tl,_,rfl,htl,_,rfl,D3,ys,qs,rfl,h5,fl5.same jq,λf hf=>(fb5 f hf).1,λe0=>?_,λpg fg jg hpg tp=>?_⟩
    .have ef0:fcs=[]:=List.eq_nil_of_length_eq_zero (by rw[<- ql5,e0];rfl);refine⟨_,rfl,p2,_,1,_,rfl,rfl,S26 _ _ k2,cR,.non,W,rfl,.inl ⟨rfl,_,_,rfl,htl,by lia,fin D.NOUGHT (0,1) Hc (λ_ _ z=>z) (T.qM _) ⟨by decide,by decide,λ_=>rfl,λz=>absurd ef0 z,λfc hf=>by rw[ef0]at hf;cases hf⟩⟩⟩
    .obtain⟨bg,b140⟩:=fb5 fg (aB tp.at_);have key:∀(i:Nat)fc,fcs[i]?=some fc->∃g,qs[i]?=some g/\vl g=oR sh fc.1 fc.2 fs*(W:Rat):=λi fc e=>by
      have li:i<qs.length:=by rw[ql5];exact(ao.mp e).1
      have e1:(qs.map vl)[i]?=some (oR sh fc.1 fc.2 fs*(W:Rat)):=by
       rw[v5];unfold jk;rw[aq,aq,e];rfl
      rw[aq,aj li]at e1;exact⟨_,aj li,Option.some.inj e1⟩
     have lj:jg<fcs.length:=by rw[<- ql5];exact(ao.mp tp.at_).1
     have Wn:=fM W0;have vg:∀a b:Int,Low fg.1 (fg.2*W) a b->vl (a,b)*(W:Rat)=vl fg:=λa b l=>by
      have h1:=l.vl (Xs bg.pos W0);have h2:=UW (x:=fg.1) (y:=fg.2) (u:=W) (v:=1) bg.pos W0 (by decide);rw[Int.mul_one]at h2;rw[h1,h2,N_]
      grind
     refine⟨_,rfl,p2,_,1,_,rfl,rfl,S26 _ _ k2,cR,.ref pg,W,rfl,.inr ⟨pg,fg.1,fg.2,rfl,hpg,bg.pos,bg.bx,bg.b_y,W0,bW.bd (by decide),(Bn.mul b140 bW).bd (by decide),λr a b H7 S7 f7 h7 l=>⟨_,_,rfl,S7 _ _ htl,by lia,fin r (a,b) H7 S7 (.of h7) ⟨l.pos,l.gcd,λz=>?_,λ_=>?_,λfc hf=>?_⟩⟩⟩⟩
     .rw[z]at lj;cases lj
     .have ec:fcs[jg]?=some fcs[jg]:=aj lj;obtain⟨g',e1,e2⟩:=key jg _ ec;rw[tp.at_]at e1;cases e1;refine⟨_,aV lj,?_⟩;have:=vg a b l;rw[e2]at this
      grind
     .obtain⟨i,ei⟩:=aW hf;obtain⟨g',e1,e2⟩:=key i fc ei;have le:=tp.le g' (aB e1);rw[e2,<- vg a b l]at le;exact Rat.le_of_mul_le_mul_right le WR
  .rintro σ' H' ⟨u5,u6,zs,gs,rfl,S,htl,flg,nx⟩;rw[<- fcl,aP]at nx;subst hR1;exact⟨_,rfl,q tl H' zs gs (S2.trans S) (Same.free S2 f3) htl flg nx⟩
structure Rds(K:Frag)(H:Hp)(ls:Ε)(fss:Φ):Prop where
 len:ls.length=fss.length
 nd:ls.Nodup
 at_:∀(k:Nat)l fs,ls[k]?=some l->fss[k]?=some fs->∃zs,H l=some (.lst zs)/\FLK K H zs fs
theorem Rds.same{H H':Hp}{ls:Ε}{fss:Φ}(S:Same H H')(h:Rds K H ls fss):Rds K H' ls fss:=⟨h.len,h.nd,λk l fs e1 e2=>by
 obtain⟨zs,a,b⟩:=h.at_ k l fs e1 e2;exact⟨zs,S _ _ a,b.same S⟩⟩
theorem Rds.off{H:Hp}{ls:Ε}{fss:Φ}{t:Addr}{ys zs:Μ}(h:Rds K H ls fss)(ht:H t=some (.lst ys))(n:t∉ls):Rds K (upd H t (.lst zs)) ls fss:=⟨h.len,h.nd,λk l fs e1 e2=>by
 obtain⟨zs,a,b⟩:=h.at_ k l fs e1 e2;exact⟨zs,(bK λz=>n (by rw[<- z];exact aB e1)).trans a,b.updL ht⟩⟩
theorem Rds.snoc{H:Hp}{ls:Ε}{fss:Φ}{l:Addr}{zs:Μ}{fs:Ψ}(h:Rds K H ls fss)(n:l∉ls)(hl:H l=some (.lst zs))(fl:FLK K H zs fs):Rds K H (ls++[l]) (fss++[fs]):=by
 refine⟨by rw[aA,aA,h.len];rfl,?_,λk l' fs' e1 e2=>?_⟩
 .rw[List.nodup_append];refine⟨h.nd,by simp,λa ha b hb z=>?_⟩;rw[YR.mp hb]at z;exact n (z ▸ ha)
 .have ll:=h.len;rcases eZ e1 with⟨a1,a2⟩|⟨a1,a2⟩<;>rcases eZ e2 with⟨c1,c2⟩|⟨c1,c2⟩
  .exact h.at_ k l' fs' a2 c2
  .lia
  .lia
  .subst a2;subst c2;exact⟨zs,hl,fl⟩
structure Rounds(s:Ι)(fcss:Γ)(L:Nat)(fss:Φ):Prop where
 first:fss[0]?=some (List.replicate fcss.length (0,1))
 next:∀(k:Nat)fs gs,fss[k]?=some fs->fss[k+1]?=some gs->Eu s fcss fs gs
 ok:∀(k:Nat)fs,fss[k]?=some fs->Ku L k fs/\fs.length=fcss.length
structure Q5(s:Ι)(fcss:Γ)(L:Nat):Prop where
 s0:0<=s.1
 s1:s.1<=s.2
 s2:0<s.2
 L0:0<L
 d:∀fcs∈fcss,∀fc∈fcs,Y6 s L fc
theorem Ku.bd{L k m:Nat}{fs:Ψ}(h:Ku L k fs)(L0:0<L)(hk:k<=m)(m40:m<=40)(hm:L^m<=10^490)(few:fs.length<=12):aeG fs:=by
 have le:L^k<=10^490:=aM (XU L0 hk) hm;have p0:0<L^k:=Nat.pow_pos L0;have f42:42^k<=10^66:=aM (XU (by decide) (aM hk m40)) (by decide +kernel);have fz0:∀f∈fs,f.2.natAbs<=10^490/\f.2.natAbs ∣ L^k:=λf hf=>by
  obtain⟨a,b,c,d⟩:=h f hf;have c':f.2.natAbs ∣ L^k:=by
   have:=Int.natAbs_dvd_natAbs.mpr c;rwa[XT]at this
  exact⟨aM (Nat.le_of_dvd p0 c') le,c'⟩
 have top:∀f∈fs,f.1.natAbs<=10^96*f.2.natAbs:=λf hf=>by
  obtain⟨a,b,c,d⟩:=h f hf;refine aM d (Nat.mul_le_mul_right _ ?_);have:(10:Nat)^30*42^k<=10^30*10^66:=Nat.mul_le_mul_left _ f42;rw[<- Nat.pow_add]at this;exact this
 have fz:∀f∈fs,Fz f:=λf hf=>by
  obtain⟨a,b,c,d⟩:=h f hf;obtain⟨e,_⟩:=fz0 f hf;have b2:Bn 490 f.2:=e;have b1:Bn 586 f.1:=aM (top f hf) (by
   have:(10:Nat)^96*f.2.natAbs<=10^96*10^490:=Nat.mul_le_mul_left _ e;rw[<- Nat.pow_add]at this;exact this)
  exact⟨a,b1.bd (by decide),b2.bd (by decide)⟩
 have lv:lvB fs ∣ L^k:=Lv.Di.mpr λc hc=>by
  obtain⟨f,hf,rfl⟩:=YV.mp hc;exact(fz0 f hf).2
 have lvl:lvB fs<=10^490:=aM (Nat.le_of_dvd p0 lv) le;refine⟨fz,few,by unfold Bn;rw[XT];exact lvl,λx hx=>?_⟩;obtain⟨f,hf,rfl⟩:=YV.mp hx;have dv:=V_ hf (fz f hf).pos;obtain⟨q,eq⟩:=dv;have p:=(fz f hf).pos;have e2:((lvB fs:Nat):Int)/f.2=q:=by rw[eq,Int.mul_ediv_cancel_left _ (Int.ne_of_gt p)]
 show Bn 640 (f.1*(((lvB fs:Nat):Int)/f.2));rw[e2];have h1:f.1.natAbs*q.natAbs<=10^96*f.2.natAbs*q.natAbs:=Nat.mul_le_mul_right _ (top f hf);have h2:f.2.natAbs*q.natAbs=lvB fs:=by
  have:=ZH Int.natAbs eq;rw[XT,Int.natAbs_mul]at this;exact this.symm
 rw[Nat.mul_assoc,h2]at h1;have h3:(10:Nat)^96*lvB fs<=10^96*10^490:=Nat.mul_le_mul_left _ lvl;rw[<- Nat.pow_add]at h3;unfold Bn;rw[Int.natAbs_mul];exact aM h1 (aM h3 (XU (by decide) (by decide)))
def Jg(K:Frag)(D:Adr)(frees:Μ):Sp:=λvs H Q E=>vs.length=1/\ug K D (frees++vs) H Q E
def Iz(K:Frag)(D:Adr)(frees:Μ)(f:Addr):Sp:=λvs H Q _=>∃(o l0:Addr)(many L:Nat)(s:Ι)(fcss:Γ)(xs0:Μ),frees=[.ref o]/\vs=[.ref l0,.int many,.ref f]/\many<=40/\uy K D H o s fcss/\Q5 s fcss L/\L^many<=10^490/\H l0=some (.lst xs0)/\FLK K H xs0 (List.replicate fcss.length (0,1)) /\
 ∀t ls fss H',Same H H'->H t=none->(∀l∈ls,H l=none)->t∉l0::ls->H' t=some (.lst ((l0::ls).map V.ref))->Rds K H' (l0::ls) fss->fss.length=many+1->Rounds s fcss L fss->Q (.ref t) H'
theorem CJ{n:Nat}(h:1<=n):ixN n (-1)=some (n-1):=by
 unfold ixN;rw[ZZ (Int.not_le_of_gt (by decide)),ZY (by lia)]
 congr 1
 lia
theorem R3{xs:Μ}{x:V} : atI (xs++[x]) (-1)=some x:=by
 unfold atI;rw[aA,List.length_singleton,CJ (Nat.le_add_left _ _)];show(xs++[x])[xs.length+1-1]?=some x;rw[Nat.add_sub_cancel,aC (aF _),Nat.sub_self];rfl
theorem Dv{fr fo:Addr}{fd:FuncData}{frees:Μ}{kL:Nat}(F:Fun K pC pC qu fr fd)(T:Txt K mg D)(aa8:OkL P w K mg base 6 fo ["ahead"] (Jg K D frees)):cF P w K mg base CX0 7 fr fd pH (Iz K D frees fo):=by
 refine F.ok uF ?_ ?_
 .rintro _ _ _ _ ⟨o,l0,many,L,s,fcss,xs0,_,rfl,_⟩;rfl
 .rintro cdv A outer s H _ Q E hr ⟨o,l0,many,L,sh,fcss,xs0,rfl,rfl,m40,hn,hL,hm,hl0,fl0,q⟩;have z9:101<sizeLine:=by decide
  have n12:=hn.n12;refine⟨_,(bL (cj (i:=3) uF.nd rfl (Or.inl rfl) (jd (bD (pv 0) bF)))
   (bL (I9 PassesOwn.never (cI zT (b_ dw (by rfl) T.iH PySem.boot_len (bD (pv 3) bF)) (pv 1) (cJ _))
    (bM (dD (rH (pv 3) (bD (aaV aa8 hr.md (pv 2) (bD (bQ bY (pv 3) (Et xT bG) (λ_ _=>rfl)) bF)) bF)))))
   (bM (cg (pv 3))))),?_⟩
  refine cC ⟨_,rfl,Zb,λt H1 S1 f1 h1=>?_⟩;dsimp only[cN,L2.start];have nt0:t≠l0:=(bH hl0 f1).symm;refine bV λR1 hR1=>?_;refine cT ⟨λm σ H'=>∃(ls:Ε)(fss:Φ),m=many+1-fss.length/\σ=[some (.ref l0),some (.int many),some (.ref fo),some (.ref t)]/\Same H H'/\(∀l∈ls,H l=none)/\t∉l0::ls/\H' t=some (.lst ((l0::ls).map V.ref))/\Rds K H' (l0::ls) fss/\fss.length<=many+1/\Rounds sh fcss L fss,⟨many,[],[List.replicate fcss.length (0,1)],by simp,rfl,S1,by simp,by simpa using nt0,h1,⟨rfl,by simp,λk l fs e1 e2=>?_⟩,by simp,⟨rfl,λk fs gs _ e=>by simp at e,λk fs e=>?_⟩⟩,?_⟩
  .have k0:k=0:=by have:=(ao.mp e1).1;simp at this;exact this
   subst k0;cases e1;cases e2;exact⟨xs0,S1 _ _ hl0,fl0.same S1⟩
  .have k0:k=0:=by have:=(ao.mp e).1;simp at this;exact this
   subst k0;cases e;refine⟨λf hf=>?_,aN⟩;rw[(XW.mp hf).2];exact⟨by decide,by decide,Int.one_dvd _,bw _⟩
  .rintro m σ H' ⟨ls,fss,rfl,rfl,S,new,nt,ht,rd,le,ro⟩;have ll:=rd.len;refine⟨_,rfl,t,_,rfl,ht,_,rfl,_,_,rfl,rfl,decide (fss.length<=many),?_,?_⟩
   .refine ZH V.bl (decide_eq_decide.mpr ?_);rw[ak,ll];lia
   by_cases c:fss.length<=many
   .rw[Zs c];have f0:0<fss.length:=by rw[<- ll];simp
    obtain⟨lx,la,el,ela⟩ : ∃lx la,l0::ls=lx++[la]/\(l0::ls)[fss.length-1]?=some la:=by
     have:(l0::ls)≠[]:=by simp
     refine⟨(l0::ls).dropLast,(l0::ls).getLast this,(List.dropLast_concat_getLast this).symm,?_⟩;rw[<- ll,<- List.getLast?_eq_getElem?,List.getLast?_eq_some_getLast this]
    have ef:fss[fss.length-1]?=some (fss[fss.length-1]'(by lia)):=aj _;obtain⟨zs,hz,flz⟩:=rd.at_ _ la _ ela ef;obtain⟨rok,rl⟩:=ro.ok _ _ ef;have rb:=rok.bd hL.L0 (m:=many) (aM (Nat.sub_le _ _) c) m40 hm (aM (Nat.le_of_eq rl) n12);generalize fss[fss.length-1]'(by lia)=fs at *;have aL:atI ((l0::ls).map V.ref) (-1)=some (.ref la):=by rw[el,bA];exact R3
    refine⟨λσ' H''=>∃(ls':Ε)(fss':Φ),fss'.length=fss.length+1/\σ'=[some (.ref l0),some (.int many),some (.ref fo),some (.ref t)]/\Same H H''/\(∀l∈ls',H l=none)/\t∉l0::ls'/\H'' t=some (.lst ((l0::ls').map V.ref))/\Rds K H'' (l0::ls') fss'/\Rounds sh fcss L fss',?_,?_⟩
    .rintro σ' H'' ⟨ls',fss',a1,a2,a3,a4,a5,a6,a7,a8⟩;exact⟨_,(by lia),ls',fss',rfl,a2,a3,a4,a5,a6,a7,by lia,a8⟩
    refine⟨_,rfl,t,_,rfl,ht,_,rfl,rfl,_,rfl,1,rfl,t,_,_,_,rfl,rfl,ht,aL,rfl,o,la,sh,zs,fs,fcss,rfl,hn.same S,hz,flz,rb,rl,λr H3 ys gs S3 f3 h3 fl3 nx=>?_⟩;have ht3:=S3 _ _ ht;have nrl:r∉l0::ls:=λz=>by
     obtain⟨k,hk⟩:=aW z;have lk:k<fss.length:=by rw[<- ll];exact(ao.mp hk).1
     obtain⟨zs',a,_⟩:=rd.at_ k r _ hk (aj lk);rw[f3]at a;cases a
    have nrt:t≠r:=bH ht f3;have ntt:t∉l0::(ls++[r]):=λz=>by
     rw[<- List.cons_append]at z;rcases Y1.mp z with z|z
     .exact nt z
     .exact nrt (YR.mp z)
    refine⟨_,_,rfl,ht3,by rw[ak,ll];lia,ls++[r],fss++[gs],by simp,rfl,λb u e=>(bK (bH e f1)).trans (S3 _ _ (S _ _ e)),λl hl=>?_,ntt,by rw[bI,<- List.cons_append,bA];rfl,?_,?_⟩
    .rcases Y1.mp hl with hl|hl
     .exact new l hl
     .rw[YR.mp hl];exact Same.free S f3
    .rw[<- List.cons_append];refine Rds.off ((rd.same S3).snoc nrl h3 fl3) ht3 ?_;rw[List.cons_append];exact ntt
    .refine⟨by rw[aD f0];exact ro.first,λk fs' gs' e1 e2=>?_,λk fs' e=>?_⟩
     .rcases eZ e2 with⟨c1,c2⟩|⟨c1,c2⟩
      .rw[aD (Nat.lt_trans (X1 _) c1)]at e1;exact ro.next k fs' gs' e1 c2
      .rw[aD (by lia)]at e1;have:k=fss.length-1:=by lia
       rw[this,ef]at e1;cases e1;subst c2;exact nx
     .rcases eZ e with⟨c1,c2⟩|⟨c1,c2⟩
      .exact ro.ok k fs' c2
      .subst c2;have:=nx.ok hL.s0 hL.s1 hL.s2 hL.d rok;rw[show fss.length-1+1=k by lia]at this;exact⟨this,nx.1⟩
   .rw[Zp c];show R1 _ _ _;subst hR1;exact⟨_,rfl,q t ls fss H' S f1 new nt ht rd (by lia) ro⟩
def abe:Expr:=match fQ jG with
 |[_,.Return (some (.Call _ [_,_,l] _ _)) _]=>l
 |_=>.Name "x" ⟨0,0,0,0⟩
def ae6:Arguments:=match abe with|.Lambda a _ _ _=>a|_=>iI jG
def aeB:Expr:=match abe with|.Lambda _ b _ _=>b|_=>abe
def Zi:Scope:=match abe with|.Lambda _ _ c _=>c|_=>bN jG
def lamP:Pos:=match abe with|.Lambda _ _ _ p=>p|_=>⟨0,0,0,0⟩
abbrev Qj:Str:=(fG++".<locals>.")++"<lambda>"
theorem afp{k0:Nat}(nG:∀base,OkF P w K mg base 5 jN jL (ug K D)){base':Heap}{frees:Μ}{f c cc:Addr}{ctv pm:Value}(ho:base'.get? f=some (kla_obj "<lambda>" Qj ae6 aeB Zi [("hall",cc)] pm c ctv))(hc:base'.CodeRec (.ref c) Qj)(hs:zE base' Zi [("hall",cc)] frees):OkL P w K mg base' 6 f ["ahead"] (Jg K D frees):=by
 refine⟨_,_,aex ho hc rfl rfl rfl (by decide +kernel) rfl (λy hy=>?_) hs (λvs H Q E h=>h.1) (λA outer s H v Q E hr h=>?_),.all (λus e=>?_),ho,rfl⟩
 .have:∀y∈Zi.names,y.2=.free->y.1="hall":=by decide +kernel
  obtain rfl:y="hall":=this _ (PySem.mem_of_lookup hy) rfl;exact⟨cc,rfl⟩
 .obtain⟨_,h⟩:=h;cases hs with
  |@cons _ _ vh _ _ _ _ _ _ _ _ hs =>
   cases hs;refine⟨_,bO (nG base') hr.md (by rfl) (bD (pv 1) (bD (pv 0) bF)),?_⟩;exact⟨_,rfl,_,rfl,h⟩
 .match us,e with
  |[_],_=>rfl
def qZ(K:Frag)(D:Adr):Sp:=λvs H Q E=>∃(o:Addr)(v:V),vs=[.ref o,v]/\Odd H v/\(¬xU v->E (.ref D.NoNumber) none H) /\
 (xU v->∃(many L:Nat)(s:Ι)(fcss:Γ)(oc:Η),v=.int many/\vP D.T_best_rounds lamP Qj H oc/\uy K D (wo (D.T_best_rounds::oc.toList) H) o s fcss/\Q5 s fcss L/\L^many<=10^490 /\
  ∀t ls fss H' c,Same (wo (D.T_best_rounds::oc.toList) H) (wo [D.T_best_rounds,c] H')->vP D.T_best_rounds lamP Qj H' (some c)->(∀c0,oc=some c0->c=c0)->H t=none->(∀l∈ls,H l=none)->t∉ls->H' t=some (.lst (ls.map V.ref))->Rds K (wo [D.T_best_rounds,c] H') ls fss->fss.length=many+1->Rounds s fcss L fss->Q (.ref t) H')
theorem JF{f c0:Addr}{fd:FuncData}(F:Fun K fG fG jG f fd)(hc:fd.code=.ref c0)(hC:codeHdIn K c0 D.T_best_rounds=true)(T:Txt K mg D)(hB:base.BuiltinsAt mg D.T_best_rounds)(nG:∀base,OkF P w K mg base 5 jN jL (ug K D))(tQ:OkX P w K mg base 2 lZ mz (M8 D))(dj:OkI P w K mg base CX0 1 D.Hall_size fu (fY D)):cF P w K mg base (CXO P w) 8 f fd gq (qZ K D):=by
 obtain⟨fR,fdR,FR,bR,mR⟩:=T.FT;refine F.okXc hc I8 (λvs H Q E h=>?_) (λA outer s H vs Q E hr h=>?_)
 .obtain⟨o,v,rfl,_⟩:=h
  rfl
 .obtain⟨o,v,rfl,ov,e,q⟩:=h;refine⟨_,(bL (dD (eN tQ hr.md (by rfl) fK (bD (pv 1) bF)))
   (bM (cg (Vo (Pt:=D.T_best_rounds) (pos:=lamP) (qual:=Qj) (pm:=(mg "__name__").getD .none) (params:=ae6) (body:=aeB) (scope:=Zi) (cl:=[("hall",s.heap.objs.size+1)]) (js:=[0]) (spL:=Jg K D) (spR:=Iz K D) (by rfl) mR FR.kp (.all bR) hr.md (λbase' frees f V=>Dv (kL:=6) FR T V) (λbase' frees f c ctv ho hc hs=>afp (k0:=0) nG ho hc hs) (by rfl) (λq hq=>by rw[YR.mp hq];exact⟨rfl,rfl,rfl⟩) (by simp) (λq hq=>rfl)
    (bD (bU afk (jd (bD (jo (by rfl) T.uE) bF)) (PE.any λC(hC:dI D C)=>(qN (pv 0) (T.cl C hC.fam) (T.oA C hC) dj hr.md))) (bD (pv 1) (bD (afA (params:=ae6) (body:=aeB) (scope:=Zi) (pos:=lamP) hB rfl hC (by rfl)) bF))))))),?_⟩
  refine cT ⟨_,rfl,v,rfl,ov,λmn=>?_,λnm=>e nm⟩;obtain⟨many,L,sh,fcss,oc,rfl,la,hn,hL,hm,q⟩:=q mn;have m40:many<=40:=by have:=mn.2;lia
  obtain⟨p,rms,hh,few,nd,hp,fcl,dn⟩:=hn.ex;have hh:=hh.same nW;have hI:=hh;obtain⟨dx,nn,ll,zs0,ho,_,_,_⟩:=hI;have z9:101<sizeLine:=by decide
  have r20:=few.len;have fr:(List.replicate rms.length [V.ref D.NOUGHT]).flatten=List.replicate fcss.length (.ref D.NOUGHT):=by rw[<- fcl,List.flatten_replicate_singleton]
  dsimp only;refine dX ⟨Zb,λp1 H1 S1 f1 h1=>⟨D.Hall,(by unfold dI;simp),_,rfl,o,dx,_,rfl,S1 _ _ ho,rfl,o,p,rms,rfl,hh.same S1,p1,_,_,rfl,rfl,h1,by lia,by lia,?_,λl0 g0=>?_⟩⟩
  .show 1*_<=_;omega
  rw[Int.toNat_natCast,fr];have S2:Same H (upd H1 l0 (.lst (List.replicate fcss.length (.ref D.NOUGHT)))):=S1.trans (Same.upd g0);have k0:upd H1 l0 (.lst (List.replicate fcss.length (.ref D.NOUGHT))) l0=some (.lst (List.replicate fcss.length (.ref D.NOUGHT))):=bI;have fl0:H l0=none:=Same.free S1 g0;generalize upd H1 l0 (.lst (List.replicate fcss.length (.ref D.NOUGHT)))=H3 at S2 k0 ⊢;have la3:vP D.T_best_rounds lamP Qj H3 oc:=by
   cases oc with
   |none=>exact S2 _ _ la
   |some c=>exact⟨S2 _ _ la.1,S2 _ _ la.2⟩
  refine⟨_,rfl,oc,la3,λf4 c H4 ff fc c1 c2 la4 hf eo=>⟨f4,c,[.ref o],hf,fc,la4,rfl,?_⟩⟩;have pt3:∃t,H3 D.T_best_rounds=some (.tbl t):=by
   cases oc with
   |none=>exact⟨_,la3⟩
   |some c=>exact⟨_,la3.1⟩
  have S3:Same (wo (D.T_best_rounds::oc.toList) H3) (wo [D.T_best_rounds,c,f4] H4):=λb u e=>by
   obtain⟨nb,e'⟩:=sJ e;have n1:b≠D.T_best_rounds:=λz=>nb (by rw[z];exact aO);have n2:b≠c:=λz=>by
    cases oc with
    |none=>rw[z,c1 rfl]at e';cases e'
    |some c0=>exact nb (by rw[z,c2 c0 rfl];simp)
   have n3:b≠f4:=λz=>by rw[z,ff]at e';cases e'
   rw[oY (by simp;exact⟨n1,n2,n3⟩),eo b n1 n2 n3];exact e'
  have S23:Same (wo (D.T_best_rounds::oc.toList) H) (wo (D.T_best_rounds::oc.toList) H3):=λb u e=>by
   obtain⟨nb,e'⟩:=sJ e;rw[oY nb];exact S2 _ _ e'
  have SS:=S23.trans S3;have in3:∀{b:Addr}{xs:Μ},H3 b=some (.lst xs)->wo (D.T_best_rounds::oc.toList) H3 b=some (.lst xs):=λ{b xs}e=>by
   refine(oY λz=>?_).trans e;rcases YU.mp z with z|z
   .obtain⟨t,ht⟩:=pt3;rw[z,ht]at e;cases e
   .cases oc with
    |none=>cases z
    |some c0 =>
     rw[YR.mp z,la3.2]at e;cases e
  have flk:∀n,FLK K (wo [D.T_best_rounds,c,f4] H4) (List.replicate n (.ref D.NOUGHT)) (List.replicate n (0,1)):=λn=>by
   induction n with
   |zero=>exact .nil
   |succ n ih=>exact .cons (T.qM _) ih
  refine⟨o,l0,many,L,sh,fcss,_,rfl,rfl,m40,hn.same SS,hL,hm,S3 _ _ (in3 k0),flk _,λt ls fss H5 S5 ft new nt ht rd len ro H6 e6 la6 n1 n2 n3=>?_⟩;have S56:Same H5 (wo [D.T_best_rounds,c] H6):=λb u e=>by
   have a1:b≠D.T_best_rounds:=λz=>by rw[z,n1]at e;cases e
   have a2:b≠c:=λz=>by rw[z,n2]at e;cases e
   rw[oY (by simp;exact⟨a1,a2⟩),e6 b a1 a2];exact e
  have un:∀b u,H5 b=some u->wo [D.T_best_rounds,c,f4] H4 b=none->H b=none:=λb u e z=>by
   have a1:b≠D.T_best_rounds:=λz=>by rw[z,n1]at e;cases e
   have a2:b≠c:=λz=>by rw[z,n2]at e;cases e
   have a3:b≠f4:=λz=>by rw[z,n3]at e;cases e
   rw[oY (by simp;exact⟨a1,a2,a3⟩),eo b a1 a2 a3]at z;exact Same.free S2 z
  refine q t (l0::ls) fss H6 c (SS.trans (S5.trans S56)) la6 c2 (un t _ ht ft) (λl hl=>?_) nt (nW _ _ (S56 _ _ ht)) (rd.same S56) len ro;rcases YU.mp hl with rfl|hl'
  .exact fl0
  .obtain⟨k,hk⟩:=aW hl;have lk:k<fss.length:=by rw[<- rd.len];exact(ao.mp hk).1
   obtain⟨zs,a,_⟩:=rd.at_ k l _ hk (aj lk);exact un l _ a (new l hl')
def Wb(fs:Ψ):Prop:=∀f∈fs,0<f.2/\Bn 586 f.1/\Bn 490 f.2
theorem Ku.wb{L k m:Nat}{fs:Ψ}(h:Ku L k fs)(L0:0<L)(hk:k<=m)(m40:m<=40)(hm:L^m<=10^490):Wb fs:=λf hf=>by
 obtain⟨a,b,c,d⟩:=h f hf;have le:L^k<=10^490:=aM (XU L0 hk) hm;have c':f.2.natAbs ∣ L^k:=by
  have:=Int.natAbs_dvd_natAbs.mpr c;rwa[XT]at this
 have e:f.2.natAbs<=10^490:=aM (Nat.le_of_dvd (Nat.pow_pos L0) c') le;have f42:42^k<=10^66:=aM (XU (by decide) (aM hk m40)) (by decide +kernel);refine⟨a,aM d ?_,e⟩;have h1:(10:Nat)^30*42^k<=10^30*10^66:=Nat.mul_le_mul_left _ f42;rw[<- Nat.pow_add]at h1;have h2:=Nat.mul_le_mul h1 e;rw[<- Nat.pow_add]at h2;exact h2
structure ach(fs gs:Ψ)(M:Rat):Prop where
 ex:∃(k:Nat)(f g:Ι),fs[k]?=some f/\gs[k]?=some g/\M=vl g-vl f
 le:∀(k:Nat)(f g:Ι),fs[k]?=some f->gs[k]?=some g->vl g-vl f<=M
structure ad5(fs gs:Ψ)(M:Rat):Prop where
 ex:∃(k:Nat)(f g:Ι),fs[k]?=some f/\gs[k]?=some g/\M=vl g-vl f
 ge:∀(k:Nat)(f g:Ι),fs[k]?=some f->gs[k]?=some g->M<=vl g-vl f
theorem ach.uniq{fs gs:Ψ}{M N:Rat}(h:ach fs gs M)(g:ach fs gs N):M=N:=by
 obtain⟨k,f,x,a,b,rfl⟩:=h.ex;obtain⟨k',f',x',a',b',rfl⟩:=g.ex;exact Rat.le_antisymm (g.le k f x a b) (h.le k' f' x' a' b')
theorem ad5.uniq{fs gs:Ψ}{M N:Rat}(h:ad5 fs gs M)(g:ad5 fs gs N):M=N:=by
 obtain⟨k,f,x,a,b,rfl⟩:=h.ex;obtain⟨k',f',x',a',b',rfl⟩:=g.ex;exact Rat.le_antisymm (h.ge k' f' x' a' b') (g.ge k f x a b)
theorem aao{s:Ι}(s0:0<=s.1)(s1:s.1<s.2):0<=vl s/\0<1-vl s:=by
 have p:(0:Rat)<(s.2:Rat):=Rat.intCast_pos.mpr (Int.lt_of_le_of_lt s0 s1);have q0:0<=vl s:=by
  unfold vl;rw[yG p,Rat.zero_mul];exact Rat.intCast_nonneg.mpr s0
 have q1:vl s<1:=by
  unfold vl;rw[Rat.div_lt_iff p,Rat.one_mul,Rat.intCast_lt_intCast];exact s1
 exact⟨q0,by grind⟩
theorem aa7{x y:Ι}(a0:0<x.2)(a1:Int.gcd x.1 x.2=1)(b0:0<y.2)(e:vl x=vl y):x.2 ∣ y.2:=by
 have e3:((y.2.natAbs:Nat):Int)=y.2:=by exact Int.natAbs_of_nonneg (XZ b0)
 have:=Jc (N:=y.2.natAbs) a0 a1 ⟨y.1,by
  rw[e3,e];have:=fM b0;unfold vl
  grind⟩
 rwa[e3]at this
theorem Xk{s:Ι}{fcss:Γ}{fs gs hs:Ψ}(h:Eu s fcss fs gs)(g:Eu s fcss fs hs):gs=hs:=by
 refine List.ext_getElem? λk=>?_;by_cases lk:k<fcss.length
 .have e1:gs[k]?=some (gs[k]'(by rw[h.1];exact lk)):=aj _;have e2:hs[k]?=some (hs[k]'(by rw[g.1];exact lk)):=aj _;rw[e1,e2];obtain⟨a0,a1,a2,a3,a4⟩:=h.2 k _ _ (aj lk) e1;obtain⟨b0,b1,b2,b3,b4⟩:=g.2 k _ _ (aj lk) e2;generalize gs[k]'(by rw[h.1];exact lk)=x at *;generalize hs[k]'(by rw[g.1];exact lk)=y at *;by_cases z:fcss[k]=[]
  .rw[a2 z,b2 z]
  .obtain⟨c1,m1,v1⟩:=a3 z;obtain⟨c2,m2,v2⟩:=b3 z;have e:vl x=vl y:=Rat.le_antisymm (by rw[v1];exact b4 c1 m1) (by rw[v2];exact a4 c2 m2);have c:=QZ a0 b0 e;have dx:=aa7 a0 a1 b0 e;have dy:=aa7 b0 b1 a0 e.symm;have e2:x.2=y.2:=Int.dvd_antisymm (XZ a0) (XZ b0) dx dy;have e1:x.1=y.1:=by
    rw[e2]at c;exact Int.eq_of_mul_eq_mul_right (Int.ne_of_gt b0) c
   rw[Prod.ext e1 e2]
 .rw[List.getElem?_eq_none (by rw[h.1];exact Nat.le_of_not_lt lk),List.getElem?_eq_none (by rw[g.1];exact Nat.le_of_not_lt lk)]
def ux:Sp:=λvs H Q _=>∃(a b:Int),vs=[.int a,.int b]/\0<b/\Bd b/\∀p,H p=none->Q (.ref p) (upd H p (.tup [.int (Ac.lw a b).1,.int (Ac.lw a b).2]))
theorem X3(F:Fun K o_ o_ Hg f fd)(Ly:OkF P w K mg base 1 Ea Ej Ju):cF P w K mg base CX0 2 f fd pI ux:=by
 refine F.ok Lq ?_ ?_
 .rintro _ _ _ _ ⟨a,b,rfl,_⟩;rfl
 .rintro cdv A outer s H _ Q E hr ⟨a,b,rfl,hb,hbd,q⟩;refine⟨_,(bL (cj (i:=2) Lq.nd rfl (Or.inl rfl) (bO Ly hr.md (by rfl) (bD (pv 0) (bD (pv 1) bF))))
   (bM (cg (mO (bD (bU o8 (pv 0) (pv 2)) (bD (bU o8 (pv 1) (pv 2)) bF)))))),?_⟩
  have g0:=Ml (a:=a) (b:=b) (Int.ne_of_gt hb);have g1:=U0 (a:=a) (b:=b) (Int.ne_of_gt hb) hbd;unfold Ju
  walk_at "rd"
  rw[ur _ g0,ur _ g0];exact⟨by exact Int.ne_of_gt g0,g1,by exact Int.ne_of_gt g0,g1,d8,q⟩
theorem Same.sql{K:Frag}{H H':Hp}{a:Addr}{xs:Μ}(S:Same H H')(h:SqL K H a xs):SqL K H' a xs:=by
 rcases h with(h|⟨o,h⟩)|h
 .exact .inl (.inl (S _ _ h))
 .exact .inl (.inr ⟨o,S _ _ h⟩)
 .exact .inr h
theorem Ob{α:Type} : ∀{l:List α},l.length=2->∃a b,l=[a,b]
 |[a,b],_=>⟨a,b,rfl⟩
theorem Yz{α:Type}{l:List α}(h:l.length=3):∃a b c,l=[a,b,c]:=by
 match l,h with
 |[a,b,c],_=>exact⟨a,b,c,rfl⟩
structure aa2(n m:Nat)(sm:Bool):Prop where
 n12:n<=12
 m40:m<=40
 ok:(sm=true/\((n<=2/\m<=14)\/n<=1))\/(sm=false/\(n=0\/(n<=8/\m<=2)\/(n<=4/\m<=5)))
def Je:Sp:=λvs H Q _=>∃c:Int,vs=[.int c]/\∀(n m:Nat)(sm:Bool)r H',aa2 n m sm->Same H H'->H' r=some (.tup [.int n,.int m,.bl sm])->Q (.ref r) H'
theorem Z0(F:Fun K yF yF NQ f fd)(T:Txt K mg D)(eG:OkF P w K mg base 1 jA jD jz):cF P w K mg base CX0 2 f fd wZ Je:=by
 refine F.ok QG ?_ ?_
 .rintro _ _ _ _ ⟨c,rfl,_⟩;rfl
 .rintro cdv A outer s H _ Q E hr ⟨c,rfl,q⟩;refine⟨_,(bL (cj (i:=1) QG.nd rfl (Or.inl rfl) (bO eG hr.md (by rfl) (bD (pv 0) (bD bG bF))))
   (bL (cW (cI mZ (bU cY (bQ bY (pv 1) bG (λ_ _=>rfl)) bG) bG (cJ _))
    (bM (cg (dH (bD (bU dW bG (bU cY (bQ bY (pv 1) bG (λ_ _=>rfl)) bG)) (bD (bU dW bG (bU cY (bQ bY (pv 1) bG (λ_ _=>rfl)) bG)) (bD fU bF))))))
    cA)
   (bL (cW (cI mZ (bU cY (bQ bY (pv 1) bG (λ_ _=>rfl)) bG) bG (cJ _))
    (bM (cg (dH (bD bG (bD (bU dW bG (bU cY (bQ bY (pv 1) bG (λ_ _=>rfl)) bG)) (bD fU bF))))))
    cA)
   (bL (cW (cI mZ (bU cY (bQ bY (pv 1) bG (λ_ _=>rfl)) bG) bG (cJ _))
    (bM (cg (dH (bD bG (bD (bU cY (bQ bY (pv 1) bG (λ_ _=>rfl)) bG) (bD fU bF))))))
    cA)
   (bL (cW (cI mZ (bU cY (bQ bY (pv 1) bG (λ_ _=>rfl)) bG) bG (cJ _))
    (bM (cg (dH (bD (bU dW bG (bU cY (bQ bY (pv 1) bG (λ_ _=>rfl)) bG)) (bD (bU cY (bQ bY (pv 1) bG (λ_ _=>rfl)) bG) (bD fU bF))))))
    cA)
   (bM (cg (dH (bD (bU dW bG (bU cY (bQ bY (pv 1) bG (λ_ _=>rfl)) bG)) (bD (bU cY (bQ bY (pv 1) bG (λ_ _=>rfl)) bG) (bD fU bF))))))))))),?_⟩
  refine cC ⟨_,rfl,c,3,rfl,by decide,λl xs H1 S1 fl hl ln hx=>?_⟩;obtain⟨a,b,e,rfl⟩:=Yz ln;have l3:3<=sizeLine:=by decide
  have go:∀(n m:Nat)(x y:Int)(sm:Bool)r H',x=n->y=m->aa2 n m sm->Same H1 H'->H' r=some (.tup [.int x,.int y,.bl sm])->Q (.ref r) H':=λn m x y sm r H' e1 e2 sz S h=>by
   subst e1;subst e2;exact q n m sm r H' sz (S1.trans S) h
  dsimp only[cN,L2.start];refine bV λR1 hR1=>?_;refine cT ⟨_,rfl,l,_,0,_,rfl,rfl,hl,c7,a,16,rfl,rfl,(show(0:Int)<16 by decide),rfl,decide (V.int (a%16)=V.int 1),rfl,?_⟩;by_cases e1:V.int (a%16)=V.int 1
  .rw[Zs e1];exact⟨_,rfl,l,_,1,_,rfl,rfl,hl,cR,b,2,rfl,rfl,(show(0:Int)<2 by decide),_,_,rfl,rfl,_,rfl,l,_,2,_,rfl,rfl,hl,cu (j:=2) rfl,e,8,rfl,rfl,(show(0:Int)<8 by decide),_,_,rfl,rfl,l3,λr H2 S2 f2 h2=>go (1+b%2).toNat (7+e%8).toNat _ _ true r H2 (by lia) (by lia) ⟨by lia,by lia,.inl ⟨rfl,.inl ⟨by lia,by lia⟩⟩⟩ S2 h2⟩
  rw[Zp e1];show R1 _ _ _;subst hR1;refine bV λR1 hR1=>?_;refine cT ⟨_,rfl,l,_,0,_,rfl,rfl,hl,c7,a,16,rfl,rfl,(show(0:Int)<16 by decide),rfl,decide (V.int (a%16)=V.int 4),rfl,?_⟩;by_cases e1:V.int (a%16)=V.int 4
  .rw[Zs e1];exact⟨_,rfl,l,_,2,_,rfl,rfl,hl,cu (j:=2) rfl,e,8,rfl,rfl,(show(0:Int)<8 by decide),_,_,rfl,rfl,l3,λr H2 S2 f2 h2=>go 1 (33+e%8).toNat _ _ true r H2 (Eq.symm (by decide)) (by lia) ⟨by exact Nat.le_add_left _ _,by lia,.inl ⟨rfl,.inr (aF _)⟩⟩ S2 h2⟩
  rw[Zp e1];show R1 _ _ _;subst hR1;refine bV λR1 hR1=>?_;refine cT ⟨_,rfl,l,_,0,_,rfl,rfl,hl,c7,a,16,rfl,rfl,(show(0:Int)<16 by decide),rfl,decide (V.int (a%16)=V.int 2),rfl,?_⟩;by_cases e1:V.int (a%16)=V.int 2
  .rw[Zs e1];exact⟨_,rfl,l,_,2,_,rfl,rfl,hl,cu (j:=2) rfl,e,41,rfl,rfl,(show(0:Int)<41 by decide),l3,λr H2 S2 f2 h2=>go 0 (e%41).toNat _ _ false r H2 (Eq.symm (by decide)) (by lia) ⟨by exact bw _,by lia,.inr ⟨rfl,.inl rfl⟩⟩ S2 h2⟩
  rw[Zp e1];show R1 _ _ _;subst hR1;refine bV λR1 hR1=>?_;refine cT ⟨_,rfl,l,_,0,_,rfl,rfl,hl,c7,a,16,rfl,rfl,(show(0:Int)<16 by decide),rfl,decide (V.int (a%16)=V.int 3),rfl,?_⟩;by_cases e1:V.int (a%16)=V.int 3
  .rw[Zs e1];exact⟨_,rfl,l,_,1,_,rfl,rfl,hl,cR,b,4,rfl,rfl,(show(0:Int)<4 by decide),_,_,rfl,rfl,_,rfl,l,_,2,_,rfl,rfl,hl,cu (j:=2) rfl,e,3,rfl,rfl,(show(0:Int)<3 by decide),l3,λr H2 S2 f2 h2=>go (5+b%4).toNat (e%3).toNat _ _ false r H2 (by lia) (by lia) ⟨by lia,by lia,.inr ⟨rfl,.inr (.inl ⟨by lia,by lia⟩)⟩⟩ S2 h2⟩
  rw[Zp e1];show R1 _ _ _;subst hR1;exact dX ⟨_,rfl,l,_,1,_,rfl,rfl,hl,cR,b,4,rfl,rfl,(show(0:Int)<4 by decide),_,_,rfl,rfl,_,rfl,l,_,2,_,rfl,rfl,hl,cu (j:=2) rfl,e,6,rfl,rfl,(show(0:Int)<6 by decide),l3,λr H2 S2 f2 h2=>go (1+b%4).toNat (e%6).toNat _ _ false r H2 (by lia) (by lia) ⟨by lia,by lia,.inr ⟨rfl,.inr (.inr ⟨by lia,by lia⟩)⟩⟩ S2 h2⟩
noncomputable def yB(sm:Bool):Int:=if sm then 1 else 1000
noncomputable def hB(sm:Bool):Int:=if sm then 4 else 100
noncomputable def wB(sm:Bool):Int:=if sm then 12 else 4004
def Vs:Sp:=λvs H Q _=>∃(c a b:Int)(sm:Bool),vs=[.int c,.int a,.int b,.bl sm]/\∀(p:Addr)(x y:Int)H',Same H H'->H p=none->H' p=some (.tup [.int x,.int y])->0<y->Int.gcd x y=1->x.natAbs<=10^30->y<=yB sm->Q (.ref p) H'
theorem aeV(F:Fun K Gw Gw aaG f fd)(T:Txt K mg D)(jV:OkF P w K mg base 2 o_ pI ux):cF P w K mg base CX0 3 f fd Hs Vs:=by
 refine F.ok aeL ?_ ?_
 .rintro _ _ _ _ ⟨c,a,b,sm,rfl,_⟩;rfl
 .rintro cdv A outer s H _ Q E hr ⟨c,x,y,sm,rfl,q⟩;have lo:∀(a b:Int)(p:Addr),sm=false->0<b->a.natAbs<=10^30->b<=1000->H p=none->Q (.ref p) (upd H p (.tup [.int (Ac.lw a b).1,.int (Ac.lw a b).2])):=λa b p hs b0 ha hb hp=>by
   have h2:=Ac.Er a b;have h3:=Ac.lB (t:=a) b0;exact q p _ _ _ (Same.upd hp) hp bI h3 (Ac.Al b0) (aM (Ac.Im a b) ha) (by subst hs;show _<=(1000:Int);lia)
  have one:1<=yB sm:=by cases sm<;>decide
  refine⟨_,(bL (cW (PW.pt (pw_or (cV (pv 3) (λ_=>rfl)) (pw_or1 (cI zL (bU cY (pv 1) bG) bG (cJ _)))))
    (bM (cg (dH (bD (bU oZ (bU cY (pv 2) bG) bG) (bD bG bF)))))
    cA)
   (bL (cW (cI zL (bU cY (pv 1) bG) bG (cJ _))
    (bM (cg (bO jV hr.md (by rfl) (bD (bU oZ (bU cY (pv 2) bG) bG) (bD (bU dW bG (bU cY (bU o8 (pv 1) bG) bG)) bF)))))
    cA)
   (bL (cW (cI mZ (bU cY (pv 1) bG) bG (cJ _))
    (bM (cg (dH (bD (bU oZ (bU cY (pv 0) bG) bG) (bD bG bF)))))
    cA)
   (bM (cg (bO jV hr.md (by rfl) (bD (bU oZ (bU cY (bU dW (bU U6 (pv 0) bG) (pv 2)) (bU dW (bU cL bG (bU N6 bG bG)) bG)) (bU N6 bG bG)) (bD (bU dW bG (bU cY (bU o8 (pv 1) bG) bG)) bF)))))))),?_⟩
  have b30:Bd 1000000000000000000000000000000:=Y2 (aF _) (by decide +kernel);have m7:(0:Int)<7:=by decide
  have m8:(0:Int)<8:=by decide
  refine bV λR1 hR1=>?_;refine cT ⟨_,rfl,sm,rfl,?_⟩;cases sm with
  |true =>
   rw[ZY rfl];exact⟨_,rfl,y,7,rfl,rfl,m7,_,_,rfl,rfl,d8,λp H2 S2 f2 h2=>q p _ _ H2 S2 f2 h2 (by decide) (by simp) (by lia) one⟩
  |false =>
   refine⟨_,rfl,x,8,rfl,rfl,m8,_,_,rfl,rfl,decide (x%8<3),rfl,?_⟩;by_cases c1:x%8<3
   .rw[Zs c1];exact⟨_,rfl,y,7,rfl,rfl,m7,_,_,rfl,rfl,d8,λp H2 S2 f2 h2=>q p _ _ H2 S2 f2 h2 (by decide) (by simp) (by lia) one⟩
   rw[Zp c1];show R1 _ _ _;subst hR1;refine bV λR1 hR1=>?_;refine cT ⟨_,rfl,x,8,rfl,rfl,m8,_,_,rfl,rfl,decide (x%8<6),rfl,?_⟩;have b8:Bd 8:=Bd.sm (by decide);by_cases c2:x%8<6
   .rw[Zs c2];exact⟨_,rfl,y,61,rfl,rfl,(show(0:Int)<61 by decide),_,_,rfl,rfl,_,rfl,x,8,rfl,rfl,⟨by decide,b8⟩,_,12,rfl,rfl,(show(0:Int)<12 by decide),_,_,rfl,rfl,_,_,rfl,by lia,Bd.sm (by omega),λp hp=>lo _ _ p rfl (by lia) (by lia) (by lia) hp⟩
   rw[Zp c2];show R1 _ _ _;subst hR1;refine bV λR1 hR1=>?_;refine cT ⟨_,rfl,x,8,rfl,rfl,m8,rfl,decide (V.int (x%8)=V.int 6),rfl,?_⟩;by_cases c3:V.int (x%8)=V.int 6
   .rw[Zs c3];exact⟨_,rfl,c,2000000001,rfl,rfl,(show(0:Int)<2000000001 by decide),_,_,rfl,rfl,d8,λp H2 S2 f2 h2=>q p _ _ H2 S2 f2 h2 (by decide) (by simp) (by lia) one⟩
   rw[Zp c3];show R1 _ _ _;subst hR1;have cp:=aev (n:=30) (by decide) (by decide);exact dX ⟨_,rfl,c,69621,rfl,rfl,.inr (by constructor<;>decide),_,rfl,_,_,rfl,rfl,10,30,rfl,rfl,cp,2,_,rfl,rfl,⟨Bd.sm (by decide),b30⟩,_,1,rfl,rfl,_,_,rfl,rfl,(show(0:Int)<2*10^30+1 by decide),10,30,rfl,rfl,cp,_,_,rfl,rfl,_,rfl,x,8,rfl,rfl,⟨by decide,b8⟩,_,997,rfl,rfl,(show(0:Int)<997 by decide),_,_,rfl,rfl,_,_,rfl,by lia,Bd.sm (by omega),λp hp=>lo _ _ p rfl (by lia) (by show((c*69621+y)%(2*10^30+1)-10^30).natAbs<=_;lia) (by lia) hp⟩
def G6:Sp:=λvs H Q _=>∃(c:Int)(sm:Bool),vs=[.int c,.bl sm]/\∀(p:Addr)(x y:Int)H',Same H H'->H' p=some (.tup [.int x,.int y])->0<=x->x<y->y<=hB sm->Int.gcd x y=1->Q (.ref p) H'
theorem abv(F:Fun K yr yr Mz f fd)(T:Txt K mg D)(eG:OkF P w K mg base 1 jA jD jz)(jV:OkF P w K mg base 2 o_ pI ux):cF P w K mg base CX0 3 f fd wU G6:=by
 refine F.ok Jm ?_ ?_
 .rintro _ _ _ _ ⟨c,sm,rfl,_⟩;rfl
 .rintro cdv A outer s H _ Q E hr ⟨c,sm,rfl,q⟩;refine⟨_,(bL (cj (i:=2) Jm.nd rfl (Or.inl rfl) (bO eG hr.md (by rfl) (bD (pv 0) (bD bG bF))))
   (bL (cj (i:=3) Jm.nd rfl (Or.inl rfl) (bU dW bG (bU pW (bQ bY (pv 2) bG (λ_ _=>rfl)) (bQ bY (jd (bD bG (bD bG (bD bG (bD bG bF))))) (bU cL (bU cY (bQ bY (pv 2) bG (λ_ _=>rfl)) bG) (qO yR (by rfl) T.HJ boot_int (bD (Vn (pv 1)) bF))) (λ_ _=>rfl)))))
   (bM (cg (bO jV hr.md (by rfl) (bD (bU pW (bQ bY (pv 2) bG (λ_ _=>rfl)) (pv 3)) (bD (pv 3) bF))))))),?_⟩
  refine cC ⟨_,rfl,c,3,rfl,by decide,λl xs H1 S1 fl hl ln hx=>?_⟩;obtain⟨a,b,e,rfl⟩ : ∃a b e,xs=[a,b,e]:=by
   match xs,ln with
   |[a,b,e],_=>exact⟨a,b,e,rfl⟩
  have xa:=hx a (by simp);have xe:=hx e (by simp);refine cC ⟨_,rfl,l,_,0,_,rfl,rfl,hl,c7,by decide,λp1 H2 S2 f2 h2=>?_⟩;obtain⟨j,ej,jb⟩ : ∃j:Int,b%4*(if(!sm)=true then 1 else 0)=j/\(j=0\/(sm=false/\(j=1\/j=2\/j=3))):=by
   cases sm with
   |true=>exact⟨0,by simp,.inl rfl⟩
   |false=>exact⟨b%4,by simp,by simp;lia⟩
  obtain⟨md,ed,m0,m1⟩ : ∃md:Int,atI [V.int 4,V.int 6,V.int 10,V.int 100] j=some (.int md)/\0<md/\md<=hB sm:=by
   rcases jb with rfl|⟨rfl,rfl|rfl|rfl⟩
   .exact⟨4,cu (j:=0) rfl,by decide,by cases sm<;>decide⟩
   .exact⟨6,cu (j:=1) rfl,by decide,by decide⟩
   .exact⟨10,cu (j:=2) rfl,by decide,by decide⟩
   .exact⟨100,cu (j:=3) rfl,by decide,by decide⟩
  have hl2:=S2 _ _ hl;refine⟨_,rfl,l,_,1,_,rfl,rfl,hl2,cR,b,4,rfl,rfl,(show(0:Int)<4 by decide),_,rfl,sm,rfl,.inr ⟨!sm,rfl,_,_,rfl,rfl,⟨Bd.sm (by lia),Bd.sm (by split<;>decide)⟩,p1,_,_,_,rfl,rfl,h2,by rw[ej];exact ed,a,md,rfl,rfl,by exact Int.ne_of_gt m0,1,_,rfl,rfl,?_⟩⟩;obtain⟨t,et,t0,t1⟩ : ∃t:Int,1+a.fmod md=t/\1<=t/\t<=hB sm:=⟨_,rfl,by rw[aX _ (XZ m0)];have:=Z3 a (b:=md) (Int.ne_of_gt m0);lia,by rw[aX _ (XZ m0)];have:=YY a (b:=md) m0;lia⟩;have h100:hB sm<=100:=by cases sm<;>decide
  show Xy _ _ [some (.int c),some (.bl sm),some (.ref l),some (.int (1+a.fmod md))] H2;rw[et];have f0:0<=e.fmod t:=by rw[aX _ (by omega)];exact Z3 _ (by omega)
  have f1:e.fmod t<t:=by rw[aX _ (by omega)];exact YY _ (by omega)
  refine dX ⟨_,rfl,l,_,2,_,rfl,rfl,hl2,cu (j:=2) rfl,_,rfl,e,t,rfl,rfl,by omega,_,rfl,_,t,rfl,by exact Int.lt_of_le_of_lt f0 f1,Bd.sm (by omega),λp hp=>?_⟩;have y0:=Ac.lB (t:=e.fmod t) (b:=t) (Int.lt_of_le_of_lt f0 f1);have yg:=Ac.Al (t:=e.fmod t) (b:=t) (Int.lt_of_le_of_lt f0 f1);have ye:=Ac.Dg (t:=e.fmod t) (b:=t) (Int.lt_of_le_of_lt f0 f1);have y2:=Ac.Er (e.fmod t) t;generalize(Ac.lw (e.fmod t) t).1=x at *;generalize(Ac.lw (e.fmod t) t).2=y at *;refine q p x y _ (S1.trans (S2.trans (Same.upd hp))) bI ?_ ?_ (by lia) yg
  .refine Int.not_lt.mp λz=>?_;have h1:x*t<0:=Int.mul_neg_of_neg_of_pos z (Int.lt_of_le_of_lt f0 f1);have h2:0<=e.fmod t*y:=Int.mul_nonneg f0 (XZ y0);lia
  .refine Int.not_le.mp λz=>?_;have h1:y*t<=x*t:=Int.mul_le_mul_of_nonneg_right z (Int.le_trans f0 (XZ f1));have h2:e.fmod t*y<t*y:=Int.mul_lt_mul_of_pos_right f1 y0;have h3:t*y=y*t:=Int.mul_comm ..;lia
structure Bot(fs:Ψ)(j:Nat)(f:Ι):Prop where
 at_:fs[j]?=some f
 le:∀g∈fs,vl f<=vl g
def Gv:Sp:=λvs H Q _=>∃(l:Addr)(xs:Μ)(fs:Ψ),vs=[.ref l]/\H l=some (.lst xs)/\FL H xs fs/\(∀f∈fs,Fb f)/\(fs=[]->Q .non H)/\∀p f j,H p=some (.tup [.int f.1,.int f.2])->Bot fs j f->Q (.ref p) H
theorem aaI(F:Fun K xM xM Pq f fd)(T:Txt K mg D)(fX:OkF P w K mg base 1 mF lQ (lC (K:=K))):cF P w K mg base CX0 2 f fd yd Gv:=by
 refine F.ok B_ ?_ ?_
 .rintro _ _ _ _ ⟨l,xs,fs,rfl,_⟩;rfl
 .rintro cdv A outer s H _ Q E hr ⟨l,xs,fs,rfl,hl,fl,fb,ne,q⟩;refine⟨_,(bL (cj (i:=1) B_.nd rfl (Or.inl rfl) mX)
   (bL (iR PassesOwn.never rfl (cZ ((pv 0)).mono) (cM (i:=2) B_.nd rfl (Or.inl rfl))
    (bM (cW (PW.pt (pw_or (cI xO (pv 1) mX (cJ _)) (pw_or1 (cV (bO fX hr.md (by rfl) (bD (pv 2) (bD (pv 1) bF))) (λ_=>rfl)))))
     (bM (cj (i:=1) B_.nd rfl (Or.inl rfl) (pv 2)))
     cA)))
   (bM (cg (pv 1))))),?_⟩
  refine cC ?_;refine bV λR1 hR1=>?_;refine cT (gC ⟨_,rfl,l,xs,rfl,hl,λk σ H'=>∃v u,σ=[some (.ref l),some v,u]/\H'=H/\((k=0/\v=.non)\/∃p f j,v=.ref p/\H p=some (.tup [.int f.1,.int f.2])/\j<k/\Bot (fs.take k) j f),⟨_,_,rfl,rfl,.inl ⟨rfl,rfl⟩⟩,?_,?_⟩)
  .rintro k x σ' H' hk ⟨v,u,rfl,rfl,hv⟩ hx;obtain⟨p,g,rfl,hg,hp⟩:=fl.get hk;have gb:=fb g (aB hg);have lk:=(ao.mp hg).1;have gk:(fs.take (k+1))[k]?=some g:=by rw[List.getElem?_take,ZY (X1 _)];exact hg
   rcases hv with⟨rfl,rfl⟩|⟨p1,f1,j,rfl,hp1,hj,tp⟩
   .refine⟨_,rfl,rfl,true,ZH V.bl (Zs rfl),_,rfl,hx,_,_,rfl,rfl,.inr ⟨p,g,0,rfl,hp,by decide,gk,λg' hg'=>?_⟩⟩;rw[cB hg,List.take_zero,List.nil_append,YR]at hg';subst hg';exact Rat.le_refl
   .refine⟨_,rfl,rfl,false,ZH V.bl (Zp (λz=>by cases z)),?_⟩;have f1m:f1∈fs:=List.mem_of_mem_take (aB tp.at_);have fb1:=fb f1 f1m;have iff:=WX gb.pos fb1.pos;refine⟨_,rfl,_,rfl,p,p1,g.1,g.2,f1.1,f1.2,rfl,.of hp,.of hp1,gb.bx,gb.b_y,fb1.bx,fb1.b_y,decide (g.1*f1.2<f1.1*g.2),rfl,?_⟩;by_cases hlt:g.1*f1.2<f1.1*g.2
    .rw[Zs hlt];have lt:=iff.mpr hlt;refine⟨_,rfl,hx,_,_,rfl,rfl,.inr ⟨p,g,k,rfl,hp,by exact X1 _,gk,λg' hg'=>?_⟩⟩
     .rw[cB hg]at hg';rcases Y1.mp hg' with z|z
      .exact Rat.le_trans (Rat.le_of_lt lt) (tp.le g' z)
      .rw[YR.mp z];exact Rat.le_refl
    .rw[Zp hlt];have le:vl f1<=vl g:=Rat.not_lt.mp λz=>hlt (iff.mp z);have cut:∀i:Nat,i<k->(fs.take (k+1))[i]?=(fs.take k)[i]?:=λi hi=>by rw[List.getElem?_take,List.getElem?_take,ZY (WZ _ hi),ZY hi]
     refine⟨hx,_,_,rfl,rfl,.inr ⟨p1,f1,j,rfl,hp1,by exact WZ _ hj,by rw[cut j hj];exact tp.at_,λg' hg'=>?_⟩⟩
     .rw[cB hg]at hg';rcases Y1.mp hg' with z|z
      .exact tp.le g' z
      .rw[YR.mp z];exact le
  .rintro σ' H' ⟨v,u,rfl,rfl,hv⟩ hx;subst hR1;rcases hv with⟨z,rfl⟩|⟨p1,f1,j,rfl,hp1,hj,tp⟩
   .exact⟨_,rfl,ne (List.eq_nil_of_length_eq_zero (by rw[<- fl.length];exact z))⟩
   .rw[fl.length,aP]at tp;exact⟨_,rfl,q p1 f1 j hp1 tp⟩
noncomputable def Cw:V->Prop|.int k=>1<=k/\k<=40|_=>False
def O7(D:Adr):Sp:=λvs H Q E=>∃v,vs=[v]/\Odd H v/\(Cw v->Q .non H)/\(¬Cw v->E (.ref D.NoNumber) none H)
theorem FN(F:Fun K gO gO qW f fd)(T:Txt K mg D)(cX:OkF P w K mg base 1 fH fD g_):cF P w K mg base (CXO P w) 2 f fd gM (O7 D):=by
 refine F.okX Fv ?_ ?_
 .rintro _ _ _ _ ⟨v,rfl,_⟩;rfl
 .rintro cdv A outer s H _ Q E hr ⟨v,rfl,ov,q,e⟩;refine⟨_,(bM (cW (PW.pt (pw_or (dh (cV (bO cX hr.md (by rfl) (bD (pv 0) bF)) (λ_=>rfl))) (pw_or1 (dh (BZ zT zT bG (pv 0) (HS (by rfl) T.Zn))))))
    (bM (rC rfl (by rfl) T.uQ T.z_ rZ (bD mQ bF)))
    cA)),?_⟩
  unfold g_
  walk_at "rd"
  have no:¬Cw v->1<=sizeLine/\E (Value.ref D.NoNumber) none H:=λz=>⟨by decide,e z⟩;by_cases iv:∃k,v=.int k
  .obtain⟨k,rfl⟩:=iv;refine⟨_,rfl,?_⟩;rw[ZZ (by decide)];refine⟨k,rfl,?_⟩;by_cases k0:1<=k
   .rw[ZY (Zs k0)];refine⟨k,rfl,?_⟩;by_cases k1:k<=40
    .rw[ZZ (by simp[k1])];exact q ⟨k0,k1⟩
    .rw[ZY (by simp[k1])];exact no λz=>k1 z.2
   .rw[ZZ (by simp[k0])];exact no λz=>k0 z.1
  .obtain⟨t,et⟩:=ov;refine⟨t,et,?_⟩;rw[U3 et λk z=>iv ⟨k,z⟩];exact no λz=>by
    cases v with
    |int k=>exact iv ⟨k,rfl⟩
    |_=>exact z
structure Gn(fs gs qs:Ψ):Prop where
 len:qs.length=gs.length
 at_:∀(k:Nat)f g q,fs[k]?=some f->gs[k]?=some g->qs[k]?=some q->0<q.2/\Bn 1077 q.1/\Bn 980 q.2/\vl q=vl g-vl f
theorem Bn.sub{a:Nat}{x y:Int}(h:Bn a x)(g:Bn a y):Bn (a+1) (x-y):=by
 have:=Bn.add h (y:=-y) (by unfold Bn;rw[Int.natAbs_neg];exact g);rwa[<- Int.sub_eq_add_neg]at this
theorem Ow{x y u v:Int}(hy:0<y)(hv:0<v):vl (x*v-u*y,y*v)=vl (x,y)-vl (u,v):=by
 have:=Dq (x:=x) (u:=-u) hy hv;rw[Int.neg_mul,<- Int.sub_eq_add_neg]at this;rw[this];unfold vl;rw[Rat.intCast_neg]
 grind
def Jf(K:Frag):Sp:=λvs H Q _=>∃(la lb:Addr)(xs ys:Μ)(fs gs:Ψ),vs=[.ref la,.ref lb]/\H la=some (.lst xs)/\H lb=some (.lst ys)/\FLK K H xs fs/\FLK K H ys gs/\Wb fs/\Wb gs/\fs.length=gs.length/\gs.length<=12 /\
 ∀t H' zs qs,Same H H'->H t=none->H' t=some (.lst zs)->FL H' zs qs->Gn fs gs qs->Q (.ref t) H'
theorem abH(F:Fun K yP yP Gb f fd)(T:Txt K mg D)(vH:OkF P w K mg base 3 rM qY (nA (K:=K) λa b=>a-b)):cF P w K mg base CX0 4 f fd yH (Jf K):=by
 refine F.ok ZD ?_ ?_
 .rintro _ _ _ _ ⟨la,lb,xs,ys,fs,gs,rfl,_⟩;rfl
 .rintro cdv A outer s H _ Q E hr ⟨la,lb,xs,ys,fs,gs,rfl,ha,hb,fa,fb,wa,wb,ln,n12,q⟩;have xl:=fa.length;have yl:=fb.length;refine⟨_,(bM (cg (iY (bN Gb) O2 O2 ["one","other"] (DP (by rfl) T.Lz (bD (pv 1) (bD (pv 0) bF)).mono) (fV (n:=2) rfl (cD (d7 (i:=0)) (cD (d7 (i:=1)) fL))) dz (bO vH hr.md (by rfl) (bD (pv 0) (bD (pv 1) bF)))))),?_⟩;refine dX (uL ⟨_,rfl,_,rfl,lb,la,ys,xs,rfl,hb,ha,by lia,by lia,λD1 g1=>⟨λk zs Hc=>Same H Hc/\Hc D1=some (.lst zs)/\∃qs,FL (del [D1] Hc) zs qs/\Gn (fs.take k) (gs.take k) qs,⟨Same.upd g1,bI,[],.nil,rfl,λk f g q e=>by simp at e⟩,?_,?_⟩⟩)
  .rintro k x y zs Hc t hx hy ⟨S1,h1,qs,fl,gn⟩ zl ft _ _;obtain⟨pg,g,rfl,eg,hg⟩:=fb.get hx;obtain⟨pf,f',rfl,ef,hf⟩:=fa.get hy;obtain⟨g0,gb1,gb2⟩:=wb g (aB eg);obtain⟨f0,fb1,fb2⟩:=wa f' (aB ef);have S2:Same Hc (upd Hc t (.tup [.ref pg,.ref pf])):=Same.upd ft;have e2:upd Hc t (.tup [.ref pg,.ref pf]) t=some (.tup [.ref pg,.ref pf]):=bI;generalize upd Hc t (.tup [.ref pg,.ref pf])=H1 at S2 e2 ⊢;intro pre hpre;obtain⟨u,v,rfl⟩:=Ob hpre;have S12:=S1.trans S2;refine⟨t,_,rfl,e2,rfl,_,_,rfl,_,_,rfl,rfl,[_,_],rfl,rfl,_,rfl,_,rfl,pg,pf,g.1,g.2,f'.1,f'.2,rfl,S12.tup hg,S12.tup hf,gb1.bd (by decide),gb2.bd (by decide),fb1.bd (by decide),fb2.bd (by decide),g0,f0,(Bn.mul gb2 fb2).bd (by decide),λr z o l hr1=>?_⟩;have S3:Same H1 (upd H1 r (.tup [.int z,.int o])):=Same.upd hr1;have e3:upd H1 r (.tup [.int z,.int o]) r=some (.tup [.int z,.int o]):=bI;generalize upd H1 r (.tup [.int z,.int o])=H3 at S3 e3 ⊢;have h11:=S2 _ _ h1;have nr:r∉[D1]:=by
    simp only[YR];exact(bH h11 hr1).symm
   have S13:=S12.trans S3;have ql:=gn.len;have gk:(gs.take k).length=k:=by rw[bh];have:=(ao.mp eg).1;lia
   refine⟨S3 _ _ h11,S13 _ _ hb,S13 _ _ ha,λb u e=>(bK (bH e g1)).trans (S13 _ _ e),bI,qs++[(z,o)],?_,?_⟩
   .rw[pP (YR.mpr rfl)];exact(fl.same (lM λb o _ e=>S3 _ _ (S2 _ _ e))).append (.cons (gK nr e3) .nil)
   .rw[cB eg,cB ef];refine⟨by rw[aA,aA,ql];rfl,λi f1 g2 q1 a1 a2 a3=>?_⟩;have fk:(fs.take k).length=k:=by rw[bh];have:=(ao.mp ef).1;lia
    rcases eZ a1 with⟨b1,c1⟩|⟨b1,c1⟩<;>rcases eZ a2 with⟨b2,c2⟩|⟨b2,c2⟩<;>rcases eZ a3 with⟨b3,c3⟩|⟨b3,c3⟩
    .exact gn.at_ i f1 g2 q1 c1 c2 c3
    any_goals lia
    subst c1;subst c2;subst c3;exact⟨l.pos,Bn.lx ((Bn.mul gb1 fb2).sub (Bn.mul fb1 gb2)) l,Bn.ly (Bn.mul gb2 fb2) l,by rw[l.vl (Xs g0 f0)];exact Ow g0 f0⟩
  .rintro zs Hc ⟨S1,h1,qs,fl,gn⟩ zl;rw[yl,aP,aK (Nat.le_of_eq ln)]at gn;exact q D1 Hc zs qs S1 g1 h1 (fl.same jq) gn
inductive Lr(K:Frag)(vs:Μ)(H:Hp)(Q:VK):Prop
 |mk (p q:Addr) (x y u v:Int) (na nb:Nat) (h0:vs=[.ref p,.ref q]) (h1:H p=some (.tup [.int x,.int y])) (h2:H q=some (.tup [.int u,.int v])) (h3:0<=x) (h4:x<y) (h5:y<=100) (h6:0<v) (h7:na<=2060) (h8:nb<=1962) (h9:Bn na u) (h10:Bn nb v) (h11:∀r z o H',Same H H'->H r=none->H' r=some (.tup [.int z,.int o])->0<o->Int.gcd z o=1->Bn (na+6) z->Bn (nb+6) o->vl (z,o)=vl (x,y)/(1-vl (x,y))*vl (u,v)->Q (.ref r) H'):Lr K vs H Q
def P_(K:Frag):Sp:=λvs H Q _=>Lr K vs H Q
theorem Vk(F:Fun K rD rD DX f fd)(T:Txt K mg D)(vH:OkF P w K mg base 3 rM qY (nA (K:=K) λa b=>a-b))(Ad:OkF P w K mg base 3 vp vA Ax)(qy:OkF P w K mg base 3 rA qT yt):cF P w K mg base CX0 4 f fd rT (P_ K):=by
 refine F.ok Ve ?_ ?_
 .rintro _ _ _ _ ⟨p,q,x,y,u,v,na,nb,rfl,_⟩;rfl
 .rintro cdv A outer s H _ Q E hr ⟨p,q,x,y,u,v,na,nb,rfl,hp,hq,x0,xy,y1,v0,la,lb,bu,bv,k⟩;have y0:0<y:=by exact Int.lt_of_le_of_lt x0 xy
  have bn:∀z:Int,0<=z->z<=100->Bn 2 z:=λz h1 h2=>by unfold Bn;lia
  have bx:=bn x x0 (Int.le_trans (XZ xy) y1);have b_y:=bn y (XZ y0) y1;have b1:Bn 2 1:=by unfold Bn;decide
  refine⟨_,(bM (cg (bO qy hr.md (by rfl) (bD (bO Ad hr.md (by rfl) (bD (pv 0) (bD (bO vH hr.md (by rfl) (bD (jo (by rfl) T.K6) (bD (pv 0) bF))) bF))) (bD (pv 1) bF))))),?_⟩;refine dX ⟨_,rfl,_,rfl,D.ONE,p,1,1,x,y,rfl,T.DG _,.of hp,b1.bd (by decide),b1.bd (by decide),bx.bd (by decide),b_y.bd (by decide),by decide,y0,(Bn.mul b1 b_y).bd (by decide),λr1 a b l1 h1=>?_⟩;have S1:Same H (upd H r1 (.tup [.int a,.int b])):=Same.upd h1;have e1:upd H r1 (.tup [.int a,.int b]) r1=some (.tup [.int a,.int b]):=bI;generalize upd H r1 (.tup [.int a,.int b])=H1 at S1 e1 ⊢;have l1:Low (1*y-x*1) (1*y) a b:=l1;rw[Int.one_mul,Int.mul_one]at l1;have v1:vl (a,b)=1-vl (x,y):=by
   rw[l1.vl y0];have:=Ow (x:=1) (y:=1) (u:=x) (v:=y) (by decide) y0;rw[Int.one_mul,Int.mul_one]at this;rw[this,N_,Rat.intCast_one]
  have ba:=Bn.lx (n:=2) (bn (y-x) (Int.sub_nonneg_of_le (XZ xy)) (by lia)) l1;have bb:=Bn.ly (n:=2) b_y l1;have a0:0<a:=by
   have:=aao (s:=(x,y)) x0 xy;rw[<- v1]at this;have p:(0:Rat)<(b:Rat):=Rat.intCast_pos.mpr l1.pos;have h:=this.2;unfold vl at h;rw[Rat.lt_div_iff p,Rat.zero_mul]at h;exact Rat.intCast_pos.mp h
  refine⟨p,r1,x,y,a,b,rfl,S1 _ _ hp,e1,bx.bd (by decide),b_y.bd (by decide),ba.bd (by decide),bb.bd (by decide),y0,a0,(Bn.mul b_y ba).bd (by decide),λr2 c d H2 S2 f2 h2 l2=>⟨_,rfl,r2,q,c,d,u,v,rfl,h2,S2 _ _ (S1 _ _ hq),?_,?_,bu.bd (aM la (by decide)),bv.bd (aM lb (by decide)),l2.pos,v0,?_,λr3 z o H3 S3 f3 h3 l3=>?_⟩⟩
  .exact(Bn.lx (Bn.mul bx bb) l2).bd (by decide)
  .exact(Bn.ly (Bn.mul b_y ba) l2).bd (by decide)
  .exact(Bn.mul (Bn.ly (Bn.mul b_y ba) l2) bv).bd (by lia)
  .refine k r3 z o H3 (S1.trans (S2.trans S3)) (Same.free (S1.trans S2) f3) h3 l3.pos l3.gcd ((Bn.lx (Bn.mul (Bn.lx (Bn.mul bx bb) l2) bu) l3).up (by lia)) ((Bn.ly (Bn.mul (Bn.ly (Bn.mul b_y ba) l2) bv) l3).up (by lia)) ?_;rw[l3.vl (Xs l2.pos v0),Aa l2.pos v0,l2.vl (Xs y0 a0),UW y0 a0 l1.pos,v1]
theorem aeZ{te:TE}{g:TG}{D:Ends}{σ:L2.St}{H:Hp}(h:te σ H λx H1=>g x σ H1 D.nx):Ke te g D σ H:=h
theorem zY{sp:Sp}{te:TE}{t:TA}{σ:L2.St}{H:Hp}{Q:Bool->Hp->Prop}(h:te σ H λx H1=>t σ H1 λxs H2=>sp (x::xs) H2 (λy H3=>∃k,Ue y=some k/\Q (!k) H3) E0):aay (Xx (Dt sp (rW te t))) σ H Q:=h
noncomputable def stV:Option Nat->V
 |some k=>.int (k:Nat)
 |none=>.non
def vJ(D1:Addr)(H:Hp)(vs:Μ)(k:Nat)(ys:Μ)(H':Hp):Prop:=Same H H'/\H' D1=some (.lst ys)/\ys=vs.take k
theorem vJ.next{D1:Addr}{H H' H2:Hp}{vs ys:Μ}{k:Nat}{v:V}(h:vJ D1 H vs k ys H')(hD:H D1=none)(S:Same H' H2)(e:vs[k]?=some v):vJ D1 H vs (k+1) (ys++[v]) (upd H2 D1 (.lst (ys++[v]))):=by
 obtain⟨S1,h1,rfl⟩:=h;exact⟨λb o z=>(bK (bH z hD)).trans (S _ _ (S1 _ _ z)),bI,(cB e).symm⟩
section
variable{X:Cx}
theorem ZX{e:Expr}{t:TE}(h:PE X e t):PEB X e t:=⟨h⟩
theorem Y_{es:List Expr}{t:TA}{pos:Pos}(h:PAB X es t):PEB X (.List es pos) (ahO t):=⟨jd h.out⟩
theorem ZQ{es:List Expr}{t:TA}{k:Nat}{pos:Pos}(h:PAB X es t):PEB X (.Tuple es k pos) (afq t):=⟨dH h.out⟩
theorem agr{o:UnaryOp}{e:Expr}{p:Pos}{es:List Expr}{te:TE}{t:TA}(ha:PEB X (.UnaryOp o e p) te)(hr:PAB X es t):PAB X (.UnaryOp o e p::es) (rW te t):=⟨bD ha.out hr.out rfl⟩
theorem agc{a b:Expr}{o:Operator}{p:Pos}{es:List Expr}{te:TE}{t:TA}(ha:PEB X (.BinOp a o b p) te)(hr:PAB X es t):PAB X (.BinOp a o b p::es) (rW te t):=⟨bD ha.out hr.out rfl⟩
end
structure xG(qs:List Rat)(d j:Nat):Prop where
 lt:j<qs.length
 le:∀i,i<qs.length->qs.getD i 0<=qs.getD j 0
 own:j=d\/(qs.getD d 0<qs.getD j 0/\∀i,i<j->qs.getD i 0<qs.getD j 0)
def DQ:Sp:=λvs H Q _=>∃(l:Addr)(d:Nat)(xs:Μ)(fs:Ψ),vs=[.ref l,.int d]/\H l=some (.lst xs)/\FL H xs fs/\(∀f∈fs,Fb f)/\d<fs.length/\fs.length<=100/\∀j,xG (fs.map vl) d j->Q (.int (j:Nat)) H
theorem GC(F:Fun K j6 j6 tK f fd)(T:Txt K mg D)(fX:OkF P w K mg base 1 mF lQ (lC (K:=K)))(iG:OkF P w K mg base 2 iZ iW uq):cF P w K mg base CX0 3 f fd jZ DQ:=by
 refine F.ok xH ?_ ?_
 .rintro _ _ _ _ ⟨l,d,xs,fs,rfl,_⟩;rfl
 .rintro cdv A outer s H _ Q E hr ⟨l,d,xs,fs,rfl,hl,fl,fb,ld,l100,q⟩;have z9:100<sizeLine:=by decide
  have ed:fs[d]?=some fs[d]:=aj ld;have mb:=fb _ (aV ld);have xd:xs[d]?=some (xs[d]'(by rw[fl.length];exact ld)):=aj _;obtain⟨pd,g,e1,e2,hpd⟩:=fl.get xd;rw[e1]at xd;rw[ed]at e2;cases e2;generalize fs[d]=fd' at *;have gd:∀(i:Nat)g,fs[i]?=some g->(fs.map vl).getD i 0=vl g:=λi g e=>by rw[au,aq,e];rfl
  have al:∀(j:Nat)f,fs[j]?=some f->(∀g∈fs,vl g<=vl f)->∀i,i<(fs.map vl).length->(fs.map vl).getD i 0<=(fs.map vl).getD j 0:=λj f ej h i hi=>by
   rw[ak]at hi;rw[gd i _ (aj hi),gd j f ej];exact h _ (aV hi)
  refine⟨_,(bL (cj (i:=2) xH.nd rfl (Or.inl rfl) (bO iG hr.md (by rfl) (bD (pv 0) bF)))
   (bL (cW (cV (bO fX hr.md (by rfl) (bD (bQ bY (pv 0) (pv 1) (λ_ _=>rfl)) (bD (pv 2) bF))) (λ_=>rfl))
    (bM (cg (aeY hr.units (pv 0) (bD (pv 2) bF))))
    cA)
   (bM (cg (pv 1))))),?_⟩
  refine cC ⟨_,rfl,l,xs,fs,rfl,hl,fl,fb,(λz=>by rw[z]at ld;cases ld),λp f j hp tp=>?_⟩;have fb1:=fb f (aB tp.at_);have iff:=WX mb.pos fb1.pos;have lj:=(ao.mp tp.at_).1;dsimp only[cN,L2.start];refine bV λR1 hR1=>?_;refine cT ⟨_,rfl,_,rfl,l,xs,_,_,rfl,rfl,hl,cu xd,_,rfl,pd,p,fd'.1,fd'.2,f.1,f.2,rfl,.of hpd,.of hp,mb.bx,mb.b_y,fb1.bx,fb1.b_y,decide (fd'.1*f.2<f.1*fd'.2),rfl,?_⟩;by_cases hlt:fd'.1*f.2<f.1*fd'.2
  .rw[Zs hlt];exact⟨_,rfl,l,xs,rfl,hl,_,rfl,l,p,xs,fs,f,j,rfl,rfl,hl,fl,hp,by rw[fl.length];exact aM l100 (by decide),tp.at_,λi g hi eg z=>Rat.lt_irrefl (by have:=tp.lt i g hi eg;rw[z]at this;exact this),q j ⟨by rw[ak];exact lj,al j f tp.at_ tp.le,.inr ⟨by rw[gd d _ ed,gd j f tp.at_];exact iff.mpr hlt,λi hi=>by rw[gd i _ (aj (Nat.lt_trans hi lj)),gd j f tp.at_];exact tp.lt i _ hi (aj (Nat.lt_trans hi lj))⟩⟩⟩
  .rw[Zp hlt];show R1 _ _ _;subst hR1;have le:vl f<=vl fd':=Rat.not_lt.mp λz=>hlt (iff.mp z);exact⟨_,rfl,q d ⟨by rw[ak];exact ld,al d fd' ed λg hg=>Rat.le_trans (tp.le g hg) le,.inl rfl⟩⟩
noncomputable def dnR(rms:List (Str×List Dr))(k:Nat):Nat:=((rms[k]?).map (·.2.length)).getD 0
def Nv(D:Adr):Sp:=λvs H Q _=>∃(o p l:Addr)(rms:List (Str×List Dr))(xs:Μ),vs=[.ref o,.ref l]/\pG D H o p rms/\UJ rms/\H l=some (.lst xs)/\xs.length=rms.length/\(∀k x,xs[k]?=some x->Odd H x/\Ot x (dnR rms k)=true)/\∀H',Same H H'->Q (.bl true) H'
theorem Kd(F:Fun K mj mj vC f fd)(T:Txt K mg D)(Ur:OkF P w K mg base 2 Ao Cp Ox)(dj:OkI P w K mg base CX0 1 D.Hall_size fu (fY D))(dG:OkI P w K mg base CX0 3 D.Hall_offers d_ (gB D)):cF P w K mg base CX0 4 f fd lO (Nv D):=by
 refine F.ok tV ?_ ?_
 .rintro _ _ _ _ ⟨o,p,l,rms,xs,rfl,_⟩;rfl
 .rintro cdv A outer s H _ Q E hr ⟨o,p,l,rms,xs,rfl,hh,few,hl,ln,al,q⟩;have hI:=hh;obtain⟨dx,nn,ll,zs0,ho,hn,hll,of_⟩:=hI;have rf:Same H H:=λ_ _ z=>z;refine⟨_,(bL (cW (PW.pt (pw_or (dh (cV (b_ gY (by rfl) T.cH boot_isinstance (bD (pv 1) (bD (je (v:=.ty "list") (by rfl) T.DY boot_list rfl) bF))) (λ_=>rfl))) (pw_or1 (cI Ce (b_ dw (by rfl) T.iH PySem.boot_len (bD (pv 1) bF)) (PE.any λC(hC:dI D C)=>(qN (pv 0) (T.cl C hC.fam) (T.oA C hC) dj hr.md)) (cJ _)))))
    (bM oH)
    cA)
   (bL (iR PassesOwn.never rfl (V0 (by rfl) T.Eo (bD (pv 1) bF).mono) (fV (n:=2) rfl (cD (cM (i:=2) tV.nd rfl (Or.inl rfl)) (cD (cM (i:=3) tV.nd rfl (Or.inl rfl)) fL)))
    (bM (cW (dh (cV (bO Ur hr.md (by rfl) (bD (pv 3) (bD (b_ dw (by rfl) T.iH PySem.boot_len (bD (PE.any λC(hC:dB D C)=>(xr (pv 0) (T.cl C hC.fam) (T.nF C hC) dG hr.md (bD (pv 2) bF))) bF)) bF))) (λ_=>rfl)))
     (bM oH)
     cA)))
   (bM (cg fU)))),?_⟩
  refine bV λR1 hR1=>?_;refine cT ⟨_,rfl,.ref l,_,"list",rfl,by simp,Bp hl,true,rfl,_,rfl,l,xs,rfl,hl,D.Hall,(by unfold dI;simp),_,rfl,o,dx,_,rfl,ho,rfl,o,p,rms,rfl,hh,rfl,false,ZH (λb=>V.bl (!b)) (Zs (by rw[ln])),?_⟩;show R1 _ _ _;subst hR1;refine bV λR1 hR1=>?_;refine cT (GP ⟨_,rfl,l,xs,rfl,hl,λk σ H'=>∃u1 u2,σ=[some (.ref o),some (.ref l),u1,u2]/\Same H H',⟨none,none,rfl,rf⟩,?_,?_⟩)
  .rintro k x σ' H' t hk ⟨u1,u2,rfl,S1⟩ hl' ht;have S2:Same H' (upd H' t (.tup [.int k,x])):=Same.upd ht;have e2:upd H' t (.tup [.int k,x]) t=some (.tup [.int k,x]):=bI;generalize upd H' t (.tup [.int k,x])=H2 at S2 e2 ⊢;have SS:=S1.trans S2;have lk:k<rms.length:=by rw[<- ln];exact(ao.mp hk).1
   have eg:rms[k]?=some rms[k]:=aj lk;have gm:=aV lk;have dk:dnR rms k=rms[k].2.length:=by unfold dnR;rw[eg];rfl
   obtain⟨ox,fx⟩:=al k x hk;refine⟨t,_,rfl,e2,rfl,_,_,rfl,_,_,rfl,rfl,_,rfl,D.Hall,(by unfold dB;simp),_,rfl,o,dx,_,rfl,SS _ _ ho,rfl,_,rfl,o,p,k,rms,rms[k],rfl,hh.same SS,eg,few.few _ gm,few.ways _ gm,λr H3 zs S3 f3 h3 of3=>⟨r,zs,rfl,h3,x,rms[k].2.length,by rw[(of3 [] (λ_ z=>by cases z)).len],ox.same (SS.trans S3),true,by rw[<- dk,fx];rfl,?_⟩⟩;exact⟨S3 _ _ (S2 _ _ hl'),_,_,rfl,SS.trans S3⟩
  .rintro σ' H' ⟨u1,u2,rfl,S1⟩ _;subst hR1;exact q _ S1
noncomputable def zW(rms:List (Str×List Dr)):List (Option Nat):=rms.map λg=>if 0<g.2.length then some 0 else none
def Ja(D:Adr):Sp:=λvs H Q _=>∃(o p:Addr)(rms:List (Str×List Dr)),vs=[.ref o]/\pG D H o p rms/\UJ rms/\∀r H',Same H H'->H r=none->H' r=some (.lst ((zW rms).map stV))->Q (.ref r) H'
theorem KC(F:Fun K lX lX qx f fd)(T:Txt K mg D)(dj:OkI P w K mg base CX0 1 D.Hall_size fu (fY D))(dG:OkI P w K mg base CX0 3 D.Hall_offers d_ (gB D)):cF P w K mg base CX0 4 f fd lR (Ja D):=by
 refine F.ok KD ?_ ?_
 .rintro _ _ _ _ ⟨o,p,rms,rfl,_⟩;rfl
 .rintro cdv A outer s H _ Q E hr ⟨o,p,rms,rfl,hh,few,q⟩;have hI:=hh;obtain⟨dx,nn,ll,zs0,ho,hn,hll,of_⟩:=hI;have n20:=few.len;have fl:(zW rms).length=rms.length:=ak ..;refine⟨_,(bM (cg (iY (bN qx) uX uX ["room"] (j_ (by rfl) T.qw (bD (PE.any λC(hC:dI D C)=>(qN (pv 0) (T.cl C hC.fam) (T.oA C hC) dj hr.md)) bF).mono) (d7 (i:=0)) dz (Ig (cI RX (b_ dw (by rfl) T.iH PySem.boot_len (bD (PE.any λC(hC:dB D C)=>(xr (pv 1) (T.cl C hC.fam) (T.nF C hC) dG hr.md (bD (pv 0) bF))) bF)) bG (cJ _)) bG mX)))),?_⟩;refine dX (qe ⟨D.Hall,(by unfold dI;simp),_,rfl,o,dx,_,rfl,ho,rfl,o,p,rms,rfl,hh,rms.length,rfl,by exact aM n20 (by decide),λD1 gD=>⟨vJ D1 H ((zW rms).map stV),⟨Same.upd gD,bI,rfl⟩,λk ys Hc hk j hy=>?_,λys Hc ⟨S1,h1,ey⟩ hy=>?_⟩⟩)
  .have eg:rms[k]?=some rms[k]:=aj hk;have gm:=aV hk;have ev:((zW rms).map stV)[k]?=some (stV (if 0<rms[k].2.length then some 0 else none)):=by unfold zW;rw[List.map_map,aq,eg];rfl
   refine⟨D.Hall,(by unfold dB;simp),_,rfl,o,dx,_,rfl,j.1 _ _ ho,rfl,_,rfl,o,p,k,rms,rms[k],rfl,hh.same j.1,eg,few.few _ gm,few.ways _ gm,λr H3 zs S3 f3 h3 of3=>⟨r,zs,rfl,h3,_,_,rfl,rfl,decide (0<rms[k].2.length),?_,?_⟩⟩
   .rw[(of3 [] (λ_ z=>by cases z)).len];exact ZH V.bl (decide_eq_decide.mpr Int.natCast_pos)
   by_cases z:0<rms[k].2.length
   .rw[ZY z]at ev;rw[Zs z];exact⟨S3 _ _ j.2.1,j.next gD S3 ev⟩
   .rw[ZZ z]at ev;rw[Zp z];exact⟨S3 _ _ j.2.1,j.next gD S3 ev⟩
  .rw[aK (by rw[ak,fl];exact aF _)]at ey;subst ey;exact q D1 Hc S1 gD h1
theorem O5{a b W:Rat}(hW:0<W):a*W<b*W↔a<b:=Rat.mul_lt_mul_right hW
theorem xG.of_mul{W:Rat}(hW:0<W){qs:List Rat}{d j:Nat}(h:xG (qs.map (· * W)) d j):xG qs d j:=by
 have g:∀i,(qs.map (· * W)).getD i 0=qs.getD i 0*W:=λi=>by
  rw[au,au,aq];cases qs[i]? with
  |none=>exact(Rat.zero_mul _).symm
  |some q=>rfl
 have l:=h.lt;rw[ak]at l;refine⟨l,λi hi=>?_,?_⟩
 .have:=h.le i (by rw[ak];exact hi);rw[g,g]at this;exact Rat.not_lt.mp λz=>Rat.not_lt.mpr this ((O5 hW).mpr z)
 .rcases h.own with e|⟨a,b⟩
  .exact .inl e
  .rw[g,g,O5 hW]at a;refine .inr ⟨a,λi hi=>?_⟩;have:=b i hi;rw[g,g,O5 hW]at this;exact this
structure rN(s:Ι)(fs:Ψ)(fcss:Γ)(pl ql:List (Option Nat)):Prop where
 len:ql.length=pl.length
 at_:∀(k:Nat)o q fcs,pl[k]?=some o->ql[k]?=some q->fcss[k]?=some fcs->(o=none->q=none)/\∀d,o=some d->∃j,q=some j/\xG (jk s fs fcs) d j
theorem rN.snoc{s:Ι}{fs:Ψ}{fcss:Γ}{pl ql:List (Option Nat)}{k:Nat}{o q:Option Nat}{fcs:Δ}(h:rN s fs fcss (pl.take k) ql)(ep:pl[k]?=some o)(ef:fcss[k]?=some fcs)(hq:(o=none->q=none)/\∀d,o=some d->∃j,q=some j/\xG (jk s fs fcs) d j):rN s fs fcss (pl.take (k+1)) (ql++[q]):=by
 have lk:=(ao.mp ep).1;have ll:=h.len;rw[bh]at ll;rw[cB ep];refine⟨by rw[aA,aA,h.len];rfl,λi o' q' fcs' e1 e2 e3=>?_⟩;rcases eZ e1 with⟨a1,a2⟩|⟨a1,a2⟩<;>rcases eZ e2 with⟨c1,c2⟩|⟨c1,c2⟩
 .exact h.at_ i o' q' fcs' a2 c2 e3
 .rw[bh]at a1;lia
 .rw[bh]at a1;lia
 .have ik:i=k:=by lia
  subst a2;subst c2;rw[ik,ef]at e3;cases e3;exact hq
theorem afh{d m:Nat}(h:Ot (stV (some d)) m=true):d<m:=by
 unfold Ot at h;split at h
 .exact absurd (of_decide_eq_true h) (λz=>by cases z)
 .have h:(decide (0<=(d:Int))&&decide ((d:Int)<m))=true:=h;have:=of_decide_eq_true (Bool.and_eq_true_iff.mp h).2;omega
inductive Lp(K:Frag)(D:Adr)(vs:Μ)(H:Hp)(Q:VK):Prop
 |mk (o l lw:Addr) (s:Ι) (xs:Μ) (fs:Ψ) (fcss:Γ) (pl:List (Option Nat)) (h0:vs=[.ref o,.ref l,.ref lw]) (h1:uy K D H o s fcss) (h2:H l=some (.lst (pl.map stV))) (h3:pl.length=fcss.length) (h4:(∀(k:Nat)fcs o,fcss[k]?=some fcs->pl[k]?=some o->Ot (stV o) fcs.length=true)) (h5:H lw=some (.lst xs)) (h6:FLK K H xs fs) (h7:aeG fs) (h8:fs.length=fcss.length) (h9:∀r H' ql,Same H H'->H r=none->H' r=some (.lst (ql.map stV))->rN s fs fcss pl ql->Q (.ref r) H'):Lp K D vs H Q
def Qq(K:Frag)(D:Adr):Sp:=λvs H Q _=>Lp K D vs H Q
theorem X8(F:Fun K uh uh CP f fd)(T:Txt K mg D)(uZ:OkF P w K mg base 4 mj lO (Nv D))(oM:OkF P w K mg base 2 gW iJ (uo K))(iC:OkF P w K mg base 4 gA fZ (tZ K D))(tO:OkF P w K mg base 3 j6 jZ DQ)(dG:OkI P w K mg base CX0 3 D.Hall_offers d_ (gB D)):cF P w K mg base CX0 5 f fd uc (Qq K D):=by
 refine F.ok qP ?_ ?_
 .rintro _ _ _ _ ⟨o,l,lw,s,xs,fs,fcss,pl,rfl,_⟩;rfl
 .rintro cdv A outer s H _ Q E hr ⟨o,l,lw,sh,xs,fs,fcss,pl,rfl,hN,hl,pn,pf,hw,fl,rb,fn,q⟩;obtain⟨p,rms,hh,few,nd,hp,fcl,dn⟩:=hN.ex;have s0:=hN.s0;have b1:=hN.b1;have b2:=hN.b2;have n12:=hN.n12;have hI:=hh;obtain⟨dx,nn,ll,zs0,ho,_,_,_⟩:=hI;have fit:∀(k:Nat)x,(pl.map stV)[k]?=some x->Odd H x/\Ot x (dnR rms k)=true:=λk x e=>by
   rw[aq]at e;cases eo:pl[k]? with
   |none=>rw[eo]at e;cases e
   |some o' =>
    rw[eo]at e;cases e;have lk:k<fcss.length:=by rw[<- pn];exact(ao.mp eo).1
    have eg:rms[k]?=some (rms[k]'(aU lk (Nat.le_of_eq fcl))):=aj _;have ef:fcss[k]?=some fcss[k]:=aj lk;have dl:=(dn k _ _ eg ef).len;refine⟨by cases o'<;>exact⟨_,rfl⟩,?_⟩;have:dnR rms k=fcss[k].length:=by unfold dnR;rw[eg];exact dl
    rw[this];exact pf k _ o' ef eo
  refine⟨_,(bL (dD (bO uZ hr.md (by rfl) (bD (pv 0) (bD (pv 1) bF))))
   (bL (cj (i:=3) qP.nd rfl (Or.inr rfl) (bO oM hr.md (by rfl) (bD (pv 2) bF)))
   (bL (cj (i:=4) qP.nd rfl (Or.inl rfl) (jd bF))
   (bL (iR PassesOwn.never rfl (V0 (by rfl) T.Eo (bD (pv 1) bF).mono) (fV (n:=2) rfl (cD (cM (i:=5) qP.nd rfl (Or.inl rfl)) (cD (cM (i:=6) qP.nd rfl (Or.inl rfl)) fL)))
    (bL (Ld (bN CP) IK IK ["offer"] (cZ ((PE.any λC(hC:dB D C)=>(xr (pv 0) (T.cl C hC.fam) (T.nF C hC) dG hr.md (bD (pv 5) bF)))).mono) (d7 (i:=0)) dz (bO iC hr.md (by rfl) (bD (pv 1) (bD (pv 0) (bD (pv 4) bF)))) (cM (i:=7) qP.nd rfl (Or.inl rfl)))
    (bM (dD (rH (pv 4) (bD (Ig (cI xO (pv 6) mX (cJ _)) mX (bO tO hr.md (by rfl) (bD (pv 7) (bD (pv 6) bF)))) bF))))))
   (bM (cg (pv 4))))))),?_⟩
  refine bV λR1 hR1=>?_;refine cT ⟨_,rfl,_,rfl,o,p,l,rms,_,rfl,hh,few,hl,by rw[ak];exact Eq.trans pn fcl,fit,λH1 S1=>?_⟩;subst hR1;dsimp only;refine bV λR1 hR1=>?_;refine cC ⟨_,rfl,lw,xs,fs,rfl,S1 _ _ hw,fl.same S1,rb.fz,by have:=rb.few;exact aM this (by decide),rb.lv.bd (by decide),λD2 p2 f2 g2=>?_⟩;have S2:Same H1 (upd (upd H1 D2 (.lst ((lvT fs).map V.int))) p2 (.tup [.ref D2,.int (lvB fs:Nat)])):=(Same.upd f2).trans (Same.upd g2);have k1:=Same.upd g2 (o:=.tup [.ref D2,.int (lvB fs:Nat)]) _ _ (bI (H:=H1) (a:=D2) (o:=.lst ((lvT fs).map V.int)));have k2:upd (upd H1 D2 (.lst ((lvT fs).map V.int))) p2 (.tup [.ref D2,.int (lvB fs:Nat)]) p2=_:=bI;generalize upd (upd H1 D2 (.lst ((lvT fs).map V.int))) p2 (.tup [.ref D2,.int (lvB fs:Nat)])=H2 at S2 k1 k2 ⊢;have SS:=S1.trans S2;have z9:101<sizeLine:=by decide
  have W0:(0:Int)<(lvB fs:Nat):=by have:=Gh rb.fz;lia
  have bW:=rb.lv;have bT:=rb.tops;have lT:(lvT fs).length=fs.length:=by unfold lvT;rw[ak]
  have vT:∀r,r<fs.length->((lvT fs).getD r 0:Rat)=(((lvB fs:Nat):Int):Rat)*wq fs r:=λr lr=>aa5 rb.fz lr;generalize hW:((lvB fs:Nat):Int)=W at *;generalize lvT fs=Ts at *;have WR:(0:Rat)<(W:Rat):=Rat.intCast_pos.mpr W0;subst hR1;dsimp only[cN,L2.start];refine bV λR1 hR1=>?_;refine cC ⟨bw _,λtl H3 S3 f3 h3=>?_⟩;subst hR1;dsimp only[cN,L2.start];refine bV λR1 hR1=>?_;refine cT (GP ⟨_,rfl,l,pl.map stV,rfl,S3 _ _ (SS _ _ hl),λk σ H'=>∃u5 u6 u7 ql,σ=[some (.ref o),some (.ref l),some (.ref lw),some (.ref p2),some (.ref tl),u5,u6,u7]/\Same H2 H'/\H' tl=some (.lst (ql.map stV))/\rN sh fs fcss (pl.take k) ql,⟨none,none,none,[],rfl,S3,h3,⟨rfl,λk o q fcs e=>by simp at e⟩⟩,?_,?_⟩)
  .rintro k x σ' H' t hk ⟨u5,u6,u7,ql,rfl,S,htl,ma⟩ hl' ht;have St:Same H' (upd H' t (.tup [.int k,x])):=Same.upd ht;have e2:upd H' t (.tup [.int k,x]) t=some (.tup [.int k,x]):=bI;generalize upd H' t (.tup [.int k,x])=Ht at St e2 ⊢;have lk:k<pl.length:=by have:=(ao.mp hk).1;rw[ak]at this;exact this
   have ep:pl[k]?=some pl[k]:=aj lk;rw[aq,ep]at hk;cases hk;generalize pl[k]=ok at *;have eg:rms[k]?=some (rms[k]'(by lia)):=aj _;have gm:=aV (l:=rms) (n:=k) (by lia);have ef:fcss[k]?=some (fcss[k]'(aU lk (Nat.le_of_eq pn))):=aj _;have dn:=dn k _ _ eg ef;have gf:=few.few _ gm;have gw:=few.ways _ gm;have pf:=pf k _ _ ef ep;generalize rms[k]'(by lia)=g at *;generalize fcss[k]'(aU lk (Nat.le_of_eq pn))=fcs at *;have S2t:=S.trans St;have SHt:=SS.trans S2t;have qlen:ql.length=k:=by rw[ma.len,bh];lia
   refine⟨t,_,rfl,e2,rfl,_,_,rfl,_,_,rfl,rfl,?_⟩;dsimp only[cN,List.set_cons_succ,List.set_cons_zero];refine bV λR2 hR2=>?_;refine cC (dM ⟨D.Hall,(by unfold dB;simp),_,rfl,o,dx,_,rfl,SHt _ _ ho,rfl,_,rfl,o,p,k,rms,g,rfl,hh.same SHt,eg,gf,gw,λr H4 zs S4 f4 h4 of4=>⟨r,zs,rfl,h4,?_,λD3 g3=>⟨λj ys Hc=>Same H4 Hc/\Hc D3=some (.lst ys)/\∃qs,FL (del [D3] Hc) ys qs/\qs.length=j/\(∀f∈qs,Fb f)/\qs.map vl=((jk sh fs fcs).take j).map (· * (W:Rat)),⟨Same.upd g3,bI,[],.nil,rfl,by simp,rfl⟩,?_,?_⟩⟩⟩)
   .rw[(of4 [] (by intro a ha;cases ha)).len];exact aM gf (by decide)
   .rintro j y ys Hc hj ⟨S5,h5,qs,fl5,ql5,fb5,v5⟩ _ ha;have of5:=(of4 [] (by intro a ha;cases ha)).same jq;have zl:zs.length=fcs.length:=by rw[of5.len,dn.len]
    have lj:j<fcs.length:=by rw[<- zl];exact(ao.mp hj).1
    have ef2:fcs[j]?=some fcs[j]:=aj lj;have ed:g.2[j]?=some (g.2[j]'(by rw[dn.len];exact lj)):=aj _;obtain⟨dN,dF⟩:=dn.at_ j _ _ ed ef2;generalize fcs[j]=fc at ef2 dN dF;generalize g.2[j]'(by rw[dn.len];exact lj)=d at ed dN;have S04:=SHt.trans S4;obtain⟨tt,et,oN⟩:=of5.offN nd ed (dN.same S04);rw[hj]at et;cases et;have S05:=S04.trans S5;have S25:=S2t.trans (S4.trans S5);have dF':=dF;rw[<- fn,<- lT]at dF';refine⟨_,rfl,_,rfl,_,rfl,o,p,tt,p2,D2,rms,sh,fc.1,fc.2,Ts,W,rfl,hh.same S05,S05 _ _ hp,s0,b1,b2,oN.same S5,dF',S25 _ _ k2,S25 _ _ k1,W0,bW.up (by decide),λx hx=>(bT x hx).up (by decide),λr7 z7 o7 H7 S7 f7 h7 y0 bz b_y v7=>?_⟩;have n7:r7∉[D3]:=by
     simp only[YR];exact(bH h5 f7).symm
    refine⟨S7 _ _ h5,S7 _ _ ha,λb u e=>(bK (bH e g3)).trans (S7 _ _ (S5 _ _ e)),bI,qs++[(z7,o7)],?_,by rw[aA,ql5];rfl,λf hf=>?_,?_⟩
    .rw[pP (YR.mpr rfl)];exact(fl5.same (lM λb o _ e=>S7 _ _ e)).append (.cons (gK n7 h7) .nil)
    .rcases Y1.mp hf with hf|hf
     .exact fb5 f hf
     .rw[YR.mp hf];exact⟨y0,bz.bd (by decide),b_y.bd (by decide)⟩
    .have eq:(jk sh fs fcs)[j]?=some (oR sh fc.1 fc.2 fs):=by unfold jk;rw[aq,ef2];rfl
     rw[cB eq,bA,bA,v5]
     congr 1
     show[vl (z7,o7)]=[oR sh fc.1 fc.2 fs*(W:Rat)];rw[v7,Qx (W:=(W:Rat)) (h:=wq fs) λc hc=>vT c.1 (by rw[fn];exact(dF.ch c hc).1)];unfold oR
     congr 1
     grind
   .rintro ys Hc ⟨S5,h5,qs,fl5,ql5,fb5,v5⟩ hy;have zl:zs.length=fcs.length:=by rw[(of4 [] (by intro a ha;cases ha)).len,dn.len]
    have lq:(jk sh fs fcs).length=fcs.length:=by unfold jk;rw[ak]
    rw[zl,<- lq,aP]at v5;rw[zl]at ql5;have S6:=S4.trans S5;have htl:=S6 _ _ (St _ _ htl);have hl6:=S6 _ _ (St _ _ hl');have S26:=S2t.trans S6;have ntl:l≠tl:=bH (SS _ _ hl) f3;have r20:=few.len;have fin:∀q:Option Nat,((ok=none->q=none)/\∀d,ok=some d->∃j,q=some j/\xG (jk sh fs fcs) d j)->upd Hc tl (.lst (ql.map stV++[stV q])) l=some (.lst (pl.map stV))/\∃u5 u6 u7 ql',[some (V.ref o),some (.ref l),some (.ref lw),some (.ref p2),some (.ref tl),some (.int (k:Nat)),some (stV ok),some (.ref D3)]=[some (.ref o),some (.ref l),some (.ref lw),some (.ref p2),some (.ref tl),u5,u6,u7]/\Same H2 (upd Hc tl (.lst (ql.map stV++[stV q])))/\upd Hc tl (.lst (ql.map stV++[stV q])) tl=some (.lst (ql'.map stV))/\rN sh fs fcss (pl.take (k+1)) ql':=λq hq=>⟨(bK ntl).trans hl6,_,_,_,ql++[q],rfl,λb u e=>(bK (bH e f3)).trans (S26 _ _ e),by rw[bI,bA];rfl,ma.snoc ep ef hq⟩;subst hR2;dsimp only[cN,List.set_cons_succ,List.set_cons_zero];cases ok with
    |none=>exact⟨_,rfl,tl,_,rfl,htl,_,rfl,rfl,true,ZH V.bl (Zs rfl),_,_,rfl,htl,by rw[ak];lia,fin none ⟨λ_=>rfl,λd e=>by cases e⟩⟩
    |some d =>
     have ld:d<qs.length:=by rw[ql5];exact afh pf
     refine⟨_,rfl,tl,_,rfl,htl,_,rfl,rfl,false,ZH V.bl (Zp (λz=>by cases z)),_,rfl,_,rfl,D3,d,ys,qs,rfl,h5,fl5.same jq,fb5,ld,by rw[ql5,<- dn.len];exact gf,λj bj=>⟨_,_,rfl,htl,by rw[ak];lia,fin (some j) ⟨(λz=>by cases z),λd' e=>?_⟩⟩⟩;cases e;rw[v5]at bj;exact⟨j,rfl,bj.of_mul WR⟩
  .rintro σ' H' ⟨u5,u6,u7,ql,rfl,S,htl,ma⟩ hl';rw[ak,aP]at ma;subst hR1;exact⟨_,rfl,q tl H' ql (SS.trans S) (Same.free SS f3) htl ma⟩
structure Hu{α β:Type}(R:α->β->Prop)(xs:List α)(ys:List β):Prop where
 len:xs.length=ys.length
 at_:∀(k:Nat)(x:α)(y:β),xs[k]?=some x->ys[k]?=some y->R x y
theorem Hu.imp{α β:Type}{R S:α->β->Prop}{xs:List α}{ys:List β}(h:Hu R xs ys)(i:∀x y,R x y->S x y):Hu S xs ys:=⟨h.len,λk x y a b=>i x y (h.at_ k x y a b)⟩
theorem Hu.nil{α β:Type}{R:α->β->Prop} : Hu R [] []:=⟨rfl,λk x y a=>by simp at a⟩
theorem Hu.snoc{α β:Type}{R:α->β->Prop}{xs:List α}{ys:List β}{x:α}{y:β}(h:Hu R xs ys)(r:R x y):Hu R (xs++[x]) (ys++[y]):=by
 have l:=h.len;refine⟨by rw[aA,aA,l];rfl,λk u v a b=>?_⟩;rcases eZ a with⟨a1,a2⟩|⟨a1,a2⟩<;>rcases eZ b with⟨b1,b2⟩|⟨b1,b2⟩
 .exact h.at_ k u v a2 b2
 .lia
 .lia
 .subst a2;subst b2;exact r
def nsJ{α:Type}(R:Hp->V->α->Prop)(D1:Addr)(tgt:List α)(H:Hp)(k:Nat)(ys:Μ)(H':Hp):Prop:=Same H H'/\H' D1=some (.lst ys)/\Hu (R (del [D1] H')) ys (tgt.take k)
theorem Li{α:Type}{K:Frag}{i:Nat}{te:TE}{σ:L2.St}{H:Hp}{Q:VK}{a:Addr}{xs:Μ}(R:Hp->V->α->Prop)(tgt:List α)(mono:∀{H H':Hp}{v:V}{t:α},Same H H'->R H v t->R H' v t)(hσ:σ[i]?=some (some (.ref a)))(ha:H a=some (.lst xs))(l:xs.length=tgt.length)(sz:tgt.length<=sizeLine)
 (hb:∀(k:Nat)x t Hc D1 ys(R':VK),xs[k]?=some x->tgt[k]?=some t->Same H Hc->Hc D1=some (.lst ys)->(∀y H2,Same Hc H2->R (del [D1] H2) y t->R' y H2)->te (some x::σ) Hc R')
 (q:∀D Hc ys,Same H Hc->H D=none->Hc D=some (.lst ys)->Hu (R (del [D] Hc)) ys tgt->Q (.ref D) Hc):mV (Fd K (tM (Jd i))) 1 (tMG (cN 0)) (tMT Qs) (tM te) σ H Q:=by
 refine dM ⟨_,hσ,a,xs,rfl,ha,by exact aM (Nat.le_of_eq l) sz,λD1 hD=>⟨nsJ R D1 tgt H,⟨Same.upd hD,bI,.nil⟩,λk x ys Hc hk ⟨S1,h1,a1⟩ hy hc=>?_,λys Hc ⟨S1,h1,a1⟩ hy=>?_⟩⟩
 .have lk:k<tgt.length:=by rw[<- l];exact(ao.mp hk).1
  refine hb k x _ Hc D1 ys _ hk (aj lk) S1 h1 λy H2 S2 r=>⟨S2 _ _ h1,S2 _ _ hc,λb o z=>(bK (bH z hD)).trans (S2 _ _ (S1 _ _ z)),bI,?_⟩;rw[pP (by simp),cB (aj lk)];exact(a1.imp λ_ _ z=>mono (lM λb o _ e=>S2 _ _ e) z).snoc r
 .rw[l,aP]at a1;exact q D1 Hc ys S1 hD h1 a1
theorem Gn.fb{fs gs qs:Ψ}(h:Gn fs gs qs)(ln:fs.length=gs.length){q:Ι}(hq:q∈qs):∃(k:Nat)(f g:Ι),fs[k]?=some f/\gs[k]?=some g/\qs[k]?=some q/\0<q.2/\Bn 1077 q.1/\Bn 980 q.2/\vl q=vl g-vl f:=by
 obtain⟨k,ek⟩:=aW hq;have lk:k<gs.length:=by rw[<- h.len];exact(ao.mp ek).1
 have e1:fs[k]?=some (fs[k]'(by lia)):=aj _;have e2:gs[k]?=some gs[k]:=aj lk;exact⟨k,_,_,e1,e2,ek,h.at_ k _ _ q e1 e2 ek⟩
theorem Gn.mem{fs gs qs:Ψ}(h:Gn fs gs qs){k:Nat}{f g:Ι}(e1:fs[k]?=some f)(e2:gs[k]?=some g):∃q∈qs,vl q=vl g-vl f:=by
 have lk:k<qs.length:=by rw[h.len];exact(ao.mp e2).1
 exact⟨_,aV lk,(h.at_ k f g _ e1 e2 (aj lk)).2.2.2⟩
theorem Rg{Pt c:Addr}{pos:Pos}{qual:Str}{H H':Hp}(S:Same (wo [Pt,c] H) (wo [Pt,c] H'))(a:vP Pt pos qual H (some c))(b:vP Pt pos qual H' (some c)):Same H H':=λx u e=>by
 by_cases z1:x=Pt
 .rw[z1]at e ⊢;rw[a.1]at e;exact b.1.trans e
 by_cases z2:x=c
 .rw[z2]at e ⊢;rw[a.2]at e;exact b.2.trans e
 have n:x∉[Pt,c]:=by simp only[YU,List.not_mem_nil,or_false,not_or];exact⟨z1,z2⟩
 exact(nW _ _ (S _ _ ((oY n).trans e)))
structure ady(s:Ι)(gs:Ψ)(M:Rat)(qs:Ψ):Prop where
 len:qs.length=gs.length
 at_:∀(k:Nat)g q,gs[k]?=some g->qs[k]?=some q->0<q.2/\Int.gcd q.1 q.2=1/\Bn 1600 q.1/\Bn 1500 q.2/\vl q=vl g+vl s/(1-vl s)*M
structure YD(s:Ι)(fs gs qs rs:Ψ):Prop where
 lenq:qs.length=gs.length
 lenr:rs.length=gs.length
 ex:0<gs.length->∃m M,ad5 fs gs m/\ach fs gs M/\ady s gs m qs/\ady s gs M rs
theorem adW{t1 t2:TE}{σ:L2.St}{H:Hp}{Q:VK}(h:t1 σ H λx H1=>t2 σ H1 λy H2=>2<=sizeLine/\∀p H',Same H2 H'->H2 p=none->H' p=some (.tup [x,y])->Q (.ref p) H'):afq (rW t1 (rW t2 Ij)) σ H Q:=h
def Rb(s:Ι)(M:Rat)(H:Hp)(v:V)(g:Ι):Prop:=∃(a:Addr)(q:Ι),v=.ref a/\H a=some (.tup [.int q.1,.int q.2])/\0<q.2/\Int.gcd q.1 q.2=1/\Bn 1600 q.1/\Bn 1500 q.2/\vl q=vl g+vl s/(1-vl s)*M
theorem aax{s:Ι}{M:Rat}{H:Hp} : ∀{ws:Μ}{gs:Ψ},Hu (Rb s M H) ws gs->∃qs,FL H ws qs/\ady s gs M qs
 |[],[],_=>⟨[],.nil,rfl,λk g q e=>by simp at e⟩
 |[],_::_,h=>by have:=h.len;simp at this
 |_::_,[],h=>by have:=h.len;simp at this
 |w::ws,c::cs,h=>by
  obtain⟨qs,fl,n1,n2⟩:=aax (ws:=ws) (gs:=cs) ⟨by have:=h.len;simpa using this,λk x y a b=>h.at_ (k+1) x y a b⟩;obtain⟨a,q,rfl,hv,r⟩:=h.at_ 0 w c rfl rfl;refine⟨q::qs,.cons hv fl,by rw[List.length_cons,List.length_cons,n1],λk g' q' e1 e2=>?_⟩;cases k with
  |zero=>cases e1;cases e2;exact r
  |succ k=>exact n2 k g' q' e1 e2
def zA(K:Frag)(D:Adr):Sp:=λvs H Q E=>∃(o:Addr)(v:V),vs=[.ref o,v]/\Odd H v/\(¬Cw v->E (.ref D.NoNumber) none H) /\
 (Cw v->∃(many L:Nat)(s:Ι)(fcss:Γ)(c:Addr),v=.int many/\vP D.T_best_rounds lamP Qj H (some c)/\uy K D (wo [D.T_best_rounds,c] H) o s fcss/\Q5 s fcss L/\s.1<s.2/\s.2<=100/\L^many<=10^490 /\
  ∀t t1 t2 xs ys fss fs gs qs rs H',Same H H'->H t1=none->H t2=none->t1≠t2->H' t=some (.tup [.ref t1,.ref t2])->H' t1=some (.lst xs)->H' t2=some (.lst ys)->FL H' xs qs->FL H' ys rs->Rounds s fcss L fss->fss.length=many+1->fss[many-1]?=some fs->fss[many]?=some gs->YD s fs gs qs rs->Q (.ref t) H')
theorem O9(F:Fun K kW kW p8 f fd)(T:Txt K mg D)(gR:OkX P w K mg base 2 gO gM (O7 D))(gH:OkX P w K mg base 8 fG gq (qZ K D))(Mh:OkF P w K mg base 4 yP yH (Jf K))(iG:OkF P w K mg base 2 iZ iW uq)(NK:OkF P w K mg base 2 xM yd Gv)(zj:OkF P w K mg base 4 rD rT (P_ K))(tL:OkF P w K mg base 3 sX sU (nA (K:=K) λa b=>a+b)):cF P w K mg base (CXO P w) 9 f fd kJ (zA K D):=by
 refine F.okX kh ?_ ?_
 .rintro _ _ _ _ ⟨o,v,rfl,_⟩;rfl
 .rintro cdv A outer s H _ Q E hr ⟨o,v,rfl,ov,e,q⟩;refine⟨_,(bL (dD (eN gR hr.md (by rfl) fK (bD (pv 1) bF)))
   (bL (cj (i:=2) kh.nd rfl (Or.inl rfl) (eN gH hr.md (by rfl) fK (bD (pv 0) (bD (pv 1) bF))))
   (bL (cj (i:=3) kh.nd rfl (Or.inl rfl) (bQ bY (pv 2) (Et xT bG) (λ_ _=>rfl)))
   (bL (cW (cI mZ (b_ dw (by rfl) T.iH PySem.boot_len (bD (pv 3) bF)) bG (cJ _))
    (bM (cg (dH (bD (jd bF) (bD (jd bF) bF)))))
    cA)
   (bL (cj (i:=4) kh.nd rfl (Or.inl rfl) (bO Mh hr.md (by rfl) (bD (bQ bY (pv 2) (Et xT bG) (λ_ _=>rfl)) (bD (pv 3) bF))))
   (bL (cj (i:=5) kh.nd rfl (Or.inr rfl) (bO zj hr.md (by rfl) (bD (su (pv 0) rfl) (bD (bO NK hr.md (by rfl) (bD (pv 4) bF)) bF))))
   (bL (cj (i:=6) kh.nd rfl (Or.inr rfl) (bO zj hr.md (by rfl) (bD (su (pv 0) rfl) (bD (bO iG hr.md (by rfl) (bD (pv 4) bF)) bF))))
   (bM (cg (dH (bD (iY (bN p8) p7 p7 ["one"] (cZ ((pv 3)).mono) (d7 (i:=0)) dz (bO tL hr.md (by rfl) (bD (pv 0) (bD (pv 6) bF)))) (bD (iY (bN p8) p7 p7 ["one"] (cZ ((pv 3)).mono) (d7 (i:=0)) dz (bO tL hr.md (by rfl) (bD (pv 0) (bD (pv 7) bF)))) bF)))))))))))),?_⟩
  refine bV λR1 hR1=>?_;refine cT ⟨_,rfl,v,rfl,ov,λbn=>?_,λnb=>e nb⟩;obtain⟨many,L,sh,fcss,c,rfl,la,hn,hL,s1,s100,hm,q⟩:=q bn;have mn:xU (.int (many:Nat)):=⟨by have:=bn.1;exact Wp _,bn.2⟩;have m40:many<=40:=by have:=bn.2;lia
  have m1:1<=many:=by have:=bn.1;lia
  have n12:=hn.n12;obtain⟨p',rms,hh,few,nd,hp',fcl,dn⟩:=hn.ex;obtain⟨dx,nn,ll,zs0,ho,_,_,_⟩:=id hh;subst hR1;dsimp only;refine bV λR1 hR1=>?_;refine cC ⟨_,rfl,_,rfl,o,.int many,rfl,ov,(λz=>absurd mn z),λ_=>⟨many,L,sh,fcss,some c,rfl,la,hn,hL,hm,λt ls fss HA c' SA laA ec ft fls nt ht rd ln ro=>?_⟩⟩;obtain rfl:c'=c:=ec c rfl;have SH:Same H HA:=Rg SA la laA;have hoA:=SH _ _ (nW _ _ ho);have hpA:=SH _ _ (nW _ _ hp');have rd:=rd.same nW;have l1:=rd.len;have ef:fss[many-1]?=some (fss[many-1]'(by omega)):=aj _;have eg:fss[many]?=some (fss[many]'(by lia)):=aj _;have elf:ls[many-1]?=some (ls[many-1]'(by omega)):=aj _;have elg:ls[many]?=some (ls[many]'(by lia)):=aj _;obtain⟨xf,hxf,flf⟩:=rd.at_ _ _ _ elf ef;obtain⟨xg,hxg,flg⟩:=rd.at_ _ _ _ elg eg;obtain⟨rf,lf⟩:=ro.ok _ _ ef;obtain⟨rg,lg⟩:=ro.ok _ _ eg;have wf:=rf.wb hL.L0 (m:=many) (Nat.sub_le _ _) m40 hm;have wg:=rg.wb hL.L0 (m:=many) (aF _) m40 hm;generalize fss[many-1]'(by omega)=fs at *;generalize fss[many]'(by lia)=gs at *;generalize ls[many-1]'(by omega)=la1 at *;generalize ls[many]'(by lia)=lb1 at *;have ix:∀(j:Nat)(i:Int)l,ls[j]?=some l->ixN ls.length i=some j->atI (ls.map V.ref) i=some (.ref l):=λj i l e1 e2=>by
   unfold atI;rw[ak,e2];show(ls.map V.ref)[j]?=_;rw[aq,e1];rfl
  have i1:ixN ls.length (-1)=some many:=by
   rw[CJ (by lia)]
   congr 1
   omega
  have i2:ixN ls.length (-2)=some (many-1):=by
   unfold ixN;rw[ZZ (Int.not_le_of_gt (by decide)),ZY (by lia)]
   congr 1
   omega
  subst hR1;dsimp only[cN,L2.start,List.set_cons_succ,List.set_cons_zero];refine bV λR1 hR1=>?_;refine cC ⟨_,rfl,1,rfl,t,_,_,_,rfl,rfl,ht,ix _ _ _ elg i1,?_⟩;subst hR1;dsimp only[cN,L2.start,List.set_cons_succ,List.set_cons_zero];refine bV λR1 hR1=>?_;have xgl:=flg.length;refine cT ⟨_,rfl,lb1,xg,rfl,hxg,rfl,decide (xg.length=0),ZH V.bl (decide_eq_decide.mpr ⟨λz=>by injection z with z;lia,λz=>by rw[z];rfl⟩),?_⟩;by_cases n0:xg.length=0
  .rw[Zs n0];refine⟨bw _,λt1 H1 S1 f1 h1=>⟨bw _,λt2 H2 S2 f2 h2=>⟨d8,λtt H3 S3 f3 h3=>?_⟩⟩⟩;have SS:=SH.trans (S1.trans (S2.trans S3));exact q tt t1 t2 [] [] fss fs gs [] [] H3 SS (Same.free SH f1) (Same.free (SH.trans S1) f2) (bH h1 f2) h3 (S3 _ _ (S2 _ _ h1)) (S3 _ _ h2) .nil .nil ro ln ef eg ⟨by show 0=_;exact Eq.trans (Eq.symm n0) xgl,by show 0=_;exact Eq.trans (Eq.symm n0) xgl,λz=>by lia⟩
  rw[Zp n0];show R1 _ _ _;subst hR1;refine bV λR1 hR1=>?_;refine cC ⟨_,rfl,2,rfl,t,_,_,_,rfl,rfl,ht,ix _ _ _ elf i2,_,rfl,la1,lb1,xf,xg,fs,gs,rfl,hxf,hxg,flf,flg,wf,wg,by exact Eq.trans lf (Eq.symm lg),by exact aM (Nat.le_of_eq lg) n12,λtg H1 zs qs S1 f1 h1 fl gn=>?_⟩;have ne:qs≠[]:=λz=>by have:=gn.len;rw[z]at this;simp at this;lia
  have gl:fs.length=gs.length:=by exact Eq.trans lf (Eq.symm lg)
  have qb:∀q∈qs,Fb q:=λq hq=>by
   obtain⟨_,_,_,_,_,_,a,b,c,_⟩:=gn.fb gl hq;exact⟨a,b.bd (by decide),c.bd (by decide)⟩
  subst hR1;dsimp only[cN,List.set_cons_succ,List.set_cons_zero];refine bV λR1 hR1=>?_;have s0:=hL.s0;have SH1:=SH.trans S1;refine cC ⟨_,rfl,o,D.Hall,dx,_,.ref p',rfl,S1 _ _ hoA,T.rK,T.pU,rfl,_,rfl,tg,zs,qs,rfl,h1,fl,qb,(λz=>absurd z ne),λpm m jm hm' tm=>?_⟩;obtain⟨k2,f2',g2',b1,b2,b3,b4,b5,b6,b7⟩:=gn.fb gl (aB tm.at_);refine⟨p',pm,sh.1,sh.2,m.1,m.2,1077,980,rfl,S1 _ _ hpA,hm',s0,s1,s100,b4,by decide,by decide,b5,b6,λrl zl ol H2 S2 f2 h2 pl gl' bzl bol vlo=>?_⟩;have SA2:=S1.trans S2;subst hR1;dsimp only[cN,List.set_cons_succ,List.set_cons_zero];refine bV λR1 hR1=>?_;refine cC ⟨_,rfl,o,D.Hall,dx,_,.ref p',rfl,SA2 _ _ hoA,T.rK,T.pU,rfl,_,rfl,tg,zs,qs,rfl,S2 _ _ h1,fl.same S2,qb,(λz=>absurd z ne),λpM M jM hM tM=>?_⟩;obtain⟨k1,f1',g1',a1,a2,a3,a4,a5,a6,a7⟩:=gn.fb gl (aB tM.at_);refine⟨p',pM,sh.1,sh.2,M.1,M.2,1077,980,rfl,SA2 _ _ hpA,hM,s0,s1,s100,a4,by decide,by decide,a5,a6,λrh zh oh H3 S3 f3 h3 ph gh' bzh boh vhi=>?_⟩;have SA3:=SA2.trans S3;have h23:=S3 _ _ h2;have z9:101<sizeLine:=by decide
  have step:∀(pl:Addr)(zl ol:Int)(X:Rat)(Hx:Hp),Same HA Hx->Hx pl=some (.tup [.int zl,.int ol])->0<ol->Bn 1083 zl->Bn 986 ol->vl (zl,ol)=vl (sh.1,sh.2)/(1-vl (sh.1,sh.2))*X->∀(k:Nat)(x:V)(g:Ι)(D1:Addr)(ys:Μ)(R':VK),xg[k]?=some x->gs[k]?=some g->Hx D1=some (.lst ys)->(∀y H2,Same Hx H2->Rb sh X (del [D1] H2) y g->R' y H2)->nA (K:=K) (λa b=>a+b) [x,.ref pl] Hx R' E0:=by
   intro pl zl ol X Hx Sx hpl op bz bo ev k x g D1 ys R' hx hg hD r';obtain⟨pg,g',rfl,eg',hpg⟩:=flg.get hx;rw[hg]at eg';cases eg';obtain⟨g0,gb1,gb2⟩:=wg g (aB hg);refine⟨pg,pl,g.1,g.2,zl,ol,rfl,Sx.tup hpg,.of hpl,gb1.bd (by decide),gb2.bd (by decide),bz.bd (by decide),bo.bd (by decide),g0,op,(Bn.mul gb2 bo).bd (by decide),λr z' o' l hr1=>?_⟩;have nr:r∉[D1]:=by
    simp only[YR];exact(bH hD hr1).symm
   have l:Low (g.1*ol+zl*g.2) (g.2*ol) z' o':=l;refine r' _ _ (Same.upd hr1) ⟨r,(z',o'),rfl,gK nr bI,l.pos,l.gcd,(Bn.lx (Bn.add ((Bn.mul gb1 bo).up (b:=1580) (by decide)) ((Bn.mul bz gb2).up (b:=1580) (by decide))) l).up (by decide),(Bn.ly (Bn.mul gb2 bo) l).up (by decide),?_⟩;rw[l.vl (Xs g0 op),Dq g0 op,ev]
  have mono:∀{X:Rat}{H H':Hp}{v:V}{g:Ι},Same H H'->Rb sh X H v g->Rb sh X H' v g:=λS z=>by
   obtain⟨a,q,a1,a2,a3⟩:=z;exact⟨a,q,a1,S _ _ a2,a3⟩
  subst hR1;dsimp only[cN,List.set_cons_succ,List.set_cons_zero];refine dX (adW ?_);refine Li (Rb sh (vl m)) gs mono rfl (SA3 _ _ hxg) xgl (by lia) (λk x g Hc D1 ys R' hx hg Sc hD r'=>⟨_,rfl,_,rfl,step rl zl ol (vl m) Hc (SA3.trans Sc) (Sc _ _ h23) pl bzl bol vlo k x g D1 ys R' hx hg hD r'⟩) λt1 H5 ws1 S5 f5 h5 al5=>?_;refine Li (Rb sh (vl M)) gs mono rfl (S5 _ _ (SA3 _ _ hxg)) xgl (by lia) (λk x g Hc D1 ys R' hx hg Sc hD r'=>⟨_,rfl,_,rfl,step rh zh oh (vl M) Hc (SA3.trans (S5.trans Sc)) (Sc _ _ (S5 _ _ h3)) ph bzh boh vhi k x g D1 ys R' hx hg hD r'⟩) λt2 H6 ws2 S6 f6 h6 al6=>?_;refine⟨d8,λtt H7 S7 f7 h7=>?_⟩;obtain⟨q1,fl1,bd1⟩:=aax al5;obtain⟨q2,fl2,bd2⟩:=aax al6;have SS:=SH.trans (SA3.trans (S5.trans (S6.trans S7)));refine q tt t1 t2 ws1 ws2 fss fs gs q1 q2 H7 SS (Same.free (SH.trans SA3) f5) (Same.free (SH.trans (SA3.trans S5)) f6) (bH h5 f6) h7 (S7 _ _ (S6 _ _ h5)) (S7 _ _ h6) ((fl1.same jq).same (S6.trans S7)) ((fl2.same jq).same S7) ro ln ef eg ⟨bd1.len,bd2.len,λ_=>⟨vl m,vl M,⟨⟨k2,f2',g2',b1,b2,b7⟩,λi f' g' e1 e2=>?_⟩,⟨⟨k1,f1',g1',a1,a2,a7⟩,λi f' g' e1 e2=>?_⟩,bd1,bd2⟩⟩
  .obtain⟨q,hq,e⟩:=gn.mem e1 e2;rw[<- e];exact tm.le q hq
  .obtain⟨q,hq,e⟩:=gn.mem e1 e2;rw[<- e];exact tM.le q hq
theorem QH{as:Ε}{H H':Hp}(S:Same H H'):Same (L2.wo as H) (L2.wo as H'):=λb u e=>by
 obtain⟨a,c⟩:=sJ e;rw[oY a];exact S _ _ c
theorem Zv{k m:Nat}(h:k<m):Ot (stV (some k)) m=true:=by
 unfold Ot;rw[ZZ (by lia)];show(decide ((0:Int)<=(k:Nat))&&decide (((k:Nat):Int)<m))=true;rw[Zs (Wp _),Zs (by lia)];rfl
noncomputable def ni(fcss:Γ):List (Option Nat):=fcss.map λfcs=>if 0<fcs.length then some 0 else none
def BL(K:Frag)(D:Adr):Sp:=λvs H Q E=>∃(o:Addr)(v:V),vs=[.ref o,v]/\Odd H v/\(¬Cw v->E (.ref D.NoNumber) none H) /\
 (Cw v->∃(many L:Nat)(s:Ι)(fcss:Γ)(c:Addr),v=.int many/\vP D.T_best_rounds lamP Qj H (some c)/\uy K D (wo [D.T_best_rounds,c] H) o s fcss/\Q5 s fcss L/\L^many<=10^490 /\
  ∀t fss fs ql H',Same H H'->H t=none->H' t=some (.lst (ql.map stV))->Rounds s fcss L fss->fss.length=many->fss[many-1]?=some fs->rN s fs fcss (ni fcss) ql->Q (.ref t) H')
theorem Ky(F:Fun K jt jt u_ f fd)(T:Txt K mg D)(gR:OkX P w K mg base 2 gO gM (O7 D))(gH:OkX P w K mg base 8 fG gq (qZ K D))(uJ:OkF P w K mg base 4 lX lR (Ja D))(JD:OkF P w K mg base 5 uh uc (Qq K D)):cF P w K mg base (CXO P w) 9 f fd jF (BL K D):=by
 refine F.okX Kz ?_ ?_
 .rintro _ _ _ _ ⟨o,v,rfl,_⟩;rfl
 .rintro cdv A outer s H _ Q E hr ⟨o,v,rfl,ov,e,q⟩;refine⟨_,(bL (dD (eN gR hr.md (by rfl) fK (bD (pv 1) bF)))
   (bM (cg (bO JD hr.md (by rfl) (bD (pv 0) (bD (bO uJ hr.md (by rfl) (bD (pv 0) bF)) (bD (bQ bY (eN gH hr.md (by rfl) fK (bD (pv 0) (bD (bU oZ (pv 1) bG) bF))) (Et xT bG) (λ_ _=>rfl)) bF))))))),?_⟩
  refine bV λR1 hR1=>?_;refine cT ⟨_,rfl,v,rfl,ov,λbn=>?_,λnb=>e nb⟩;obtain⟨many,L,sh,fcss,c,rfl,la,hn,hL,hm,q⟩:=q bn;have m40:many<=40:=by have:=bn.2;lia
  have m1:1<=many:=by have:=bn.1;lia
  have ev:V.int ((many:Int)-1)=.int ((many-1:Nat):Int):=ZH V.int (by omega);have mn:xU (.int ((many-1:Nat):Int)):=⟨by exact Wp _,by lia⟩;have hm':L^(many-1)<=10^490:=aM (XU hL.L0 (Nat.sub_le _ _)) hm;have n12:=hn.n12;have hnH:=hn.same nW;obtain⟨p',rms,hh,few,nd,hp',fcl,dn⟩:=hnH.ex;have el:zW rms=ni fcss:=List.ext_getElem? λk=>by
   unfold zW ni;rw[aq,aq];by_cases lk:k<fcss.length
   .have eg:rms[k]?=some (rms[k]'(aU lk (Nat.le_of_eq fcl))):=aj _;have ef:fcss[k]?=some fcss[k]:=aj lk;have:=(dn k _ _ eg ef).len;rw[eg,ef];simp only[Option.map_some,this]
   .rw[List.getElem?_eq_none (by lia),List.getElem?_eq_none (Nat.le_of_not_lt lk)];rfl
  subst hR1;dsimp only[L2.start];refine dX ⟨_,rfl,_,rfl,o,p',rms,rfl,hh,few,λr1 H1 S1 f1 h1=>⟨_,rfl,_,rfl,_,_,rfl,rfl,o,.int ((many-1:Nat):Int),by dsimp only;rw[ev],⟨_,rfl⟩,(λz=>absurd mn z),λ_=>⟨many-1,L,sh,fcss,some c,rfl,⟨S1 _ _ la.1,S1 _ _ la.2⟩,hn.same (QH S1),hL,hm',λt ls fss HA c' SA laA ec ft fls nt ht rd ln ro=>?_⟩⟩⟩;obtain rfl:c'=c:=ec c rfl;have SH:Same H1 HA:=Rg SA ⟨S1 _ _ la.1,S1 _ _ la.2⟩ laA;have S01:=S1.trans SH;have rd:=rd.same nW;have l1:=rd.len;have ef:fss[many-1]?=some (fss[many-1]'(by omega)):=aj _;have elf:ls[many-1]?=some (ls[many-1]'(by lia)):=aj _;obtain⟨xf,hxf,flf⟩:=rd.at_ _ _ _ elf ef;obtain⟨rf,lf⟩:=ro.ok _ _ ef;generalize fss[many-1]'(by omega)=fs at *;generalize ls[many-1]'(by lia)=la1 at *;have ax:atI (ls.map V.ref) (-1)=some (.ref la1):=by
   unfold atI;rw[ak,CJ (by lia)];show(ls.map V.ref)[ls.length-1]?=_;rw[aq,show ls.length-1=many-1 by omega,elf];rfl
  rw[el]at h1;refine⟨1,rfl,t,_,_,_,rfl,rfl,ht,ax,o,r1,la1,sh,xf,fs,fcss,ni fcss,rfl,hnH.same S01,SH _ _ h1,by unfold ni;rw[ak],λk fcs o' e1 e2=>?_,hxf,flf,rf.bd hL.L0 (m:=many-1) (aF _) (aM (Nat.sub_le _ _) m40) hm' (aM (Nat.le_of_eq lf) n12),lf,λr H' ql S f h ma=>q r fss fs ql H' (S01.trans S) (Same.free S01 f) h ro (by lia) ef ma⟩;unfold ni at e2;rw[aq,e1]at e2;cases e2;dsimp only;by_cases z:0<fcs.length
  .rw[ZY z];exact Zv z
  .rw[ZZ z,show fcs.length=0 by lia];rfl
noncomputable def ltL:List Nat:=(Str.ofString "abcdefghijklmnopqrstuvwxyz").cps.toList
theorem acr:ltL.length=26:=by decide +kernel
theorem adv:∀a b:Fin 26,ltL[a.val]?=ltL[b.val]?->a=b:=by decide +kernel
theorem ae1{a b:Int}{c:Nat}(a0:0<=a)(a1:a<26)(b0:0<=b)(b1:b<26)(ha:ltL[a.toNat]?=some c)(hb:ltL[b.toNat]?=some c):a=b:=by
 have:=adv ⟨a.toNat,by lia⟩ ⟨b.toNat,by lia⟩ (ha.trans hb.symm);have:=ZH Fin.val this;simp only at this;lia
theorem aaY{a:Int}(a0:0<=a)(a1:a<26):∃c,atI (Str.ofString "abcdefghijklmnopqrstuvwxyz").cps.toList a=some c/\ltL[a.toNat]?=some c/\Ag c=true:=by
 obtain⟨k,rfl⟩:=Int.eq_ofNat_of_zero_le a0;have h:k<ltL.length:=by rw[acr];lia
 exact⟨ltL[k],cu (aj h),aj h,Zs (aV h)⟩
def rJ(R:Nat->Str->Prop)(D:Addr)(H:Hp)(k:Nat)(ys:Μ)(Hc:Hp):Prop:=∃ss:Β,ys=ss.map V.str/\ss.length=k/\(∀i x,ss[i]?=some x->R i x)/\Hc=upd H D (.lst ys)
theorem rJ.next{R:Nat->Str->Prop}{D:Addr}{H:Hp}{k:Nat}{ys:Μ}{Hc:Hp}(h:rJ R D H k ys Hc){x:Str}(h0:R k x):rJ R D H (k+1) (ys++[.str x]) (upd Hc D (.lst (ys++[.str x]))):=by
 obtain⟨ws,rfl,rfl,ha,rfl⟩:=h;refine⟨ws++[x],by rw[bA];rfl,by rw[aA];rfl,λi y hy=>?_,yZ⟩;by_cases hi:i<ws.length
 .rw[aD hi]at hy;exact ha i y hy
 .have hl:=(ao.mp hy).1;rw[aA]at hl;have hl:i<ws.length+1:=hl;have e:i=ws.length:=by lia
  subst e;rw[aC (aF _),Nat.sub_self]at hy;cases hy;exact h0
theorem rJ.at_{R:Nat->Str->Prop}{D:Addr}{H:Hp}{k:Nat}{ys:Μ}{Hc:Hp}(h:rJ R D H k ys Hc):Hc D=some (.lst ys):=by
 obtain⟨ws,rfl,hl,ha,rfl⟩:=h;exact bI
theorem rJ.same{R:Nat->Str->Prop}{D:Addr}{H:Hp}{k:Nat}{ys:Μ}{Hc:Hp}(h:rJ R D H k ys Hc)(hD:H D=none):Same H Hc:=by
 obtain⟨ws,rfl,hl,ha,rfl⟩:=h;exact Same.upd hD
theorem Ww{R:Nat->Str->Prop}{ss:Β}(h:∀i x,ss[i]?=some x->R i x)(u:∀i j x,i<j->j<ss.length->R i x->R j x->False):ss.Nodup:=by
 unfold List.Nodup;rw[List.pairwise_iff_getElem];intro i j hi hj ij e;exact u i j ss[i] ij hj (h i _ (aj hi)) (by rw[e];exact h j _ (aj hj))
theorem aek{R:Nat->Str->Prop}{P:Str->Prop}{ss:Β}(h:∀i x,ss[i]?=some x->R i x)(u:∀i x,i<ss.length->R i x->P x):∀x∈ss,P x:=λx hx=>by
 obtain⟨i,hi⟩:=aW hx;exact u i x (ao.mp hi).1 (h i x hi)
theorem ZR{x:Str}{n:Nat} : (HW x none (some (n:Int))).cps.toList=x.cps.toList.take n:=by
 unfold HW;have hl:x.cps.toList.length=x.length:=Array.length_toList;show((x.cps.toList.drop 0).take (HT.sIx x.length x.length (some (n:Int))-0))=_;rw[HT.sW,List.drop_zero,Nat.sub_zero,<- hl];rw[List.take_eq_take_iff];lia
theorem Q8{x:Str}{n:Nat} : (HW x (some (n:Int)) none).cps.toList=x.cps.toList.drop n:=by
 unfold HW;have hl:x.cps.toList.length=x.length:=Array.length_toList;show((x.cps.toList.drop (HT.sIx x.length 0 (some (n:Int)))).take (x.length-HT.sIx x.length 0 (some (n:Int))))=_;rw[HT.sW,<- hl];by_cases h:n<=x.cps.toList.length
 .rw[Nat.min_eq_left h];exact aK (by rw[List.length_drop];exact aF _)
 .rw[List.drop_eq_nil_of_le (by lia:x.cps.toList.length<=n),List.drop_eq_nil_of_le (by lia),List.take_nil]
theorem M4{ys:Μ}{a b:Nat}(ab:a<=b)(h:b<=ys.length):pZ ys (some (a:Int)) (some (b:Int))=(ys.drop a).take (b-a):=by
 unfold pZ;rw[HT.sW,HT.sW,Nat.min_eq_left h,Nat.min_eq_left (aM ab h)]
theorem K8:∀{ss:Β},(∀y∈ss,y.length=1)->(ss.map (·.length)).sum=ss.length
 |[],_=>rfl
 |y::ss,h=>by
  rw[List.map_cons,List.sum_cons,K8 λz hz=>h z (aH _ hz),h y aO,List.length_cons];exact Nat.add_comm _ _
def nm1(c:Nat)(i:Nat)(x:Str):Prop:=x.cps.toList=List.replicate (i+1) c
def nm2(b:List Nat)(at_:Nat)(x0 st:Int)(i:Nat)(x:Str):Prop:=∃c,ltL[((x0+st*i)%26).toNat]?=some c/\Ag c=true/\x.cps.toList=b.take at_++c::b.drop at_
theorem ad0{b:List Nat}{at_:Nat}{x0 st:Int}{i j:Nat}{x:Str}(hs:st=1\/st=3\/st=5\/st=7\/st=9\/st=11)(ij:i<j)(hj:j<13)(h1:nm2 b at_ x0 st i x)(h2:nm2 b at_ x0 st j x):False:=by
 obtain⟨c,a1,_,e1⟩:=h1;obtain⟨d,a2,_,e2⟩:=h2;have e:=e1.symm.trans e2;have e:=List.append_cancel_left e;injection e with e _;subst e;have:=ae1 (Z3 _ (by decide)) (YY _ (by decide)) (Z3 _ (by decide)) (YY _ (by decide)) a1 a2;rcases hs with rfl|rfl|rfl|rfl|rfl|rfl<;>lia
theorem uU(x:Str):x.cps.toList.length=x.length:=Array.length_toList
theorem ae0{c i:Nat}{x:Str}(hc:Ag c=true)(hi:i<8)(h:nm1 c i x):Wd x:=by
 have l:=uU x;rw[h,aN]at l;refine⟨?_,by lia,by lia⟩;unfold Lt;rw[h,List.all_eq_true];intro d hd;rw[(XW.mp hd).2];exact hc
theorem ae2{b:List Nat}{at_:Nat}{x0 st:Int}{i:Nat}{x:Str}(hb:b.all Ag=true)(hl:b.length<=7)(h:nm2 b at_ x0 st i x):Wd x:=by
 obtain⟨c,_,hc,e⟩:=h;have l:=uU x;rw[e,aA,List.length_cons,bh,List.length_drop]at l;refine⟨?_,by lia,by omega⟩;unfold Lt;rw[e,List.all_eq_true];rw[List.all_eq_true]at hb;intro d hd;rcases Y1.mp hd with hd|hd
 .exact hb d (List.mem_of_mem_take hd)
 .rcases YU.mp hd with rfl|hd
  .exact hc
  .exact hb d (List.mem_of_mem_drop hd)
def sJN(P:Str->Prop)(D:Addr)(H:Hp)(k:Nat)(ys:Μ)(Hc:Hp):Prop:=∃ss:Β,ys=ss.map V.str/\ss.length=k/\(∀x∈ss,P x)/\Hc=upd H D (.lst ys)
theorem sJN.next{P:Str->Prop}{D:Addr}{H:Hp}{k:Nat}{ys:Μ}{Hc:Hp}(h:sJN P D H k ys Hc){x:Str}(h0:P x):sJN P D H (k+1) (ys++[.str x]) (upd Hc D (.lst (ys++[.str x]))):=by
 obtain⟨ws,rfl,hl,ha,rfl⟩:=h;refine⟨ws++[x],by rw[bA];rfl,by rw[aA,hl];rfl,λy hy=>?_,yZ⟩;rcases Y1.mp hy with hy|hy
 .exact ha y hy
 .rw[YR.mp hy];exact h0
theorem sJN.at_{P:Str->Prop}{D:Addr}{H:Hp}{k:Nat}{ys:Μ}{Hc:Hp}(h:sJN P D H k ys Hc):Hc D=some (.lst ys):=by
 obtain⟨ws,rfl,hl,ha,rfl⟩:=h;exact bI
def Iu:Sp:=λvs H Q _=>∃(c:Int)(n:Nat),vs=[.int c,.int n]/\n<=12/\∀(l:Addr)(xs:Β)H',Same H H'->H l=none->H' l=some (.lst (xs.map V.str))->xs.length=n->(∀x∈xs,Wd x)->xs.Nodup->Q (.ref l) H'
theorem RM{a b:TT}{t v:TS}{D:Ends}{σ:L2.St}{H:Hp}(p q:Bool)(ha:∀Q:Bool->Hp->Prop,Q p H->a σ H Q)(hb:∀Q:Bool->Hp->Prop,Q q H->b σ H Q)(ht:(p&&q)=true->t { D with nx:=v D } σ H)(hu:v D σ H):um (Ks (abl a b) t Bq) v D σ H:=by
 refine ha _ ?_;cases p with
 |false=>exact hu
 |true =>
  refine hb _ ?_;cases q with
  |false=>exact hu
  |true=>exact ht rfl
theorem abD(F:Fun K wO wO zq f fd)(T:Txt K mg D)(eG:OkF P w K mg base 1 jA jD jz):cF P w K mg base CX0 2 f fd vZ Iu:=by
 refine F.okB ud ?_ ?_
 .rintro _ _ _ _ ⟨c,n,rfl,_⟩;rfl
 .rintro cdv A outer s H _ Q E hr ⟨c,n,rfl,hn,q⟩;have z1000:1000<=sizeLine:=by decide
  have lL:(Str.ofString "abcdefghijklmnopqrstuvwxyz").length<=sizeLine:=aM (show(Str.ofString "abcdefghijklmnopqrstuvwxyz").length<=1000 by decide +kernel) z1000;refine⟨_,(cU (PSB.mk (cj (i:=2) ud.nd rfl (Or.inr rfl) mQ))
   (cU (PSB.mk (cj (i:=3) ud.nd rfl (Or.inr rfl) (bO eG hr.md (by rfl) (bD (pv 0) (bD bG bF)))))
   (cU (PSB.mk (cW (PW.pt (pw_and (cI mZ (bU cY (bQ bY (pv 3) bG (λ_ _=>rfl)) bG) bG (cJ _)) (pw_and1 (cI zT (pv 1) bG (cJ _)))))
    (bM (cg (iY (bN zq) uM uM ["_law_k"] (j_ (by rfl) T.qw (bD (pv 1) bF).mono) (d7 (i:=0)) dz (bU acg (bQ U7 (pv 3) (bU cY (bQ bY (pv 4) bG (λ_ _=>rfl)) bG) (λ_ _=>rfl)) (bU dW (pv 0) bG)))))
    cA))
   (cU (PSB.mk (cj (i:=4) ud.nd rfl (Or.inr rfl) (agA PySem.F.slot_str_join PySem.F.type_str_join adQ mQ (bD (iY (bN zq) uM uM ["_law_x"] (cZ ((oV Ge (pv 3) (jO bG) (jO (bU dW bG (bU cY (bQ bY (pv 3) bG (λ_ _=>rfl)) bG))))).mono) (d7 (i:=0)) dz (bQ U7 (pv 3) (bU cY (pv 0) bG) (λ_ _=>rfl))) bF))))
   (cU (PSB.mk (cj (i:=5) ud.nd rfl (Or.inr rfl) (bU cY (bQ bY (pv 3) bG (λ_ _=>rfl)) bG)))
   (cU (Vu (i:=6) ud.nd rfl (Or.inr rfl) (VL (acB (sS pR (sS pR (sS pR (sS pR (sS pR (sS pR N5))))))) (bU cY (bQ bY (pv 3) bG (λ_ _=>rfl)) bG) (λ_ _=>rfl)))
   (Hv (PSB.mk (cg (iY (bN zq) uM uM ["_law_k"] (j_ (by rfl) T.qw (bD (pv 1) bF).mono) (d7 (i:=0)) dz (bU V4 (bU V4 (oV abC (pv 5) Gj (jO (pv 6))) (bQ U7 (pv 3) (bU cY (bU dW (bQ bY (pv 4) bG (λ_ _=>rfl)) (bU cL (pv 7) (pv 0))) bG) (λ_ _=>rfl))) (oV abC (pv 5) (jO (pv 6)) Gj)))))))))))),?_⟩
  unfold jz;refine⟨_,rfl,c,11,rfl,by decide,λl xs H1 S1 hl hl1 hx hr'=>?_⟩;have at_:∀j,j<11->∃y,atI (xs.map V.int) (j:Nat)=some (.int y)/\0<=y:=λj hj=>by
   have:j<xs.length:=by lia
   exact⟨xs[j],cu (j:=j) (by rw[aq,aj this];rfl),(hr' _ (aV this)).1⟩
  obtain⟨x0,a0,p0⟩:=at_ 0 (by decide);obtain⟨x1,a1,p1⟩:=at_ 1 (by decide);obtain⟨x9,a9,p9⟩:=at_ 9 (by decide);obtain⟨x10,a10,p10⟩:=at_ 10 (by decide);dsimp only[cN];refine RM (decide (x0%3=1)) (decide ((n:Int)<=8)) (λQ' hq=>?_) (λQ' hq=>?_) (λhc=>?_) ?_
  .walk_at "rd"
   exact⟨_,hl1,_,a0,_,rfl,hq⟩
  .walk_at "rd"
   exact hq
  .simp only[Bool.and_eq_true,decide_eq_true_eq]at hc;obtain⟨c1,e1,g1,lc1⟩:=aaY (a:=x1%26) (Z3 _ (by decide)) (YY _ (by decide));refine qe ?_
   walk_at "rd"
   refine⟨n,rfl,by exact aM hn (by decide),λD2 hD2=>⟨rJ (nm1 c1) D2 H1,⟨[],rfl,rfl,by simp,rfl⟩,?_,?_⟩⟩
   .rintro k ys Hc hk j hy;have hlc:Hc l=some (.lst (xs.map V.int)):=j.same hD2 _ _ hl1;unfold aeg
    walk_at "rd"
    refine⟨_,hlc,_,a1,_,rfl,lL,c1,e1,c1,rfl,by lia,by lia,λz hz=>⟨j.at_,j.next ?_⟩⟩;rw[show((k:Int)+1).toNat=k+1 by lia]at hz;exact hz
   .rintro ys Hc ⟨ss,rfl,hsl,hss,rfl⟩ hy;refine q D2 ss _ (S1.trans (Same.upd hD2)) (Same.free S1 hD2) bI hsl (aek hss λi x hi h=>ae0 lc1 (by lia) h) (Ww hss λi j x ij hj h1 h2=>?_);have:=ZH List.length (h1.symm.trans h2);rw[aN,aN]at this;lia
  .walk_at "rd"
   refine dM ?_
   walk_at "rd"
   obtain⟨m,em,hm⟩ : ∃m:Nat,x1%8=m/\m<=7:=⟨(x1%8).toNat,by lia,by lia⟩;refine⟨_,hl1,_,a1,_,rfl,_,.of hl1,λp hp=>?_⟩;have ec:pZ (xs.map V.int) (some 2) (some (2+x1%8))=((xs.drop 2).take m).map V.int:=by
    rw[em,List.map_take,List.map_drop];have:=M4 (ys:=xs.map V.int) (a:=2) (b:=2+m) (X2 _ _) (by rw[ak];lia);rw[show 2+m-2=m by exact Nat.add_sub_cancel_left _ _]at this;exact this
   rw[ec];have ml:((xs.drop 2).take m).length=m:=by rw[bh,List.length_drop];lia
   have S2:Same H1 (upd H1 p (.lst (((xs.drop 2).take m).map V.int))):=Same.upd hp;generalize upd H1 p (.lst (((xs.drop 2).take m).map V.int))=H2 at S2 ⊢;generalize(xs.drop 2).take m=us at ml ⊢;refine⟨by rw[ak];lia,λD1 hD1=>⟨sJN (λx=>Lt x/\x.length=1) D1 H2,⟨[],rfl,rfl,by simp,rfl⟩,?_,?_⟩⟩
   .rintro k y1 ys Hc hk j hy hpc;rw[aq]at hk;cases er:us[k]? with
    |none=>rw[er]at hk;cases hk
    |some i =>
     rw[er]at hk;cases hk;obtain⟨c',e',hc'⟩:=Lt.one (Z3 i (show(26:Int)≠0 by decide)) (YY i (by decide));exact⟨i,rfl,lL,c',e',j.at_,hpc,j.next ⟨hc',rfl⟩⟩
   .rintro ys Hc ⟨ss,rfl,hl8,hss,rfl⟩ hy;rw[ak,ml]at hl8;have stL:Lt (Txt.join (Str.ofString "") ss):=Lt.glued λy hy=>(hss y hy).1;have sum1:(ss.map (·.length)).sum=m:=by rw[K8 λy hy=>(hss y hy).2,hl8]
    have e0:(Str.ofString "").length=0:=by decide +kernel
    have stN:(Txt.join (Str.ofString "") ss).length=m:=by
     show(Builtin.Str.glued (Str.ofString "") ss).length=m;rw[size_glued,sum1,e0,Nat.mul_zero];rfl
    have S3:Same H (upd H2 D1 (.lst (ss.map V.str))):=S1.trans (S2.trans (Same.upd hD1));have hl3:upd H2 D1 (.lst (ss.map V.str)) l=some (.lst (xs.map V.int)):=Same.upd hD1 _ _ (S2 _ _ hl1);refine⟨ss,bI,by rw[sum1,e0];lia,?_⟩;generalize upd H2 D1 (.lst (ss.map V.str))=H3 at S3 hl3 ⊢;generalize Txt.join (Str.ofString "") ss=st at stL stN ⊢;refine⟨_,hl3,_,a9,_,rfl,by decide,λp2 hp2=>?_⟩;have hl4:upd H3 p2 (.lst [.int 1,.int 3,.int 5,.int 7,.int 9,.int 11]) l=some (.lst (xs.map V.int)):=Same.upd hp2 _ _ hl3;have S4:Same H (upd H3 p2 (.lst [.int 1,.int 3,.int 5,.int 7,.int 9,.int 11])):=S3.trans (Same.upd hp2);have hp4:upd H3 p2 (.lst [.int 1,.int 3,.int 5,.int 7,.int 9,.int 11]) p2=some (.lst [.int 1,.int 3,.int 5,.int 7,.int 9,.int 11]):=bI;generalize upd H3 p2 (.lst [.int 1,.int 3,.int 5,.int 7,.int 9,.int 11])=H4 at S4 hl4 hp4 ⊢;refine⟨_,hl4,_,a10,_,rfl,?_⟩;obtain⟨sv,es,hs⟩ : ∃sv:Int,atI [V.int 1,V.int 3,V.int 5,V.int 7,V.int 9,V.int 11] (x10%6)=some (.int sv)/\(sv=1\/sv=3\/sv=5\/sv=7\/sv=9\/sv=11):=by
     obtain e|e|e|e|e|e:x10%6=0\/x10%6=1\/x10%6=2\/x10%6=3\/x10%6=4\/x10%6=5:=by lia
     .exact⟨1,by rw[e];exact cu (j:=0) rfl,by decide⟩
     .exact⟨3,by rw[e];exact cu (j:=1) rfl,by decide⟩
     .exact⟨5,by rw[e];exact cu (j:=2) rfl,by decide⟩
     .exact⟨7,by rw[e];exact cu (j:=3) rfl,by decide⟩
     .exact⟨9,by rw[e];exact cu (j:=4) rfl,by decide⟩
     .exact⟨11,by rw[e];exact cu (j:=5) rfl,by decide⟩
    obtain⟨ap,eap,hap⟩ : ∃ap:Nat,x9%8=ap/\ap<=7:=⟨(x9%8).toNat,by lia,by lia⟩;refine⟨_,es,qe ?_⟩;rw[eap]
    walk_at "rd"
    refine⟨n,rfl,by exact aM hn (by decide),λD2 hD2=>⟨rJ (nm2 st.cps.toList ap x0 sv) D2 H4,⟨[],rfl,rfl,by simp,rfl⟩,?_,?_⟩⟩
    .rintro k ys Hc hk j hy;have hlc:Hc l=some (.lst (xs.map V.int)):=j.same hD2 _ _ hl4;obtain⟨c2,e2,g2,lc2⟩:=aaY (a:=(x0+sv*k)%26) (Z3 _ (by decide)) (YY _ (by decide));have t1:(HW st none (some (ap:Int))).length<=7:=by rw[<- uU,ZR,bh,uU];lia
     have t2:(HW st (some (ap:Int)) none).length<=7:=by rw[<- uU,Q8,List.length_drop,uU];lia
     have t3:({ cps:=#[c2] } : Str).length=1:=rfl;refine⟨by lia,_,hlc,_,a0,Bd.sm (by lia),Bd.sm (by lia),_,rfl,lL,c2,e2,by lia,by lia,by rw[ad9];lia,j.at_,j.next ⟨c2,g2,lc2,?_⟩⟩;rw[W9,W9,ZR,Q8,List.append_assoc];rfl
    .rintro ys Hc ⟨ns,rfl,hsl,hns,rfl⟩ hy;refine q D2 ns _ (S4.trans (Same.upd hD2)) (Same.free S4 hD2) bI hsl (aek hns λi x hi h=>ae2 stL (by rw[uU];exact aM (Nat.le_of_eq stN) hm) h) (Ww hns λi j x ij hj h1 h2=>ad0 hs ij (by lia) h1 h2)
noncomputable def clsOf(D:Adr)(so:Int):Addr:=if so=0 then D.Sure else if so=1 then D.Toss else if so=2 then D.Even else D.Mixed
structure Drawn(so:Int)(rs:Β)(ws:List Int)(S:Int):Prop where
 s0:0<=so
 s3:so<=3
 len:rs.length=ws.length
 wt:Wt (rs.zip ws) S
 ne:1<=rs.length
 a0:so=0->rs.length=1/\ws=[1]/\S=1
 a1:so=1->rs.length=2
 a2:so=2->ws=List.replicate rs.length 1/\S=rs.length
theorem R4:∀rs:Β,rs.zip (List.replicate rs.length (1:Int))=rs.map λr=>(r,(1:Int))
 |[]=>rfl
 |r::rs=>by rw[List.length_cons,List.replicate_succ,List.zip_cons_cons,R4 rs];rfl
structure PI(H:Hp)(ps:Μ)(rs:List Nat)(ws:List Int)(S:Int):Prop where
 len:ps.length=rs.length
 at_:∀(k r:Nat)(x:Int),rs[k]?=some r->ws[k]?=some x->∃t c:Addr,ps[k]?=some (.ref t)/\H t=some (.tup [.int (r:Nat),.ref c])/\H c=some (.tup [.int (Ac.lw x S).1,.int (Ac.lw x S).2])
theorem PI.same{H H':Hp}{ps:Μ}{rs:List Nat}{ws:List Int}{S:Int}(h:PI H ps rs ws S)(T:Same H H'):PI H' ps rs ws S:=⟨h.len,λk r x e1 e2=>let⟨t,c,a,b,d⟩:=h.at_ k r x e1 e2;⟨t,c,a,T _ _ b,T _ _ d⟩⟩
def Cq(ns:Β)(rs:List Nat)(nms:Β):Prop:=nms.length=rs.length/\∀(k r:Nat)(m:Str),rs[k]?=some r->nms[k]?=some m->ns[r]?=some m
inductive HX(K:Frag)(D:Adr)(vs:Μ)(H:Hp)(Q:VK):Prop
 |mk (so:Int) (d n lp p:Addr) (t:Str) (x y S:Int) (rs:List Nat) (ws:List Int) (ps:Μ) (ns nms:Β) (h0:vs=[.str t,.ref d,.ref n]) (h1:H d=some (.tup [.int so,.ref p,.ref lp])) (h2:Wd t) (h3:Fk K H p x y) (h4:H lp=some (.lst ps)) (h5:PI H ps rs ws S) (h6:H n=some (.lst (ns.map V.str))) (h7:Cq ns rs nms) (h8:Drawn so nms ws S) (h9:∀H' s ld ys us,Same H H'->H s=none->H ld=none->W6 K H' s (clsOf D so) t p (Ac.ways (nms.zip ws) S) ld ys us->Q (.ref s) H'):HX K D vs H Q
def Hr(K:Frag)(D:Adr):Sp:=λvs H Q _=>HX K D vs H Q
def bJ(D1:Addr)(gs:List (Str×Int))(S:Int)(H:Hp)(k:Nat)(ys:Μ)(H':Hp):Prop:=Same H H'/\H' D1=some (.lst ys)/\PW H' ys (gs.take k) S
def eJ(D1:Addr)(ss:Β)(H:Hp)(k:Nat)(ys:Μ)(H':Hp):Prop:=Same H H'/\H' D1=some (.lst ys)/\ys=(ss.take k).map V.str
theorem PW.snocT{H:Hp}{xs:Μ}{gs:List (Str×Int)}{S x:Int}{m:Str}{t c:Addr}(h:PW H xs gs S)(ht:H t=some (.tup [.str m,.ref c]))(hc:H c=some (.tup [.int (Ac.lw x S).1,.int (Ac.lw x S).2])):PW H (xs++[.ref t]) (gs++[(m,x)]) S:=by
 refine⟨by rw[aA,aA,h.len];rfl,λk g' e=>?_⟩;by_cases hk:k<gs.length
 .rw[aD hk]at e;obtain⟨t',c',a,b⟩:=h.at_ k g' e;exact⟨t',c',by rw[aD (by rw[h.len];exact hk)];exact a,b⟩
 .rw[aC (Nat.le_of_not_lt hk)]at e;have e0:k-gs.length=0:=by
   have:=(ao.mp e).1;simp at this;omega
  rw[e0]at e;cases e;refine⟨t,c,?_,ht,hc⟩;rw[aC (by rw[h.len];exact Nat.le_of_not_lt hk),h.len,e0];rfl
theorem Y7(F:Fun K v8 v8 Cd f fd)(T:Txt K mg D)(uN:OkI P w K mg base (CXO P w) 5 D.Sure_init nU (uT (K:=K) D))(fj:OkI P w K mg base (CXO P w) 5 D.Mixed_init iB (ig K D))(uY:OkI P w K mg base (CXO P w) 6 D.Toss_init nH (vG K D))
 (uW:OkI P w K mg base (CXO P w) 6 D.Even_init ou (vd K D)):cF P w K mg base CX0 8 f fd w6 (Hr K D):=by
 refine F.ok xP ?_ ?_
 .rintro _ _ _ _ ⟨so,d,n,lp,p,t,x,y,S,rs,ws,ps,ns,nms,rfl,_⟩;rfl
 .rintro cdv A outer s H _ Q E hr ⟨so,d,n,lp,p,t,x,y,S,rs,ws,ps,ns,nms,rfl,hd,ht,hf,hlp,hp,hns,no,dr,q⟩;have fam:∀C,(C=D.Sure\/C=D.Mixed\/C=D.Toss\/C=D.Even)->Fam D C:=by
   intro C hC;unfold Fam;rcases hC with h|h|h|h<;>simp[h]
  have s0:=dr.s0;have s3:=dr.s3;have hlen:=dr.len;have gl:(nms.zip ws).length=nms.length:=by rw[List.length_zip];lia
  have g8:=dr.wt.len;have z9:100<sizeLine:=by decide
  refine⟨_,(bL (Ho (pv 1) (fV (n:=3) rfl (cD (cM (i:=4) xP.nd rfl (Or.inl rfl)) (cD (cM (i:=5) xP.nd rfl (Or.inl rfl)) (cD (cM (i:=6) xP.nd rfl (Or.inl rfl)) fL)))))
   (bL (Ld (bN Cd) Az Az ["_law_room","_law_chance"] (cZ ((pv 6)).mono) (fV (n:=2) rfl (cD (d7 (i:=0)) (cD (d7 (i:=1)) fL))) dz (mO (bD (bQ bY (pv 4) (pv 0) (λ_ _=>rfl)) (bD (pv 1) bF))) (cM (i:=3) xP.nd rfl (Or.inl rfl)))
   (bL (cW (cI mZ (pv 4) bG (cJ _))
    (bM (cg (wz T.adx uN hr.md (by rfl) T.ae4 Dc (bD (pv 0) (bD (pv 5) (bD (bQ cQ (bQ bY (pv 3) bG (λ_ _=>rfl)) bG (λ_ _=>rfl)) bF))))))
    cA)
   (bL (cW (cI mZ (pv 4) bG (cJ _))
    (bM (cg (wz T.aco uY hr.md (by rfl) T.afm Dc (bD (pv 0) (bD (pv 5) (bD (bQ cQ (bQ bY (pv 3) bG (λ_ _=>rfl)) bG (λ_ _=>rfl)) (bD (bQ cQ (bQ bY (pv 3) bG (λ_ _=>rfl)) bG (λ_ _=>rfl)) (bD (bQ cQ (bQ bY (pv 3) bG (λ_ _=>rfl)) bG (λ_ _=>rfl)) bF))))))))
    cA)
   (bL (cW (cI mZ (pv 4) bG (cJ _))
    (bM (cg (wz T.aci uW hr.md (by rfl) T.afw Dc (bD (pv 0) (bD (pv 5) (bD (iY (bN Cd) Az Az ["_law_room","_law_chance"] (cZ ((pv 3)).mono) (fV (n:=2) rfl (cD (d7 (i:=0)) (cD (d7 (i:=1)) fL))) dz (pv 0)) bF))))))
    cA)
   (bM (cg (wz T.abO fj hr.md (by rfl) T.NZ Dc (bD (pv 0) (bD (pv 5) (bD (pv 3) bF))))))))))),?_⟩
  refine bV λR0 hR0=>?_
  walk_at "rd"
  refine⟨_,hd,rfl,_,_,rfl,_,_,rfl,_,_,rfl,rfl,?_⟩;subst hR0;refine bV λR1 hR1=>?_;refine cC (sV ?_)
  walk_at "rd"
  have l100:ps.length<=sizeLine:=by rw[hp.len,<- no.1];lia
  refine⟨ps,hlp,l100,λD1 hD=>⟨bJ D1 (nms.zip ws) S H,⟨Same.upd hD,bI,rfl,λk g e=>by simp at e⟩,?_,?_⟩⟩
  .rintro k v ys Hc hk ⟨S1,h1,pw⟩ hy hlc pre hpre;have lk:k<rs.length:=by rw[<- hp.len];exact(ao.mp hk).1
   have e1:rs[k]?=some rs[k]:=aj lk;have e2:nms[k]?=some (nms[k]'(by rw[no.1];exact lk)):=aj _;have e3:ws[k]?=some (ws[k]'(by rw[<- hlen,no.1];exact lk)):=aj _;have eg:(nms.zip ws)[k]?=some (nms[k]'(by rw[no.1];exact lk),ws[k]'(by rw[<- hlen,no.1];exact lk)):=List.getElem?_zip_eq_some.mpr ⟨e2,e3⟩;have en:=no.2 _ _ _ e1 e2;obtain⟨tt,c,ea,eb,ec⟩:=(hp.same S1).at_ k _ _ e1 e3;rw[hk]at ea;cases ea;generalize rs[k]=r at *;generalize nms[k]'(by rw[no.1];exact lk)=m at *;generalize ws[k]'(by rw[<- hlen,no.1];exact lk)=z at *;obtain⟨u1,u2,rfl⟩:=Aj hpre
   walk_at "rd"
   refine⟨_,eb,rfl,_,_,rfl,_,_,rfl,rfl,[_,_],rfl,rfl,?_⟩;refine⟨_,_,rfl,S1 _ _ hns,_,cu (by rw[aq,en];rfl),d8,λp1 hp1=>?_⟩;have nD:D1≠p1:=bH h1 hp1;refine⟨(bK nD).trans h1,(bK (bH hlc hp1)).trans hlc,λb o e=>(bK (bH e hD)).trans ((bK (bH (S1 _ _ e) hp1)).trans (S1 _ _ e)),bI,?_⟩;rw[cB eg];refine(pw.imp λt ys e=>?_).snocT (c:=c) ?_ ?_
   .exact(bK (i_ e h1 (by intro z;cases z))).trans ((bK (bH e hp1)).trans e)
   .exact(bK nD.symm).trans bI
   .exact(bK (i_ ec h1 (by intro z;cases z))).trans ((bK (bH ec hp1)).trans ec)
  .rintro ys Hc ⟨S1,h1,pw⟩ hy;rw[hp.len,<- no.1,<- gl,aP]at pw;have hw:=ht.word;have h1000:t.length<=1000:=aM ht.hi (by decide);have hf':=hf.same S1;have mk:∀{G:Hp}{C s dx:Addr},G s=none->G dx=none->¬dx=s->Same G (upd (upd G dx (.own s)) s (.ins C dx [])):=λ{G C s dx}h1 h2 h3 b o e=>by
    rw[bK (bH e h1),bK (bH e h2)];exact e
   have kp:∀{G:Hp}{C s dx:Addr}{H':Hp},Same H G->G s=none->G dx=none->¬dx=s->Keep s (upd (upd G dx (.own s)) s (.ins C dx [])) H'->Same H H':=λ{G C s dx H'}SG h1 h2 h3 k b o e=>k b o (bH (SG _ _ e) h1) (mk h1 h2 h3 b o (SG _ _ e));subst hR1;obtain e|e|e|e:so=0\/so=1\/so=2\/so=3:=by lia
   .subst e;obtain⟨l1,rfl,rfl⟩:=dr.a0 rfl;obtain⟨r,rfl⟩:=List.length_eq_one_iff.mp l1;have wr:=dr.wt.wd (r,1) (by simp);obtain⟨t0,c0,ea,eb,ec⟩:=pw.at_ 0 (r,1) rfl;refine xJ (λR r=>⟨_,rfl,r⟩) rfl λKn hK=>dX ?_;refine⟨_,rfl,_,rfl,_,rfl,_,_,_,_,rfl,rfl,h1,cu (j:=0) ea,_,_,_,_,rfl,rfl,eb,c7,λo dx g1 g2 g3=>⟨o,dx,t,r,p,x,y,rfl,bI,h1000,hw,wr.1,wr.2,hf'.same (mk g1 g2 g3),λt l H' f k e1 e2 e3=>⟨rfl,?_⟩⟩⟩;refine q H' o l [.ref t] [(r,D.ONE)] (kp S1 g1 g2 g3 k) (Same.free S1 g1) (Same.free S1 (Same.free (mk g1 g2 g3) f)) ⟨⟨dx,e3⟩,e2,?_⟩;show WF K H' [.ref t] (Ac.ways [(r,1)] 1) [(r,D.ONE)];rw[Ac.aad];exact .cons e1 (T.DG H') .nil
   .subst e;have l2:=dr.a1 rfl;obtain⟨r1,r2,rfl⟩:=Aj l2;obtain⟨w1,w2,rfl⟩:=Aj (hlen.symm.trans l2);have wt:=dr.wt;have es:w2=S-w1:=by
     have:=wt.sum;simp at this;lia
    subst es;obtain⟨t0,c0,ea,eb,ec⟩:=pw.at_ 0 (r1,w1) rfl;obtain⟨t1,c1,fa,fb,fc⟩:=pw.at_ 1 (r2,S-w1) rfl;refine pJ (λR r=>⟨_,rfl,r⟩) (by decide) (xJ (λR r=>⟨_,rfl,r⟩) rfl λKn hK=>dX ?_);refine⟨_,rfl,_,rfl,_,rfl,_,_,_,_,rfl,rfl,h1,cu (j:=0) ea,_,_,_,_,rfl,rfl,eb,cR,_,rfl,_,_,_,_,rfl,rfl,h1,cu (j:=0) ea,_,_,_,_,rfl,rfl,eb,c7,_,rfl,_,_,_,_,rfl,rfl,h1,cu (j:=1) fa,_,_,_,_,rfl,rfl,fb,c7,λo dx g1 g2 g3=>?_⟩;exact⟨o,dx,t,r1,r2,p,c0,x,y,w1,S,rfl,bI,h1000,hw,hf'.same (mk g1 g2 g3),mk g1 g2 g3 _ _ ec,wt,λH' ld ys us f k d=>⟨rfl,q H' o ld ys us (kp S1 g1 g2 g3 k) (Same.free S1 g1) (Same.free S1 (Same.free (mk g1 g2 g3) f)) d⟩⟩
   .subst e;obtain⟨ew,rfl⟩:=dr.a2 rfl;subst ew;have hz:nms.zip (List.replicate nms.length (1:Int))=nms.map λr=>(r,(1:Int)):=R4 nms;have wt:=dr.wt;rw[hz]at wt q;have ml:(nms.map λr=>(r,(1:Int))).length=nms.length:=ak ..;rw[hz]at pw;refine pJ (λR r=>⟨_,rfl,r⟩) (by decide) (pJ (λR r=>⟨_,rfl,r⟩) (by decide) (xJ (λR r=>⟨_,rfl,r⟩) rfl λKn hK=>dX ?_));refine⟨_,rfl,_,rfl,S_ (sV ⟨_,rfl,_,ys,rfl,h1,by rw[pw.len,ml];lia,λD2 hD2=>⟨eJ D2 nms Hc,⟨Same.upd hD2,bI,rfl⟩,?_,?_⟩⟩)⟩
    .rintro k v zs H3 hk ⟨S3,h3,ez⟩ hy3 h13 pre hpre;have lk:k<nms.length:=by rw[<- ml,<- pw.len];exact(ao.mp hk).1
     have e2:nms[k]?=some nms[k]:=aj lk;obtain⟨t0,c0,ea,eb,ec⟩:=pw.at_ k (nms[k],1) (by rw[aq,e2];rfl);rw[hk]at ea;cases ea;generalize nms[k]=m at *;obtain⟨u1,u2,rfl⟩:=Aj hpre;refine⟨_,_,rfl,S3 _ _ eb,rfl,⟨_,_,rfl,_,_,rfl,rfl,[_,_],rfl,rfl,⟨_,rfl,h3,h13,λb o e=>(bK (bH e hD2)).trans (S3 _ _ e),bI,?_⟩⟩⟩;rw[cB e2,bA,ez];rfl
    .rintro zs H3 ⟨S3,h3,ez⟩ hy3 o dx g1 g2 g3;rw[pw.len,ml,aP]at ez;subst ez;exact⟨o,dx,t,p,D2,x,y,nms,rfl,bI,h1000,hw,(hf'.same S3).same (mk g1 g2 g3),mk g1 g2 g3 _ _ h3,wt,λH' ld ys us f k d=>⟨rfl,q H' o ld ys us (kp (S1.trans S3) g1 g2 g3 k) (Same.free (S1.trans S3) g1) (Same.free (S1.trans S3) (Same.free (mk g1 g2 g3) f)) d⟩⟩
   .subst e;refine pJ (λR r=>⟨_,rfl,r⟩) (by decide) (pJ (λR r=>⟨_,rfl,r⟩) (by decide) (pJ (λR r=>⟨_,rfl,r⟩) (by decide) (dX ?_)));refine⟨_,rfl,_,rfl,_,rfl,λo dx g1 g2 g3=>?_⟩;exact⟨o,dx,D.Mixed,t,p,D1,x,y,ys,_,_,rfl,bI,fam _ (by simp),h1000,hw,hf'.same (mk g1 g2 g3),mk g1 g2 g3 _ _ h1,pw.same (mk g1 g2 g3),dr.wt,λH' ld ys us f k d=>⟨rfl,q H' o ld ys us (kp S1 g1 g2 g3 k) (Same.free S1 g1) (Same.free S1 (Same.free (mk g1 g2 g3) f)) d⟩⟩
theorem Px{t b:Int} : Ac.lw (b-t) b=((Ac.lw t b).2-(Ac.lw t b).1,(Ac.lw t b).2):=by
 unfold Ac.lw;rw[Int.gcd_self_sub_left,Int.sub_ediv_of_dvd b (Int.gcd_dvd_left t b)]
theorem Wq{b:Int} : Ac.lw 1 b=(1,b):=by
 unfold Ac.lw;rw[Int.one_gcd];simp
structure acX(x y:Int):Prop where
 gcd:Int.gcd x y=1
 sa:x.natAbs<=10^30
 sb:y<=1000
structure vK(n:Nat)(so:Int)(rs:List Nat)(ws:List Int)(S:Int):Prop where
 s0:0<=so
 s3:so<=3
 len:rs.length=ws.length
 pos:0<S
 le:S<=10^20
 l8:rs.length<=4
 lo:∀x∈ws,0<=x
 sum:ws.sum=S
 ne:1<=rs.length
 a0:so=0->rs.length=1/\ws=[1]/\S=1
 a1:so=1->rs.length=2
 a2:so=2->ws=List.replicate rs.length 1/\S=rs.length
 lt:∀r∈rs,r<n
theorem vK.drawn{n:Nat}{so S:Int}{rs:List Nat}{ws:List Int}{ns nms:Β}(h:vK n so rs ws S)(no:Cq ns rs nms)(hw:∀m∈ns,Wd m):Drawn so nms ws S:=by
 have e:=no.1;have l:=h.len;refine⟨h.s0,h.s3,by exact Eq.trans e l,⟨h.pos,h.le,?_,λg hg=>?_,λg hg=>?_,?_⟩,by rw[e];exact h.ne,λz=>by rw[e];exact h.a0 z,λz=>by rw[e];exact h.a1 z,λz=>by rw[e];exact h.a2 z⟩
 .rw[List.length_zip];have:=h.l8;lia
 .obtain⟨k,hk⟩:=aW hg;obtain⟨a,b⟩:=List.getElem?_zip_eq_some.mp hk;have lk:=(ao.mp a).1;have er:rs[k]?=some (rs[k]'(aU lk (Nat.le_of_eq e))):=aj _;have w:=hw _ (aB (no.2 k _ _ er a));exact⟨aM w.hi (by decide),w.word⟩
 .exact h.lo _ (List.of_mem_zip hg).2
 .have:(nms.zip ws).map (·.2)=ws:=List.map_snd_zip (by lia);rw[this];exact h.sum
theorem kI{t v:TS}{D:Ends}{σ:L2.St}{H:Hp}{i k:Int}(hσ:σ[5]?=some (some (.int i)))(ne:i≠k)(h:v D σ H):um (Ks (Cu (tOp rEq (Jd 5) (tC (.int k)))) t Bq) v D σ H:=by
 refine⟨_,hσ,rfl,_,rfl,?_⟩;dsimp only;rw[ZZ (by simp[ne])];exact h
theorem Ai{t v:TS}{D:Ends}{σ:L2.St}{H:Hp}{i k:Int}(hσ:σ[5]?=some (some (.int i)))(e:i=k)(h:∀Kn:L2.St->Hp->Prop,(∀σ' H',v D σ' H'->Kn σ' H')->t { D with nx:=Kn } σ H):um (Ks (Cu (tOp rEq (Jd 5) (tC (.int k)))) t Bq) v D σ H:=by
 refine⟨_,hσ,rfl,_,rfl,?_⟩;dsimp only;rw[ZY (by simp[e])];exact h _ λ_ _ z=>z
theorem PI.imp{H H':Hp}{ps:Μ}{rs:List Nat}{ws:List Int}{S:Int}(T:∀t ys,H t=some (.tup ys)->H' t=some (.tup ys))(h:PI H ps rs ws S):PI H' ps rs ws S:=⟨h.len,λk r x e1 e2=>let⟨t,c,a,b,d⟩:=h.at_ k r x e1 e2;⟨t,c,a,T _ _ b,T _ _ d⟩⟩
theorem PI.snoc{H:Hp}{ps:Μ}{rs:List Nat}{ws:List Int}{S x:Int}{r:Nat}{t c:Addr}(h:PI H ps rs ws S)(hl:ws.length=rs.length)(ht:H t=some (.tup [.int r,.ref c]))(hc:H c=some (.tup [.int (Ac.lw x S).1,.int (Ac.lw x S).2])):PI H (ps++[.ref t]) (rs++[r]) (ws++[x]) S:=by
 refine⟨by rw[aA,aA,h.len];rfl,λk r' x' e1 e2=>?_⟩;by_cases hk:k<rs.length
 .rw[aD hk]at e1;rw[aD (by lia)]at e2;obtain⟨t',c',a,b⟩:=h.at_ k r' x' e1 e2;exact⟨t',c',by rw[aD (by rw[h.len];exact hk)];exact a,b⟩
 .rw[aC (Nat.le_of_not_lt hk)]at e1;rw[aC (by lia)]at e2;have e0:k-rs.length=0:=by
   have:=(ao.mp e1).1;simp at this;omega
  rw[e0]at e1;rw[hl,e0]at e2;cases e1;cases e2;refine⟨t,c,?_,ht,hc⟩;rw[aC (by rw[h.len];exact Nat.le_of_not_lt hk),h.len,e0];rfl
theorem TF{ys:Μ}{n:Nat}(h:n<=ys.length):pZ ys none (some (n:Int))=ys.take n:=by
 unfold pZ;rw[HT.sW,Nat.min_eq_left h];show((ys.drop 0).take (n-0))=_;rw[List.drop_zero,Nat.sub_zero]
theorem Yb(n:Nat):(List.replicate n (1:Int)).sum=n:=by
 induction n with
 |zero=>rfl
 |succ n ih=>rw[List.replicate_succ,List.sum_cons,ih];lia
def evJ(D1:Addr)(rs:List Nat)(ws:List Int)(S:Int)(H:Hp)(k:Nat)(ys:Μ)(H':Hp):Prop:=Same H H'/\H' D1=some (.lst ys)/\PI H' ys (rs.take k) (ws.take k) S
def weJ(D1:Addr)(md:Int)(H:Hp)(k:Nat)(ys:Μ)(H':Hp):Prop:=∃ws:List Int,ys=ws.map V.int/\ws.length=k/\(∀x∈ws,0<=x/\x<md)/\Same H H'/\H' D1=some (.lst ys)
theorem Rn{B:Int} : ∀l:List Int,(∀x∈l,0<=x/\x<=B)->0<=l.sum/\l.sum<=B*l.length/\∀x∈l,x<=l.sum
 |[],_=>⟨by simp,by simp,by simp⟩
 |a::l,h=>by
  obtain⟨h1,h2,h3⟩:=Rn l λx hx=>h x (aH _ hx);have h0:=h a aO;rw[List.sum_cons,List.length_cons];have e:B*((l.length+1:Nat):Int)=B*l.length+B:=by rw[Int.natCast_add,Int.mul_add];simp
  rw[e];refine⟨by lia,by lia,λx hx=>?_⟩;rcases YU.mp hx with rfl|hx
  .lia
  .have:=h3 x hx;lia
theorem acO{α:Type} : ∀{l:List α},l.length=4->∃a b c d,l=[a,b,c,d]
 |[a,b,c,d],_=>⟨a,b,c,d,rfl⟩
def Gu:Sp:=λvs H Q _=>∃(c:Int)(n:Nat)(sm:Bool),vs=[.int c,.int n,.bl sm]/\1<=n/\n<=12/\∀(r d p lp:Addr)(room:Nat)(so x y S:Int)(rs:List Nat)(ws:List Int)(ps:Μ)H',Same H H'->H r=none->H d=none->H' r=some (.tup [.int room,.ref d])->room<n->H' d=some (.tup [.int so,.ref p,.ref lp])->H' p=some (.tup [.int x,.int y])->0<y->acX x y->H' lp=some (.lst ps)->H lp=none->PI H' ps rs ws S->vK n so rs ws S->y<=yB sm->S<=wB sm->Q (.ref r) H'
theorem acv(F:Fun K Cv Cv zZ f fd)(T:Txt K mg D)(eG:OkF P w K mg base 1 jA jD jz)(jV:OkF P w K mg base 2 o_ pI ux)(aaZ:OkF P w K mg base 3 Gw Hs Vs):cF P w K mg base CX0 4 f fd CZ Gu:=by
 refine F.okB mG ?_ ?_
 .rintro _ _ _ _ ⟨c,n,sm,rfl,_⟩;rfl
 .rintro cdv A outer s H _ Q E hr ⟨c,n,sm,rfl,n1,n12,q⟩;refine⟨_,(cU (PSB.mk (cj (i:=3) mG.nd rfl (Or.inr rfl) (bO eG hr.md (by rfl) (bD (pv 0) (bD bG bF)))))
   (cU (PSB.mk (cj (i:=4) mG.nd rfl (Or.inr rfl) (iY (bN zZ) uG uG ["_law_x"] (cZ ((oV Bc (pv 3) (jO bG) (jO bG))).mono) (d7 (i:=0)) dz (bU pW (pv 0) (pv 2)))))
   (cU (PSB.mk (cj (i:=5) mG.nd rfl (Or.inl rfl) (bU cY (bQ bY (pv 3) bG (λ_ _=>rfl)) bG)))
   (cU (PSB.mk (cj (i:=6) mG.nd rfl (Or.inl rfl) (jd (bD (dH (bD (bQ bY (pv 4) bG (λ_ _=>rfl)) (bD (dH (bD bG (bD bG bF))) bF))) bF))))
   (cU (PSB.mk (cW (cI mZ (pv 5) bG (cJ _))
    (bL (cj (i:=7) mG.nd rfl (Or.inl rfl) (bU dW bG (bU cY (bQ bY (pv 3) bG (λ_ _=>rfl)) bG)))
    (bL (cj (i:=8) mG.nd rfl (Or.inl rfl) (bO jV hr.md (by rfl) (bD (bU pW (bQ bY (pv 3) bG (λ_ _=>rfl)) (bU dW (pv 7) bG)) (bD (pv 7) bF))))
    (bM (cj (i:=6) mG.nd rfl (Or.inl rfl) (jd (bD (dH (bD (bQ bY (pv 4) bG (λ_ _=>rfl)) (bD (pv 8) bF))) (bD (dH (bD (bQ bY (pv 4) bG (λ_ _=>rfl)) (bD (dH (bD (bU oZ (bQ cQ (pv 8) bG (λ_ _=>rfl)) (bQ cQ (pv 8) bG (λ_ _=>rfl))) (bD (bQ cQ (pv 8) bG (λ_ _=>rfl)) bF))) bF))) bF)))))))
    cA))
   (cU (PSB.mk (cW (cI mZ (pv 5) bG (cJ _))
    (bL (cj (i:=4) mG.nd rfl (Or.inr rfl) (oV Bc (pv 4) Gj (jO (bU dW bG (bU cY (bQ bY (pv 3) bG (λ_ _=>rfl)) bG)))))
    (bM (Ld (bN zZ) uG uG ["_law_room"] (cZ ((pv 4)).mono) (d7 (i:=0)) dz (dH (bD (pv 0) (bD (dH (bD bG (bD (b_ dw (by rfl) T.iH PySem.boot_len (bD (pv 5) bF)) bF))) bF))) (cM (i:=6) mG.nd rfl (Or.inl rfl)))))
    cA))
   (cU (PSB.mk (cW (cI mZ (pv 5) bG (cJ _))
    (bL (cj (i:=9) mG.nd rfl (Or.inr rfl) (iY (bN zZ) uG uG ["_law_x"] (cZ ((oV Bc (pv 3) (jO bG) (jO (bU dW bG (bU cY (bQ bY (pv 3) bG (λ_ _=>rfl)) bG))))).mono) (d7 (i:=0)) dz (bU pW (pv 0) (bQ bY (jd (bD bG (bD bG (bD bG (bD bG bF))))) (bU cL (bU cY (bQ bY (pv 4) bG (λ_ _=>rfl)) bG) (qO yR (by rfl) T.HJ boot_int (bD (Vn (pv 3)) bF))) (λ_ _=>rfl)))))
    (bL (Ho (bU dW (bQ bY (pv 9) (Et xT bG) (λ_ _=>rfl)) bG) (ae7 (pv 9) (Et xT bG) set_list))
    (bM (Ld (bN zZ) uG uG ["_law_k"] (j_ (by rfl) T.qw (bD (b_ dw (by rfl) T.iH PySem.boot_len (bD (pv 9) bF)) bF).mono) (d7 (i:=0)) dz (dH (bD (bQ bY (pv 5) (pv 0) (λ_ _=>rfl)) (bD (bO jV hr.md (by rfl) (bD (bQ bY (pv 10) (pv 0) (λ_ _=>rfl)) (bD (b_ (Dz rfl) (by rfl) T.YC boot_sum (bD (pv 10) bF)) bF))) bF))) (cM (i:=6) mG.nd rfl (Or.inl rfl))))))
    cA))
   (Hv (PSB.mk (cg (dH (bD (bU pW (bQ bY (pv 3) bG (λ_ _=>rfl)) (pv 1)) (bD (dH (bD (pv 5) (bD (bO aaZ hr.md (by rfl) (bD (pv 0) (bD (bQ bY (pv 3) bG (λ_ _=>rfl)) (bD (bQ bY (pv 3) bG (λ_ _=>rfl)) (bD (pv 2) bF))))) (bD (pv 6) bF)))) bF))))))))))))),?_⟩
  have z9:100<sizeLine:=by decide
  refine bV λR1 hR1=>?_;refine cC ⟨_,rfl,c,14,rfl,by decide,λl xs H1 S1 fl hl xl hx=>?_⟩;have at_:∀j,j<14->∃y,atI (xs.map V.int) (j:Nat)=some (.int y)/\0<=y:=λj hj=>by
   have:j<xs.length:=by lia
   exact⟨xs[j],cu (j:=j) (by rw[aq,aj this];rfl),(hx _ (aV this)).1⟩
  subst hR1;dsimp only[cN,L2.start];have ec:pZ (xs.map V.int) (some 2) (some 6)=((xs.drop 2).take 4).map V.int:=by
   rw[List.map_take,List.map_drop];exact M4 (ys:=xs.map V.int) (a:=2) (b:=6) (by decide) (by rw[ak];lia)
  have ul:((xs.drop 2).take 4).length=4:=by rw[bh,List.length_drop];lia
  refine bV λR1 hR1=>?_;refine cC (dM ⟨_,rfl,_,rfl,_,rfl,l,_,rfl,hl,λp2 H2 S2 f2 h2=>⟨p2,_,rfl,h2,?_,λD1 g1=>⟨vJ D1 H2 (((xs.drop 2).take 4).map λi=>V.int (i.fmod n)),⟨Same.upd g1,bI,rfl⟩,λi x ys Hc hi jj hy hc=>?_,λys Hc ⟨T1,k1,ey⟩ hy=>?_⟩⟩⟩)
  .rw[ec,ak,ul];decide
  .rw[ec,aq]at hi;cases ei:((xs.drop 2).take 4)[i]? with
   |none=>rw[ei]at hi;cases hi
   |some u =>
    rw[ei]at hi;cases hi;exact⟨_,rfl,_,rfl,u,n,rfl,rfl,by lia,jj.2.1,hc,jj.next g1 (λ_ _ z=>z) (by rw[aq,ei];rfl)⟩
  rw[ec,ak,ul,aK (by rw[ak,ul];exact aF _)]at ey;obtain⟨ra,rb,rc,rd,er,rn⟩ : ∃ra rb rc rd:Nat,((xs.drop 2).take 4).map (λi=>V.int (i.fmod n))=[ra,rb,rc,rd].map (λr:Nat=>V.int (r:Nat))/\∀r∈[ra,rb,rc,rd],r<n:=by
   obtain⟨u1,u2,u3,u4,eu⟩:=acO ul;have md:∀i:Int,∃r:Nat,i.fmod n=(r:Nat)/\r<n:=λi=>by
    have m0:0<=i%(n:Int):=Z3 _ (by lia);have m1:i%(n:Int)<n:=YY _ (by lia);exact⟨(i%(n:Int)).toNat,by rw[aX _ (Wp _)];lia,by lia⟩
   obtain⟨r1,e1,l1⟩:=md u1;obtain⟨r2,e2,l2⟩:=md u2;obtain⟨r3,e3,l3⟩:=md u3;obtain⟨r4,e4,l4⟩:=md u4;refine⟨r1,r2,r3,r4,by rw[eu];simp only[List.map_cons,List.map_nil,e1,e2,e3,e4],λr hr=>?_⟩;simp only[YU,List.not_mem_nil,or_false]at hr;rcases hr with rfl|rfl|rfl|rfl<;>assumption
  rw[er]at ey;subst ey;have S3:=S1.trans (S2.trans T1);have hl3:=T1 _ _ (S2 _ _ hl)
  clear T1 S2 S1 h2 f2 er ec hx
  subst hR1;dsimp only[cN];refine bV λR1 hR1=>?_;obtain⟨x6,a6,p6⟩:=at_ 6 (by decide);refine cC ⟨_,rfl,l,_,6,_,rfl,rfl,hl3,a6,x6,4,rfl,rfl,(show(0:Int)<4 by decide),?_⟩;subst hR1;dsimp only[cN];obtain⟨so,es,s0,s3⟩ : ∃so,x6%4=so/\0<=so/\so<=3:=⟨_,rfl,by exact Z3 _ (by decide),by lia⟩;rw[es];refine bV λR1 hR1=>?_;refine cC ⟨_,rfl,D1,_,0,_,rfl,rfl,k1,c7,d8,λq1 Ha Sa fa ha=>⟨d8,λq2 Hb Sb fb hb=>⟨(show 1<=sizeLine by decide),λq3 H4 Sd f3 e3=>?_⟩⟩⟩;have e1:=Sd _ _ (Sb _ _ ha);have e2:=Sd _ _ hb;have S34:=Sa.trans (Sb.trans Sd);have f3:=Same.free S3 (Same.free Sa (Same.free Sb f3));have hl4:=S34 _ _ hl3;have hr4:=S34 _ _ k1;have S4:=S3.trans S34
  clear Sa Sb Sd ha hb fa fb hl3 k1 S3 S34
  subst hR1;dsimp only[cN];refine LR λR hR=>?_;have fin:∀(u3 u6 u7 u8:Option V)(lp:Addr)(rs:List Nat)(ws:List Int)(S:Int)(ps:Μ)(H9:Hp),Same H H9->H9 l=some (.lst (xs.map V.int))->H lp=none->H9 lp=some (.lst ps)->PI H9 ps rs ws S->vK n so rs ws S->S<=wB sm->R { nx:=λ_ H'=>Q .non H',rt:=Q } [some (.int c),some (.int n),some (.bl sm),some (.ref l),u3,some (.int so),some (.ref lp),u6,u7,u8] H9:=by
   intro u3 u6 u7 u8 lp rs ws S ps H9 S9 hl9 fl hlp hpi hdr hS;obtain⟨x0,a0,_⟩:=at_ 0 (by decide);obtain⟨x1,a1,_⟩:=at_ 1 (by decide);obtain⟨x13,a13,_⟩:=at_ 13 (by decide);subst hR;have m0:0<=x13%(n:Int):=Z3 _ (by lia);have m1:x13%(n:Int)<n:=YY _ (by lia);have ef:x13.fmod (n:Int)=(((x13%(n:Int)).toNat:Nat):Int):=by rw[aX _ (Wp _)];lia
   refine dX ⟨_,rfl,l,_,13,_,rfl,rfl,hl9,a13,_,rfl,x13,n,rfl,rfl,by lia,_,rfl,_,rfl,_,rfl,l,_,0,_,rfl,rfl,hl9,a0,_,rfl,l,_,1,_,rfl,rfl,hl9,a1,_,rfl,c,x0,x1,sm,rfl,λp1 x y Hq Sq f1 hq y0 g1 sa sb=>⟨_,rfl,(show 3<=sizeLine by decide),λp2 Hx Sx fx hx=>⟨d8,λp3 Hy Sy fy hy=>?_⟩⟩⟩;dsimp only at hy;rw[ef]at hy;have S10:=Sq.trans (Sx.trans Sy);have y9:yB sm<=1000:=by cases sm<;>decide
   exact q p3 p2 p1 lp _ so x y S rs ws ps _ (S9.trans S10) (Same.free S9 (Same.free Sq (Same.free Sx fy))) (Same.free S9 (Same.free Sq fx)) hy (by lia) (Sy _ _ hx) (Sy _ _ (Sx _ _ hq)) y0 ⟨g1,sa,by exact Int.le_trans sb y9⟩ (S10 _ _ hlp) fl (hpi.same S10) hdr sb hS
  clear hR
  have w9:12<=wB sm:=by cases sm<;>decide
  obtain e|e|e|e:so=0\/so=1\/so=2\/so=3:=by lia
  .subst e;refine kI rfl (by decide) (kI rfl (by decide) (kI rfl (by decide) (fin _ _ _ _ q3 [ra] [1] 1 [.ref q2] H4 S4 hl4 f3 e3 ⟨rfl,λk r x h1 h2=>?_⟩ ?_ (by lia))))
   .match k with
    |0 =>
     cases h1;cases h2;exact⟨q2,q1,rfl,e2,by rw[Wq];exact e1⟩
    |k+1=>simp at h1
   .exact⟨by decide,by decide,rfl,by decide,by decide,by simp,by simp,rfl,by simp,λ_=>⟨rfl,rfl,rfl⟩,λz=>by simp at z,λz=>by simp at z,λr hr=>rn r (by rw[YR.mp hr];simp)⟩
  .subst e;obtain⟨x8,a8,_⟩:=at_ 8 (by decide);obtain⟨x9,a9,_⟩:=at_ 9 (by decide);obtain⟨b,eb,b0,b6⟩ : ∃b,1+x8%6=b/\1<=b/\b<=6:=⟨_,rfl,by lia,by lia⟩;obtain⟨wt,ew,w0,w1⟩ : ∃wt,x9.fmod (b+1)=wt/\0<=wt/\wt<=b:=by
    have m0:0<=x9%(b+1):=Z3 _ (by lia);have m1:x9%(b+1)<b+1:=YY _ (by lia);exact⟨_,rfl,by rw[aX _ (Int.le_trans m0 (XZ m1))];exact m0,by rw[aX _ (Int.le_trans m0 (XZ m1))];exact Int.le_of_lt_add_one m1⟩
   refine Ai rfl rfl λKn hK=>?_;refine cC ⟨_,rfl,l,_,8,_,rfl,rfl,hl4,a8,x8,6,rfl,rfl,(show(0:Int)<6 by decide),_,_,rfl,rfl,?_⟩;dsimp only[cN];rw[eb];refine cC ⟨_,rfl,l,_,9,_,rfl,rfl,hl4,a9,_,rfl,_,_,rfl,rfl,x9,b+1,rfl,rfl,by lia,_,rfl,x9.fmod (b+1),b,rfl,by lia,Bd.sm (by lia),λc1 g1=>?_⟩;rw[ew];have T1:Same H4 (upd H4 c1 (.tup [.int (Ac.lw wt b).1,.int (Ac.lw wt b).2])):=Same.upd g1;have k1:upd H4 c1 (.tup [.int (Ac.lw wt b).1,.int (Ac.lw wt b).2]) c1=some (.tup [.int (Ac.lw wt b).1,.int (Ac.lw wt b).2]):=bI;generalize upd H4 c1 (.tup [.int (Ac.lw wt b).1,.int (Ac.lw wt b).2])=H5 at T1 k1 ⊢;dsimp only[cN];refine⟨_,rfl,D1,_,0,_,rfl,rfl,T1 _ _ hr4,c7,_,rfl,d8,λt1 H6 T2 _ k2=>⟨_,rfl,D1,_,1,_,rfl,rfl,T2 _ _ (T1 _ _ hr4),cR,_,rfl,c1,_,1,_,rfl,rfl,T2 _ _ k1,cR,_,rfl,c1,_,0,_,rfl,rfl,T2 _ _ k1,c7,_,_,rfl,rfl,_,rfl,c1,_,1,_,rfl,rfl,T2 _ _ k1,cR,d8,λc2 H7 T3 _ k3=>⟨d8,λt2 H8 T4 _ k4=>⟨d8,λlp H9 T5 f5 k5=>hK _ _ (kI rfl (by decide) (kI rfl (by decide) ?_))⟩⟩⟩⟩;have T69:=T3.trans (T4.trans T5);have S6:=S4.trans (T1.trans T2);refine fin _ _ _ _ lp [ra,rb] [wt,b-wt] b [.ref t1,.ref t2] _ (S6.trans T69) (T69 _ _ (T2 _ _ (T1 _ _ hl4))) (Same.free (S6.trans (T3.trans T4)) f5) k5 ⟨rfl,λk r x h1 h2=>?_⟩ ?_ (by lia)
   .match k with
    |0 =>
     cases h1;cases h2;exact⟨t1,c1,rfl,T69 _ _ k2,T69 _ _ (T2 _ _ k1)⟩
    |1 =>
     cases h1;cases h2;exact⟨t2,c2,rfl,T5 _ _ k4,by rw[Px];exact T5 _ _ (T4 _ _ k3)⟩
    |k+2=>simp at h1
   .refine⟨by decide,by decide,rfl,by lia,by exact Int.le_trans b6 (by decide),by simp,?_,?_,by simp,λz=>by simp at z,λ_=>rfl,λz=>by simp at z,?_⟩
    .intro x hx;simp only[YU,List.not_mem_nil,or_false]at hx;omega
    .simp;lia
    .intro r hr;simp only[YU,List.not_mem_nil,or_false]at hr;rcases hr with rfl|rfl
     .exact rn _ (by simp)
     .exact rn _ (by simp)
  .subst e;obtain⟨x7,a7,_⟩:=at_ 7 (by decide);obtain⟨m,em,m1,m4⟩ : ∃m:Nat,1+x7%4=m/\1<=m/\m<=4:=⟨(1+x7%4).toNat,by lia,by lia,by lia⟩;refine kI rfl (by decide) (Ai rfl rfl λKn hK=>?_);refine cC ⟨_,rfl,_,rfl,l,_,7,_,rfl,rfl,hl4,a7,x7,4,rfl,rfl,(show(0:Int)<4 by decide),_,_,rfl,rfl,_,rfl,D1,_,rfl,hr4,λp5 H5 T1 f5 k1=>?_⟩;have ec:pZ ([ra,rb,rc,rd].map λr:Nat=>V.int (r:Nat)) none (some (1+x7%4))=([ra,rb,rc,rd].take m).map λr:Nat=>V.int (r:Nat):=by
    rw[em,TF (by rw[ak];simp;omega),<- List.map_take]
   have k1:H5 p5=some (.lst (([ra,rb,rc,rd].take m).map λr:Nat=>V.int (r:Nat))):=by rw[<- ec];exact k1
   have l5:([ra,rb,rc,rd].take m).length=m:=by rw[bh];simp;lia
   have r5:∀r∈[ra,rb,rc,rd].take m,r<n:=λr hr=>rn r (List.mem_of_mem_take hr);generalize[ra,rb,rc,rd].take m=rs at l5 r5 k1;have S5:=S4.trans T1;have rl5:(List.replicate m (1:Int)).length=m:=aN;dsimp only[cN];refine dM ⟨_,rfl,p5,_,rfl,k1,by rw[ak];lia,λD2 hD2=>⟨evJ D2 rs (List.replicate m 1) m H5,⟨Same.upd hD2,bI,by simp;exact⟨rfl,λk r x h1 _=>by simp at h1⟩⟩,?_,?_⟩⟩
   .rintro k v ys Hc hk ⟨T5,h5,pi⟩ hy hpc;rw[aq]at hk;cases er:rs[k]? with
    |none=>rw[er]at hk;cases hk
    |some r =>
     rw[er]at hk;cases hk;have lk:k<m:=by rw[<- l5];exact(ao.mp er).1
     have ew:(List.replicate m (1:Int))[k]?=some 1:=by rw[XG,ZY lk]
     refine⟨_,rfl,_,rfl,p5,_,rfl,hpc,d8,λc1 H6 T6 f6 i1=>⟨d8,λt1 H7 T7 f7 i2=>?_⟩⟩;have T67:=T6.trans T7;have i1:=T7 _ _ i1;rw[ak,l5]at i1;have nt:∀t us,H7 t=some (.tup us)->upd H7 D2 (.lst (ys++[.ref t1])) t=some (.tup us):=λt us e=>(bK (i_ e (T67 _ _ h5) (by intro z;cases z))).trans e;refine⟨T67 _ _ h5,T67 _ _ hpc,λb o e=>(bK (bH e hD2)).trans (T67 _ _ (T5 _ _ e)),bI,?_⟩;rw[cB er,cB ew];refine((pi.same T67).imp nt).snoc ?_ (nt _ _ i2) (by rw[Wq];exact nt _ _ i1);rw[bh,bh,rl5,l5]
   .rintro ys Hc ⟨T5,h5,pi⟩ hy;rw[ak,aP,l5,aK (by rw[rl5];exact aF _)]at pi;refine hK _ _ (kI rfl (by decide) (fin _ _ _ _ D2 rs (List.replicate m 1) m ys Hc (S5.trans T5) (T5 _ _ (T1 _ _ hl4)) (Same.free S5 hD2) h5 pi ?_ (by lia)));exact⟨by decide,by decide,by rw[rl5,l5],by lia,by lia,by exact aM (Nat.le_of_eq l5) m4,λx hx=>by rw[(XW.mp hx).2];decide,Yb m,by lia,λz=>by simp at z,λz=>by simp at z,λ_=>⟨by rw[l5],by rw[l5]⟩,r5⟩
  .subst e;obtain⟨x7,a7,_⟩:=at_ 7 (by decide);obtain⟨x12,a12,_⟩:=at_ 12 (by decide);obtain⟨m,em,m1,m4⟩ : ∃m:Nat,9+x7%4=((8+m:Nat):Int)/\1<=m/\m<=4:=⟨(1+x7%4).toNat,by lia,by lia,by lia⟩;have ec:pZ (xs.map V.int) (some 8) (some (9+x7%4))=((xs.drop 8).take m).map V.int:=by
    rw[em,List.map_take,List.map_drop];have:=M4 (ys:=xs.map V.int) (a:=8) (b:=8+m) (X2 _ _) (by rw[ak];lia);rw[show 8+m-8=m by exact Nat.add_sub_cancel_left _ _]at this;exact this
   have l5:((xs.drop 8).take m).length=m:=by rw[bh,List.length_drop];lia
   generalize(xs.drop 8).take m=vs at l5 ec;obtain⟨j3,ej,jb⟩ : ∃j:Int,x12%4*(if(!sm)=true then 1 else 0)=j/\(j=0\/j=1\/j=2\/(j=3/\sm=false)):=by
    cases sm with
    |true=>exact⟨0,by simp,.inl rfl⟩
    |false=>exact⟨x12%4,by simp,by simp;lia⟩
   obtain⟨md,ed,hmd⟩ : ∃md:Int,atI [V.int 3,V.int 3,V.int 3,V.int 1000] j3=some (.int md)/\(md=3\/(md=1000/\sm=false)):=by
    rcases jb with rfl|rfl|rfl|⟨rfl,rfl⟩
    .exact⟨3,cu (j:=0) rfl,.inl rfl⟩
    .exact⟨3,cu (j:=1) rfl,.inl rfl⟩
    .exact⟨3,cu (j:=2) rfl,.inl rfl⟩
    .exact⟨1000,cu (j:=3) rfl,.inr ⟨rfl,rfl⟩⟩
   refine kI rfl (by decide) (kI rfl (by decide) (Ai rfl rfl λKn hK=>?_));refine bV λR1 hR1=>?_;refine cC (dM ⟨_,rfl,_,rfl,_,rfl,l,_,7,_,rfl,rfl,hl4,a7,x7,4,rfl,rfl,(show(0:Int)<4 by decide),_,_,rfl,rfl,_,rfl,l,_,rfl,hl4,λp5 H5 T1 f5 k5=>⟨p5,_,rfl,k5,?_,λD2 hD2=>⟨weJ D2 md H5,⟨[],rfl,rfl,by simp,Same.upd hD2,bI⟩,?_,?_⟩⟩⟩)
   .show(pZ (xs.map V.int) (some 8) (some (9+x7%4))).length<=_;rw[ec,ak];lia
   .rintro k v ys Hc hk ⟨ws,rfl,wl,wb,T5,h5⟩ hy hpc;have hk:(pZ (xs.map V.int) (some 8) (some (9+x7%4)))[k]?=some v:=hk;rw[ec,aq]at hk;cases er:vs[k]? with
    |none=>rw[er]at hk;cases hk
    |some i =>
     rw[er]at hk;cases hk;have f0:0<=i.fmod md/\i.fmod md<md:=by
      rcases hmd with rfl|⟨rfl,_⟩
      .rw[aX _ (by decide)];lia
      .rw[aX _ (by decide)];lia
     have hlc:=T5 _ _ (T1 _ _ hl4);refine⟨_,rfl,(show 4<=sizeLine by decide),λp6 H6 S6 f6 h6=>⟨_,rfl,l,_,12,_,rfl,rfl,S6 _ _ hlc,a12,x12,4,rfl,rfl,(show(0:Int)<4 by decide),_,rfl,sm,rfl,.inr ⟨!sm,rfl,_,_,rfl,rfl,⟨Bd.sm (by lia),Bd.sm (by split<;>decide)⟩,p6,_,_,_,rfl,rfl,h6,by rw[ej];exact ed,i,md,rfl,rfl,by lia,S6 _ _ h5,S6 _ _ hpc,ws++[i.fmod md],by rw[bA];rfl,by rw[aA,wl];rfl,λx hx=>?_,λb o e=>(bK (bH e hD2)).trans (S6 _ _ (T5 _ _ e)),bI⟩⟩⟩;rcases Y1.mp hx with hx|hx
     .exact wb x hx
     .rw[YR.mp hx];exact f0
   .rintro ys Hc ⟨ws,rfl,wl,wb,T5,h5⟩ hy;have wl:ws.length=m:=by
     have e:(pZ (xs.map V.int) (some 8) (some (9+x7%4))).length=m:=by rw[ec,ak,l5]
     exact wl.trans e
    have S5:=S4.trans T1;have lm:m-1<ws.length:=by lia
    have el:ws[m-1]?=some ws[m-1]:=aj lm;have bl:=wb _ (aV lm);generalize ws[m-1]=wl0 at el bl;have ix:ixN (ws.map V.int).length (-1)=some (m-1):=by rw[ak,wl];exact CJ m1
    have ea:atI (ws.map V.int) (-1)=some (.int wl0):=by
     unfold atI;rw[ix];show(ws.map V.int)[m-1]?=_;rw[aq,el];rfl
    subst hR1;dsimp only[cN];refine bV λR1 hR1=>?_;refine cC ⟨_,rfl,1,rfl,D2,_,_,_,rfl,rfl,h5,ea,wl0,1,rfl,rfl,?_⟩;refine⟨_,rfl,1,rfl,D2,_,_,_,rfl,rfl,h5,ix,?_⟩;rw[<- List.map_set];have l6:(ws.set (m-1) (wl0+1)).length=m:=by rw[List.length_set,wl]
    have b6:∀x∈ws.set (m-1) (wl0+1),0<=x/\x<=md:=λx hx=>by
     rcases List.mem_or_eq_of_mem_set hx with hx|rfl
     .have:=wb x hx;lia
     .lia
    have in6:wl0+1∈ws.set (m-1) (wl0+1):=List.mem_set lm _;generalize ws.set (m-1) (wl0+1)=ww at l6 b6 in6 ⊢;obtain⟨s1,s2,s3'⟩:=Rn ww b6;rw[l6]at s2;have sB:ww.sum<=4004/\ww.sum<=wB sm:=by
     rcases hmd with e|⟨e,e'⟩
     .rw[e]at s2;exact⟨by lia,by lia⟩
     .rw[e]at s2;rw[e'];exact⟨by lia,by show _<=(4004:Int);lia⟩
    obtain⟨s4,s5⟩:=sB;have sp:=s3' _ in6;have T6:Same H (upd Hc D2 (.lst (ww.map V.int))):=λb o e=>(bK (bH (S5 _ _ e) hD2)).trans (T5 _ _ (S5 _ _ e));have k6:upd Hc D2 (.lst (ww.map V.int)) D2=some (.lst (ww.map V.int)):=bI;have r6:upd Hc D2 (.lst (ww.map V.int)) D1=some (.lst ([ra,rb,rc,rd].map λr=>V.int (r:Nat))):=(bK (bH (T1 _ _ hr4) hD2)).trans (T5 _ _ (T1 _ _ hr4));have hl6:upd Hc D2 (.lst (ww.map V.int)) l=some (.lst (xs.map V.int)):=(bK (bH (T1 _ _ hl4) hD2)).trans (T5 _ _ (T1 _ _ hl4));generalize upd Hc D2 (.lst (ww.map V.int))=H6 at T6 k6 r6 hl6 ⊢;have lt4:([ra,rb,rc,rd].take m).length=m:=by rw[bh];simp;lia
    subst hR1;refine qe ⟨_,rfl,D2,_,rfl,k6,m,by rw[ak,l6],by exact aM m4 (by decide),λD3 hD3=>⟨evJ D3 ([ra,rb,rc,rd].take m) ww ww.sum H6,⟨Same.upd hD3,bI,by simp;exact⟨rfl,λk r x h1 _=>by simp at h1⟩⟩,?_,?_⟩⟩
    .rintro k ys Hc hk ⟨T7,h7,pi⟩ hy;have er : [ra,rb,rc,rd][k]?=some ([ra,rb,rc,rd][k]'(by simp;exact aU hk m4)):=aj _;have et:([ra,rb,rc,rd].take m)[k]?=some ([ra,rb,rc,rd][k]'(by simp;exact aU hk m4)):=by rw[List.getElem?_take,ZY hk];exact er
     have ew:ww[k]?=some (ww[k]'(by lia)):=aj _;generalize[ra,rb,rc,rd][k]'(by simp;exact aU hk m4)=r at er et;generalize ww[k]'(by lia)=wk at ew;refine⟨_,rfl,_,rfl,D1,_,_,_,rfl,rfl,T7 _ _ r6,cu (j:=k) (by rw[aq,er];rfl),_,rfl,_,rfl,D2,_,_,_,rfl,rfl,T7 _ _ k6,cu (j:=k) (by rw[aq,ew];rfl),_,rfl,D2,ww,rfl,T7 _ _ k6,wk,ww.sum,rfl,by lia,Bd.sm (by lia),λc1 g1=>⟨d8,λt1 H8 T8 f8 i2=>?_⟩⟩;have T78:=(Same.upd g1 (o:=.tup [.int (Ac.lw wk ww.sum).1,.int (Ac.lw wk ww.sum).2])).trans T8;have i1:=T8 _ _ (bI (H:=Hc) (a:=c1) (o:=.tup [.int (Ac.lw wk ww.sum).1,.int (Ac.lw wk ww.sum).2]));have nt:∀t us,H8 t=some (.tup us)->upd H8 D3 (.lst (ys++[.ref t1])) t=some (.tup us):=λt us e=>(bK (i_ e (T78 _ _ h7) (by intro z;cases z))).trans e;refine⟨T78 _ _ h7,λb o e=>(bK (bH e hD3)).trans (T78 _ _ (T7 _ _ e)),bI,?_⟩;rw[cB et,cB ew];refine((pi.same T78).imp nt).snoc ?_ (nt _ _ i2) (nt _ _ i1);rw[bh,bh,l6,lt4]
    .rintro ys Hc ⟨T7,h7,pi⟩ hy;have pi:PI Hc ys ([ra,rb,rc,rd].take m) ww ww.sum:=by
      have e1:([ra,rb,rc,rd].take m).take m=[ra,rb,rc,rd].take m:=aK (by rw[lt4];exact aF _);have e2:ww.take m=ww:=aK (by rw[l6];exact aF _);rw[e1,e2]at pi;exact pi
     refine hK _ _ (fin _ _ _ _ D3 ([ra,rb,rc,rd].take m) ww ww.sum ys Hc (T6.trans T7) (T7 _ _ hl6) (Same.free T6 hD3) h7 pi ?_ s5);exact⟨by decide,by decide,by rw[lt4,l6],by lia,by exact Int.le_trans s4 (by decide),by exact aM (Nat.le_of_eq lt4) m4,λx hx=>(b6 x hx).1,rfl,by lia,λz=>by simp at z,λz=>by simp at z,λz=>by simp at z,λr hr=>rn r (List.mem_of_mem_take hr)⟩
structure DD(n:Nat)(B:Int)(H:Hp)(d:Addr):Prop where
 ex:∃(p lp:Addr)(so x y S:Int)(rs:List Nat)(ws:List Int)(ps:Μ),H d=some (.tup [.int so,.ref p,.ref lp])/\H p=some (.tup [.int x,.int y])/\0<y/\acX x y/\H lp=some (.lst ps)/\PI H ps rs ws S/\vK n so rs ws S/\y*S<=B
theorem DD.same{n:Nat}{B:Int}{H H':Hp}{d:Addr}(h:DD n B H d)(S:Same H H'):DD n B H' d:=by
 obtain⟨p,lp,so,x,y,S',rs,ws,ps,a,b,b1,b2,c,d,e⟩:=h.ex;exact⟨p,lp,so,x,y,S',rs,ws,ps,S _ _ a,S _ _ b,b1,b2,S _ _ c,d.same S,e⟩
structure RD(n:Nat)(B:Int)(H:Hp)(xs:Μ)(dss:List (Ε)):Prop where
 len:xs.length=dss.length
 at_:∀(k:Nat)(ds:Ε),dss[k]?=some ds->∃l,xs[k]?=some (.ref l)/\H l=some (.lst (ds.map V.ref))/\∀d∈ds,DD n B H d
theorem RD.same{n:Nat}{B:Int}{H H':Hp}{xs:Μ}{dss:List (Ε)}(h:RD n B H xs dss)(S:Same H H'):RD n B H' xs dss:=⟨h.len,λk ds e=>let⟨l,a,b,c⟩:=h.at_ k ds e;⟨l,a,S _ _ b,λd hd=>(c d hd).same S⟩⟩
theorem DD.off{n:Nat}{B:Int}{H:Hp}{ls:Ε}{d p lp:Addr}{so x y S:Int}{rs:List Nat}{ws:List Int}{ps:Μ}(hls:∀l∈ls,∃zs,H l=some (.lst zs))(nl:lp∉ls)(h1:H d=some (.tup [.int so,.ref p,.ref lp]))(h2:H p=some (.tup [.int x,.int y]))(y0:0<y)(g:acX x y)(h3:H lp=some (.lst ps))(h4:PI H ps rs ws S)(h5:vK n so rs ws S)(h6:y*S<=B):DD n B (del ls H) d:=by
 have nt:∀t us,H t=some (.tup us)->del ls H t=some (.tup us):=λt us e=>gK (λz=>by
  obtain⟨zs,hz⟩:=hls t z;rw[hz]at e;cases e) e
 exact⟨p,lp,so,x,y,S,rs,ws,ps,nt _ _ h1,nt _ _ h2,y0,g,gK nl h3,h4.imp nt,h5,h6⟩
noncomputable def vN(sm:Bool):Nat:=if sm then 2 else 3
noncomputable def mB(sm:Bool):Int:=if sm then 12 else 4004000
theorem afT{sm:Bool}{y S:Int}(y0:0<y)(S0:0<S)(hy:y<=yB sm)(hS:S<=wB sm):y*S<=mB sm:=by
 have h:=Int.mul_le_mul hy hS (XZ S0) (Int.le_trans (XZ y0) hy);cases sm<;>exact h
def Jz(K:Frag)(a:Addr)(ns:List Int):Sp:=λvs H Q _=>∃(c:Int)(n:Nat)(sm:Bool),vs=[.ref a,.int c,.int n,.bl sm]/\SqL K H a (ns.map V.int)/\ns.length<=63/\0<=c/\n<=12/\∀(r:Addr)(xs:Μ)(dss:List (Ε))H',Same H H'->H r=none->H' r=some (.lst xs)->dss.length=n->RD n (mB sm) H' xs dss->(∀ds∈dss,ds.length<=vN sm)->Q (.ref r) H'
structure RL(n m:Nat)(B:Int)(H0 H:Hp)(ls:Ε)(dss:List (Ε)):Prop where
 len:ls.length=dss.length
 nd:ls.Nodup
 new:∀l∈ls,H0 l=none
 at_:∀(k:Nat)(l:Addr)(ds:Ε),ls[k]?=some l->dss[k]?=some ds->H l=some (.lst (ds.map V.ref))/\ds.length<=m/\∀d∈ds,DD n B (del ls H) d
theorem RL.rd{n m:Nat}{B:Int}{H0 H:Hp}{ls:Ε}{dss:List (Ε)}(h:RL n m B H0 H ls dss):RD n B H (ls.map V.ref) dss:=⟨by rw[ak,h.len],λk ds e=>by
 have lk:k<ls.length:=by rw[h.len];exact(ao.mp e).1
 have el:ls[k]?=some ls[k]:=aj lk;obtain⟨a,_,c⟩:=h.at_ k _ ds el e;exact⟨ls[k],by rw[aq,el];rfl,a,λd hd=>(c d hd).same jq⟩⟩
theorem RL.lists{n m:Nat}{B:Int}{H0 H:Hp}{ls:Ε}{dss:List (Ε)}(h:RL n m B H0 H ls dss):∀l∈ls,∃zs,H l=some (.lst zs):=λl hl=>by
 obtain⟨k,hk⟩:=aW hl;have lk:k<dss.length:=by rw[<- h.len];exact(ao.mp hk).1
 exact⟨_,(h.at_ k l _ hk (aj lk)).1⟩
theorem RL.same{n m:Nat}{B:Int}{H0 H H':Hp}{ls:Ε}{dss:List (Ε)}(h:RL n m B H0 H ls dss)(S:Same H H'):RL n m B H0 H' ls dss:=⟨h.len,h.nd,h.new,λk l ds e1 e2=>let⟨a,b,c⟩:=h.at_ k l ds e1 e2;⟨S _ _ a,b,λd hd=>(c d hd).same (lM λb o _ e=>S _ _ e)⟩⟩
theorem RL.put{n m:Nat}{B:Int}{H0 H:Hp}{ls:Ε}{dss:List (Ε)}{k:Nat}{l d:Addr}{ds:Ε}(h:RL n m B H0 H ls dss)(el:ls[k]?=some l)(ed:dss[k]?=some ds)(hm:ds.length<m)(hd:DD n B (del ls H) d):RL n m B H0 (upd H l (.lst ((ds++[d]).map V.ref))) ls (dss.set k (ds++[d])):=by
 have lm:=aB el;have ee:del ls (upd H l (.lst ((ds++[d]).map V.ref)))=del ls H:=by
  funext b
  unfold del;split
  .rfl
  .rename_i hb
   exact bK λz=>hb (z ▸ lm)
 refine⟨by rw[List.length_set,h.len],h.nd,h.new,λj l' ds' e1 e2=>?_⟩;rw[ee];by_cases e:k=j
 .subst e;rw[el]at e1;cases e1;rw[List.getElem?_set_self (ao.mp ed).1]at e2;cases e2;obtain⟨a,b,c⟩:=h.at_ k l ds el ed;refine⟨bI,by rw[aA];simp;exact hm,λd' hd'=>?_⟩;rcases Y1.mp hd' with hd'|hd'
  .exact c d' hd'
  .rw[YR.mp hd'];exact hd
 .rw[List.getElem?_set_ne e]at e2;obtain⟨a,b,c⟩:=h.at_ j l' ds' e1 e2;refine⟨(bK λz=>?_).trans a,b,c⟩;subst z;have l1:=ao.mp el;have l2:=ao.mp e1;have pw:=List.pairwise_iff_getElem.mp h.nd;rcases Nat.lt_or_gt_of_ne e with lt|lt
  .exact pw k j l1.1 l2.1 lt (l1.2.trans l2.2.symm)
  .exact pw j k l2.1 l1.1 lt (l2.2.trans l1.2.symm)
def dJ0(n m:Nat)(B:Int)(D1:Addr)(H H1:Hp)(k:Nat)(ys:Μ)(Hc:Hp):Prop:=∃ls:Ε,ys=ls.map V.ref/\RL n m B H Hc ls (List.replicate k [])/\Same H1 Hc/\Hc D1=some (.lst ys)/\D1∉ls
theorem RL.nil{n m:Nat}{B:Int}{H0 H:Hp} : RL n m B H0 H [] (List.replicate 0 []):=⟨rfl,List.nodup_nil,by simp,λk l ds e=>by simp at e⟩
theorem RL.more{n m k:Nat}{B:Int}{H0 H:Hp}{ls:Ε}{l:Addr}(h:RL n m B H0 H ls (List.replicate k []))(h0:H0 l=none)(hl:H l=none):RL n m B H0 (upd H l (.lst [])) (ls++[l]) (List.replicate (k+1) []):=by
 have hk:ls.length=k:=by rw[h.len,aN]
 have nin:l∉ls:=λz=>by
  obtain⟨zs,hz⟩:=h.lists l z;rw[hl]at hz;cases hz
 refine⟨by rw[aA,hk,aN];rfl,?_,λl' hl'=>?_,λj l' ds e1 e2=>?_⟩
 .rw[List.nodup_append];refine⟨h.nd,by simp,λa ha b hb z=>?_⟩;rw[YR.mp hb]at z;exact nin (z ▸ ha)
 .rcases Y1.mp hl' with hl'|hl'
  .exact h.new l' hl'
  .rw[YR.mp hl'];exact h0
 .have lj:=(ao.mp e2).1;rw[aN]at lj;rw[XG,ZY lj]at e2;cases e2;by_cases hj:j<ls.length
  .rw[aD hj]at e1;obtain⟨a,_⟩:=h.at_ j l' [] e1 (by rw[XG,ZY (aU hj (Nat.le_of_eq hk))]);exact⟨(bK (λz=>by rw[z,hl]at a;cases a)).trans a,bw _,by simp⟩
  .rw[aC (Nat.le_of_not_lt hj)]at e1;have e0:j-ls.length=0:=by lia
   rw[e0]at e1;cases e1;exact⟨bI,bw _,by simp⟩
theorem RL.other{n m k:Nat}{B:Int}{H0 H:Hp}{ls:Ε}{D1:Addr}{o:HO}(h:RL n m B H0 H ls (List.replicate k []))(nd:D1∉ls):RL n m B H0 (upd H D1 o) ls (List.replicate k []):=by
 refine⟨h.len,h.nd,h.new,λj l ds e1 e2=>?_⟩;obtain⟨a,b,_⟩:=h.at_ j l ds e1 e2;have lj:=(ao.mp e2).1;rw[aN]at lj;rw[XG,ZY lj]at e2;cases e2;exact⟨(bK λz=>by subst z;exact nd (aB e1)).trans a,b,by simp⟩
def dJ(a D1:Addr)(c:Int)(n:Nat)(sm:Bool)(ls:Ε)(u5 u6:Option V)(H:Hp)(k:Nat)(σ:L2.St)(H':Hp):Prop:=∃(u7 u8 u9:Option V)(dss:List (Ε)),σ=[some (.ref a),some (.int c),some (.int n),some (.bl sm),some (.ref D1),u5,u6,u7,u8,u9]/\Same H H'/\H' D1=some (.lst (ls.map V.ref))/\dss.length=n/\RL n (vN sm) (mB sm) H H' ls dss
theorem abp(F:Fun K yc yc Gf f fd)(T:Txt K mg D)(a:Addr)(ns:List Int)(uO:OkF P w K mg base 1 zy zm (Ar K a ns))(eG:OkF P w K mg base 1 jA jD jz)(Ua:OkF P w K mg base 4 Cv CZ Gu):cF P w K mg base CX0 5 f fd wR (Jz K a ns):=by
 refine F.ok rO ?_ ?_
 .rintro _ _ _ _ ⟨c,n,sm,rfl,_⟩;rfl
 .rintro cdv A outer s H _ Q E hr ⟨c,n,sm,rfl,hs,n63,c0,n12,q⟩;refine⟨_,(bL (Ld (bN Gf) Qw Qw ["_law_k"] (j_ (by rfl) T.qw (bD (pv 2) bF).mono) (d7 (i:=0)) dz (o9 bF) (cM (i:=4) rO.nd rfl (Or.inl rfl)))
   (bL (cW (cI RX (pv 2) bG (cJ _))
    (bL (cj (i:=5) rO.nd rfl (Or.inl rfl) (bO uO hr.md (by rfl) (bD (pv 0) (bD (pv 1) bF))))
    (bL (cj (i:=6) rO.nd rfl (Or.inl rfl) (bO eG hr.md (by rfl) (bD (pv 5) (bD (bU pW (bU cY (bU U6 (pv 5) bG) bG) (bU dW (bU cL bG (pv 2)) bG)) bF))))
    (bM (iR PassesOwn.never rfl (cZ ((bU Uk (pv 6) (oV Ge (pv 0) (jO (bU dW (pv 1) bG)) (jO (bU dW (pv 1) bG))))).mono) (cM (i:=7) rO.nd rfl (Or.inl rfl))
     (bL (Ho (bO Ua hr.md (by rfl) (bD (pv 7) (bD (pv 2) (bD (pv 3) bF)))) (fV (n:=2) rfl (cD (cM (i:=8) rO.nd rfl (Or.inl rfl)) (cD (cM (i:=9) rO.nd rfl (Or.inl rfl)) fL))))
     (bM (cW (cI zL (b_ dw (by rfl) T.iH PySem.boot_len (bD (bQ bY (pv 4) (pv 8) (λ_ _=>rfl)) bF)) (bU oZ bG (qO yR (by rfl) T.HJ boot_int (bD (pv 3) bF))) (cJ _))
      (bM (dD (rH (bQ bY (pv 4) (pv 8) (λ_ _=>rfl)) (bD (pv 9) bF))))
      cA)))))))
    cA)
   (bM (cg (pv 4))))),?_⟩
  unfold Ar jz Gu;refine bV λR1 hR1=>?_
  walk_at "rd"
  refine qe ?_
  walk_at "rd"
  refine⟨n,rfl,by exact aM n12 (by decide),λD1 hD1=>⟨dJ0 n (vN sm) (mB sm) D1 H H,⟨[],rfl,.nil,Same.upd hD1,bI,by simp⟩,?_,?_⟩⟩
  .rintro k ys Hc hk ⟨ls,rfl,rl,S1,h1,nd⟩ hy;refine⟨bw _,λl hl=>?_⟩;have nD:D1≠l:=bH h1 hl;refine⟨(bK nD).trans h1,ls++[l],by rw[bA];rfl,(rl.more (Same.free S1 hl) hl).other ?_,λb o e=>(bK (bH e hD1)).trans ((bK (bH (S1 _ _ e) hl)).trans (S1 _ _ e)),bI,?_⟩
   .simp only[Y1,YR,not_or];exact⟨nd,nD⟩
   .simp only[Y1,YR,not_or];exact⟨nd,nD⟩
  .rintro ys Hc ⟨ls,rfl,rl,S1,h1,nd⟩ hy;subst hR1;refine bV λR2 hR2=>?_;have fin:∀(u5 u6 u7 u8 u9:Option V)(dss:List (Ε))(H9:Hp),Same H H9->H9 D1=some (.lst (ls.map V.ref))->dss.length=n->RL n (vN sm) (mB sm) H H9 ls dss->R2 { nx:=λ_ H'=>Q .non H',rt:=Q } [some (.ref a),some (.int c),some (.int n),some (.bl sm),some (.ref D1),u5,u6,u7,u8,u9] H9:=by
    intro u5 u6 u7 u8 u9 dss H9 S9 h9 ld r9;subst hR2;refine⟨_,rfl,q D1 _ dss H9 S9 hD1 h9 ld r9.rd λds hds=>?_⟩;obtain⟨k,hk⟩:=aW hds;have lk:k<ls.length:=by rw[r9.len];exact(ao.mp hk).1
    exact(r9.at_ k _ ds (aj lk) hk).2.1
   clear hR2
   walk_at "rd"
   refine adL (λhn=>?_) λ_=>fin none none none none none (List.replicate n []) Hc S1 h1 aN rl;have hn:0<(n:Int):=of_decide_eq_true hn;have v0:0<=cell ns c*48271%104729%(3*(n:Int)+1):=Z3 _ (by lia);have v1:cell ns c*48271%104729%(3*(n:Int)+1)<3*(n:Int)+1:=YY _ (by lia);refine⟨Same.sql S1 hs,n63,c0,.inr (by constructor<;>decide),Bd.sm (by decide),Bd.sm (by lia),by lia,(cell ns c*48271%104729%(3*(n:Int)+1)).toNat,by rw[aX _ (Int.le_trans v0 (XZ v1))];lia,by lia,λl xs H2 S2 fl hl2 _ _=>gC ?_⟩
   walk_at "rd"
   refine⟨_,Same.sql (S1.trans S2) hs,λp5 g5=>⟨_,(bK (bH hl2 g5)).trans hl2,?_,λp6 g6=>⟨dJ a D1 c n sm ls (some (.int (cell ns c))) (some (.ref l)) H,?_,?_,?_⟩⟩⟩
   .have z9:1000<sizeLine:=by decide
    have:(pZ (ns.map V.int) (some (c+1)) (some (c+25))).length<=(ns.map V.int).length:=by
     unfold pZ;rw[bh,List.length_drop];lia
    rw[ak]at this ⊢;lia
   .have T5:Same Hc (upd (upd H2 p5 (.lst (pZ (ns.map V.int) (some (c+1)) (some (c+25))))) p6 (.lst (xs.map V.int++pZ (ns.map V.int) (some (c+1)) (some (c+25))))):=S2.trans ((Same.upd g5).trans (Same.upd g6));exact⟨none,none,none,List.replicate n [],rfl,S1.trans T5,T5 _ _ h1,aN,rl.same T5⟩
   .rintro k v σ' H' hk ⟨u7,u8,u9,dss,rfl,S9,h9,ld,r9⟩ hp6;obtain⟨i,rfl⟩ : ∃i,v=V.int i:=by
     rcases Y1.mp (aB hk)with z|z
     .obtain⟨i,_,rfl⟩:=YV.mp z;exact⟨i,rfl⟩
     .obtain⟨i,_,rfl⟩:=YV.mp (List.mem_of_mem_drop (List.mem_of_mem_take z));exact⟨i,rfl⟩
    refine⟨_,rfl,_,rfl,_,rfl,⟨_,rfl⟩,n,rfl,sm,rfl,by lia,n12,λr d p lp room so x y S rs ws ps H3 S3 fr fd hr hroom hd hp y0 g hlp flp hpi hdr hy9 hS9=>?_⟩;have kd:dss[room]?=some (dss[room]'(by lia)):=aj _;have kl:ls[room]?=some (ls[room]'(by rw[r9.len];lia)):=aj _;generalize dss[room]'(by lia)=ds at kd;generalize ls[room]'(by rw[r9.len];lia)=lr at kl;have r3:=r9.same S3;have al:=r3.at_ room lr ds kl kd;refine⟨_,hr,rfl,_,_,rfl,_,_,rfl,rfl,_,rfl,_,rfl,D1,rfl,_,_,rfl,S3 _ _ h9,_,cu (j:=room) (by rw[aq,kl];rfl),lr,rfl,_,al.1,_,rfl,.inr ⟨sm,rfl,?_⟩⟩;rw[ak];have em:3-(if sm=true then(1:Int)else 0)=(vN sm:Nat):=by cases sm<;>decide
    rw[em];by_cases hm:ds.length<vN sm
    .rw[ZY (Zs (by lia))];have lin:=aB kl;have nD:D1≠lr:=λz=>nd (by rw[z];exact lin);have n6:lr≠p6:=by
      obtain⟨zs,hz⟩:=rl.lists lr lin;exact bH (Same.upd g5 _ _ (S2 _ _ hz)) g6
     have nl:lp∉ls:=λz=>by
      obtain⟨zs,hz⟩:=r9.lists lp z;rw[hz]at flp;cases flp
     have dd:=DD.off r3.lists nl hd hp y0 g hlp hpi hdr (afT y0 hdr.pos hy9 hS9);have r4:=r3.put kl kd hm dd;rw[bA]at r4;have z9:1000<sizeLine:=by decide
     have m3:vN sm<=3:=by cases sm<;>decide
     refine⟨_,rfl,_,rfl,D1,rfl,_,_,rfl,S3 _ _ h9,_,cu (j:=room) (by rw[aq,kl];rfl),lr,rfl,⟨_,al.1⟩,_,rfl,_,al.1,by rw[ak];lia,(bK n6.symm).trans (S3 _ _ hp6),_,_,_,dss.set room (ds++[d]),rfl,λb o e=>(bK (λz=>?_)).trans (S3 _ _ (S9 _ _ e)),(bK nD).trans (S3 _ _ h9),by rw[List.length_set];exact ld,r4⟩;rw[z,r9.new lr lin]at e;cases e
    .rw[ZZ (by simp;exact Nat.le_of_not_lt hm)];exact⟨S3 _ _ hp6,_,_,_,dss,rfl,S9.trans S3,S3 _ _ h9,ld,r3⟩
   .rintro σ' H' ⟨u7,u8,u9,dss,rfl,S9,h9,ld,r9⟩ _;exact fin _ _ _ _ _ dss H' S9 h9 ld r9
theorem WF.keys{H:Hp} : ∀{xs:Μ}{gs:List (Str×Int×Int)}{ws:List (Str×Addr)},WF K H xs gs ws->ws.map (·.1)=gs.map (·.1)
 |_,_,_,.nil=>rfl
 |_,_,_,.cons _ _ r=>by rw[List.map_cons,List.map_cons,r.keys]
theorem YT{ns:Β}{rs:List Nat}(h:∀r∈rs,r<ns.length):∃nms,Cq ns rs nms:=by
 refine⟨rs.map λr=>(ns[r]?).getD Str.empty,ak ..,λk r m e1 e2=>?_⟩;rw[aq,e1,Option.map_some,aj (h r (aB e1))]at e2;cases e2;exact aj _
structure Ay(K:Frag)(n:Nat)(B:Int)(ns:Β)(H H':Hp)(d:Addr)(g:Dr):Prop where
 ex:∃(p lp:Addr)(so x y S:Int)(rs:List Nat)(ws:List Int)(ps xs:Μ)(nms:Β),H d=some (.tup [.int so,.ref p,.ref lp])/\H p=some (.tup [.int x,.int y])/\0<y/\acX x y/\H lp=some (.lst ps)/\PI H ps rs ws S/\(vK n so rs ws S/\y*S<=B)/\Cq ns rs nms/\g.p=p/\WF K H' xs (Ac.ways (nms.zip ws) S) g.ws
theorem Ay.on{n:Nat}{B:Int}{ns:Β}{H H' H2:Hp}{d:Addr}{g:Dr}(S:Same H' H2)(h:Ay K n B ns H H' d g):Ay K n B ns H H2 d g:=by
 obtain⟨p,lp,so,x,y,S',rs,ws,ps,xs,nms,a1,a2,a3,a4,a5,a6,a7,a8,a9,b⟩:=h.ex;exact⟨p,lp,so,x,y,S',rs,ws,ps,xs,nms,a1,a2,a3,a4,a5,a6,a7,a8,a9,b.same S⟩
theorem Ay.up{n:Nat}{B:Int}{ns:Β}{H H' H2:Hp}{d:Addr}{g:Dr}(S:Same H H2)(h:Ay K n B ns H H' d g):Ay K n B ns H2 H' d g:=by
 obtain⟨p,lp,so,x,y,S',rs,ws,ps,xs,nms,a1,a2,a3,a4,a5,a6,a7,a8,a9,b⟩:=h.ex;exact⟨p,lp,so,x,y,S',rs,ws,ps,xs,nms,S _ _ a1,S _ _ a2,a3,a4,S _ _ a5,a6.same S,a7,a8,a9,b⟩
theorem Ay.few{n:Nat}{B:Int}{ns:Β}{H H':Hp}{d:Addr}{g:Dr}(h:Ay K n B ns H H' d g):g.ws.length<=8/\∀z∈g.ws,z.1∈ns:=by
 obtain⟨p,lp,so,x,y,S',rs,ws,ps,xs,nms,a1,a2,a3,a4,a5,a6,a7,a8,a9,b⟩:=h.ex;have lo:∀z∈nms.zip ws,0<=z.2:=λz hz=>a7.1.lo _ (List.of_mem_zip (a:=z.1) (b:=z.2) hz).2;have k:=b.keys;constructor
 .have e1:=ZH List.length k;rw[ak,ak]at e1;have e2:=Ac.abF lo S';have e3:(nms.zip ws).length<=nms.length:=by rw[List.length_zip];exact Nat.min_le_left _ _
  have:=a8.1;have:=a7.1.l8;lia
 .intro z hz;have hz:=List.mem_map_of_mem (f:=(·.1)) hz;rw[k]at hz;obtain⟨v,hv,e⟩:=YV.mp hz;have hv:=Ac.abT hv;obtain⟨u,hu,e'⟩:=YV.mp hv;have hu:=(List.of_mem_zip (a:=u.1) (b:=u.2) hu).1;rw[<- e,<- e'];obtain⟨j,hj⟩:=aW hu;have lj:j<rs.length:=by rw[<- a8.1];exact(ao.mp hj).1
  exact aB (a8.2 j _ _ (aj lj) hj)
structure yw(K:Frag)(n:Nat)(B:Int)(ns:Β)(H H':Hp)(ds:Ε)(gs:List Dr):Prop where
 len:gs.length=ds.length
 at_:∀(j:Nat)(d:Addr)(g:Dr),ds[j]?=some d->gs[j]?=some g->Ay K n B ns H H' d g
theorem yw.on{n:Nat}{B:Int}{ns:Β}{H H' H2:Hp}{ds:Ε}{gs:List Dr}(S:Same H' H2)(h:yw K n B ns H H' ds gs):yw K n B ns H H2 ds gs:=⟨h.len,λj d g e1 e2=>(h.at_ j d g e1 e2).on S⟩
theorem yw.up{n:Nat}{B:Int}{ns:Β}{H H' H2:Hp}{ds:Ε}{gs:List Dr}(S:Same H H2)(h:yw K n B ns H H' ds gs):yw K n B ns H2 H' ds gs:=⟨h.len,λj d g e1 e2=>(h.at_ j d g e1 e2).up S⟩
theorem yw.mem{n:Nat}{B:Int}{ns:Β}{H H':Hp}{ds:Ε}{gs:List Dr}(h:yw K n B ns H H' ds gs){g:Dr}(hg:g∈gs):∃d,Ay K n B ns H H' d g:=by
 obtain⟨j,hj⟩:=aW hg;have lj:j<ds.length:=by rw[<- h.len];exact(ao.mp hj).1
 exact⟨_,h.at_ j _ g (aj lj) hj⟩
theorem yw.snoc{n:Nat}{B:Int}{ns:Β}{H H':Hp}{ds:Ε}{gs:List Dr}{d:Addr}{g:Dr}(h:yw K n B ns H H' ds gs)(hd:Ay K n B ns H H' d g):yw K n B ns H H' (ds++[d]) (gs++[g]):=by
 have l:=h.len;refine⟨by rw[aA,aA,l];rfl,λj d' g' e1 e2=>?_⟩;rcases eZ e1 with⟨a,b⟩|⟨a,b⟩<;>rcases eZ e2 with⟨c,e⟩|⟨c,e⟩
 .exact h.at_ j d' g' b e
 .lia
 .lia
 .subst b;subst e;exact hd
theorem zN.snoc{H:Hp}{xs:Μ}{gs:List Dr}{s:Addr}{g:Dr}(h:zN D H xs gs)(hs:aaQ D H s g):zN D H (xs++[.ref s]) (gs++[g]):=by
 have l:=h.len;refine⟨by rw[aA,aA,l];rfl,λk g' e=>?_⟩;rcases eZ e with⟨a,b⟩|⟨a,b⟩
 .obtain⟨s',c,d⟩:=h.at_ k g' b;exact⟨s',by rw[aD (by lia)];exact c,d⟩
 .subst b;exact⟨s,by rw[aC (by lia),l,a,Nat.sub_self];rfl,hs⟩
theorem pB.snoc{H:Hp}{xs ys:Μ}{rms:List (Str×List Dr)}{t l:Addr}{g:Str×List Dr}(h:pB D H xs rms)(ht:H t=some (.tup [.str g.1,.ref l]))(hl:H l=some (.lst ys))(hd:zN D H ys g.2):pB D H (xs++[.ref t]) (rms++[g]):=by
 have le:=h.len;refine⟨by rw[aA,aA,le];rfl,λk g' e=>?_⟩;rcases eZ e with⟨a,b⟩|⟨a,b⟩
 .obtain⟨t',l',ys',c,d⟩:=h.at_ k g' b;exact⟨t',l',ys',by rw[aD (by lia)];exact c,d⟩
 .subst b;exact⟨t,l,ys,by rw[aC (by lia),le,a,Nat.sub_self];rfl,ht,hl,hd⟩
structure abh(K:Frag)(n:Nat)(B:Int)(H:Hp)(dss:List (Ε))(rms:List (Str×List Dr)):Prop where
 len:rms.length=dss.length
 at_:∀(j:Nat)(ds:Ε)(g:Str×List Dr),dss[j]?=some ds->rms[j]?=some g->yw K n B (rms.map (·.1)) H H ds g.2
theorem afG{so:Int}(s0:0<=so)(s3:so<=3):fW D (clsOf D so):=by
 unfold fW;obtain rfl|rfl|rfl|rfl:so=0\/so=1\/so=2\/so=3:=by lia
 all_goals simp[clsOf]
theorem BK{as:Ε}{H:Hp}(hls:∀l∈as,∃zs,H l=some (.lst zs)){b:Addr}{u:HO}(nu:∀zs,u≠.lst zs)(e:H b=some u):del as H b=some u:=gK (λz=>by
 obtain⟨zs,hz⟩:=hls b z;rw[hz]at e;injection e with e;exact nu zs e.symm) e
theorem WF.off{as:Ε}{H:Hp}(hls:∀l∈as,∃zs,H l=some (.lst zs)){xs:Μ}{gs:List (Str×Int×Int)}{ws:List (Str×Addr)}(h:WF K H xs gs ws):WF K (del as H) xs gs ws:=by
 refine h.imp (λt ys e=>BK hls (by intro z y;cases y) e) λc xs e=>?_;rcases e with(e|⟨o,e⟩)|e
 .exact .inl (.inl (BK hls (by intro z y;cases y) e))
 .exact .inl (.inr ⟨o,BK hls (by intro z y;cases y) e⟩)
 .exact .inr e
inductive Lj(K:Frag)(D:Adr)(vs:Μ)(H:Hp)(Q:VK):Prop
 |mk (c x y:Int) (p r:Addr) (xs:Μ) (dss:List (Ε)) (n m:Nat) (B:Int) (h0:vs=[.int c,.ref p,.ref r]) (h1:H p=some (.tup [.int x,.int y])) (h2:0<=x) (h3:x<y) (h4:y<=100) (h5:Int.gcd x y=1) (h6:H r=some (.lst xs)) (h7:RD n B H xs dss) (h8:dss.length=n) (h9:n<=12) (h10:m<=12) (h11:(∀ds∈dss,ds.length<=m)) (h12:∀(o:Addr)(H':Hp)(rms:List (Str×List Dr)),Same H H'->H o=none->pG D H' o p rms->Wm rms->abh K n B H' dss rms->Q (.ref o) H'):Lj K D vs H Q
def M5(K:Frag)(D:Adr):Sp:=λvs H Q _=>Lj K D vs H Q
def hlJ(K:Frag)(D:Adr)(σ0:List (Option V))(D1:Addr)(n:Nat)(B:Int)(ns:Β)(dss:List (Ε))(H H1:Hp)(k:Nat)(σ:L2.St)(H':Hp):Prop:=∃(u5 u6:Option V)(zs:Μ)(rms:List (Str×List Dr)),σ=σ0++[u5,u6]/\Same H1 H'/\H' D1=some (.lst zs)/\pB D (del [D1] H') zs rms/\rms.map (·.1)=ns.take k/\(∀g∈rms,(g.2.map (·.nm)).Nodup)/\∀(j:Nat)(ds:Ε)(g:Str×List Dr),dss[j]?=some ds->rms[j]?=some g->yw K n B ns H (del [D1] H') ds g.2
def dlJ(K:Frag)(D:Adr)(D1 D2:Addr)(n:Nat)(B:Int)(ns ts:Β)(ds:Ε)(H H1:Hp)(k:Nat)(zs:Μ)(H':Hp):Prop:=∃gs:List Dr,Same H1 H'/\H' D2=some (.lst zs)/\zN D (del [D1,D2] H') zs gs/\gs.map (·.nm)=ts.take k/\yw K n B ns H (del [D1,D2] H') (ds.take k) gs
theorem acL(F:Fun K Bf Bf PN f fd)(T:Txt K mg D)(Gp:OkF P w K mg base 2 wO vZ Iu)(N7:OkF P w K mg base 8 v8 w6 (Hr K D))(QC:OkI P w K mg base (CXO P w) 4 D.Hall_init oO (vD K D)):cF P w K mg base CX0 9 f fd BJ (M5 K D):=by
 refine F.ok BW ?_ ?_
 .rintro _ _ _ _ ⟨c,x,y,p,r,xs,dss,n,m,B,rfl,_⟩;rfl
 .rintro cdv A outer s H _ Q E hr ⟨c,x,y,p,r,xs,dss,n,m,B,rfl,hp,x0,xy,y1,gx,hrm,rd,ln,n12,m12,hm,q⟩;refine⟨_,(bL (cj (i:=3) BW.nd rfl (Or.inr rfl) (bO Gp hr.md (by rfl) (bD (pv 0) (bD (b_ dw (by rfl) T.iH PySem.boot_len (bD (pv 2) bF)) bF))))
   (bL (cj (i:=4) BW.nd rfl (Or.inl rfl) (o9 bF))
   (bL (iR PassesOwn.never rfl (j_ (by rfl) T.qw (bD (b_ dw (by rfl) T.iH PySem.boot_len (bD (pv 2) bF)) bF).mono) (cM (i:=5) BW.nd rfl (Or.inl rfl))
    (bL (cj (i:=6) BW.nd rfl (Or.inl rfl) (bO Gp hr.md (by rfl) (bD (bU dW (pv 0) (pv 5)) (bD (b_ dw (by rfl) T.iH PySem.boot_len (bD (bQ bY (pv 2) (pv 5) (λ_ _=>rfl)) bF)) bF))))
    (bM (dD (rH (pv 4) (bD (mO (bD (bQ bY (pv 3) (pv 5) (λ_ _=>rfl)) (bD (iY (bN PN) Uw Uw ["_law_title","_law_door_here"] (DP (by rfl) T.Lz (bD (pv 6) (bD (bQ bY (pv 2) (pv 5) (λ_ _=>rfl)) bF)).mono) (fV (n:=2) rfl (cD (d7 (i:=0)) (cD (d7 (i:=1)) fL))) dz (bO N7 hr.md (by rfl) (bD (pv 0) (bD (pv 1) (bD (pv 5) bF))))) bF))) bF))))))
   (bM (cg (wz T.acj QC hr.md (by rfl) T.afF Dc (bD (pv 1) (bD (pv 4) bF)))))))),?_⟩
  have lx:xs.length=n:=by rw[rd.len,ln]
  have z9:100<sizeLine:=by decide
  refine cC ⟨_,rfl,_,rfl,r,xs,rfl,hrm,c,n,by rw[lx],n12,λl0 ns H1 S1 f0 hl0 lns wns nns=>cC ⟨bw _,λD1 hD1=>cT (zu ?_)⟩⟩;refine⟨_,rfl,r,xs,rfl,(bK (bH (S1 _ _ hrm) hD1)).trans (S1 _ _ hrm),n,by rw[lx],by exact Y2 n12 (by decide),hlJ K D [some (.int c),some (.ref p),some (.ref r),some (.ref l0),some (.ref D1)] D1 n B ns dss H H1,⟨none,none,[],[],rfl,Same.upd hD1,bI,⟨rfl,λk g e=>by simp at e⟩,rfl,by simp,λj ds g _ e=>by simp at e⟩,?_,?_⟩
  .rintro k σ' H' hk ⟨u5,u6,zs,rms,rfl,S2,hD,hR,hn,hd,hi⟩;have ed:dss[k]?=some (dss[k]'(by lia)):=aj _;have em:=aV (l:=dss) (n:=k) (by lia);have en:ns[k]?=some (ns[k]'(by lia)):=aj _;generalize dss[k]'(by lia)=ds at ed em;generalize ns[k]'(by lia)=nk at en;have dm:=hm ds em;obtain⟨lk,ek,hlk,dd⟩:=rd.at_ k ds ed;have SH:=S1.trans S2;refine⟨_,rfl,_,rfl,_,_,rfl,rfl,_,rfl,_,rfl,_,_,_,_,rfl,rfl,SH _ _ hrm,cu ek,lk,_,rfl,SH _ _ hlk,_,ds.length,by rw[ak],by exact aM dm m12,λl1 ts H3 S3 f3 hl3 lts wts nts=>⟨_,rfl,D1,_,rfl,S3 _ _ hD,_,rfl,_,rfl,_,_,_,_,rfl,rfl,S3 _ _ (S2 _ _ hl0),cu (by rw[aq,en];rfl),S_ (uL ?_)⟩⟩;have SH3:=SH.trans S3;have S13:=S2.trans S3;refine⟨_,rfl,_,rfl,_,rfl,_,_,_,_,rfl,rfl,SH3 _ _ hrm,cu ek,l1,lk,_,_,rfl,hl3,SH3 _ _ hlk,by rw[ak,ak,lts],by rw[ak];lia,λD2 hD2=>⟨dlJ K D D1 D2 n B ns ts ds H H3,⟨[],Same.upd hD2,bI,⟨rfl,λk g e=>by simp at e⟩,rfl,⟨rfl,λj d g _ e=>by simp at e⟩⟩,?_,?_⟩⟩
   .rintro j xv yv zs2 Hc t hx hy ⟨gs,S5,h5,dr,gn,ri⟩ hz ht ha hb pre hpre;obtain⟨u1,u2,rfl⟩:=Aj hpre;rw[aq]at hx hy;have lj:j<ds.length:=by
     by_cases z:j<ds.length
     .exact z
     .rw[List.getElem?_eq_none (Nat.le_of_not_lt z)]at hy;cases hy
    have e1:ts[j]?=some (ts[j]'(by lia)):=aj _;have e2:ds[j]?=some ds[j]:=aj _;rw[e1]at hx;rw[e2]at hy;cases hx;cases hy;generalize ts[j]'(by lia)=tj at e1 ⊢;generalize ds[j]=d at e2 ⊢;obtain⟨p1,lp,so,x1,y2,S',rs,ws,ps,a1,a2,a3,a4,a5,a6,a7⟩:=(dd d (aB e2)).ex;obtain⟨nms,no⟩:=YT (ns:=ns) (rs:=rs) λr hr=>by rw[lns];exact a7.1.lt r hr
    have SHc:Same H Hc:=SH3.trans S5;have SU:=SHc.trans (Same.upd ht (o:=.tup [.str tj,.ref d]));have hl0c:=Same.upd ht (o:=.tup [.str tj,.ref d]) _ _ (S5 _ _ (S13 _ _ hl0));refine⟨_,_,rfl,bI,rfl,⟨_,_,rfl,_,_,rfl,rfl,[_,_],rfl,rfl,⟨_,rfl,_,rfl,_,rfl,so,d,l0,lp,p1,tj,x1,y2,S',rs,ws,ps,ns,nms,rfl,SU _ _ a1,wts _ (aB e1),⟨.inl (.inl (SU _ _ a2)),a3,a4.gcd⟩,SU _ _ a5,a6.same SU,hl0c,no,a7.1.drawn no wns,λH4 s ld ys us S6 fs fld d1=>?_⟩⟩⟩;have S7:Same Hc H4:=(Same.upd ht).trans S6;have hD4:H4 D1=some (.lst zs):=S7 _ _ (S5 _ _ (S3 _ _ hD));have h54:=S7 _ _ h5;have hls:∀l∈[D1,D2],∃zs,H4 l=some (.lst zs):=λl hl=>by
     simp only[YU,List.not_mem_nil,or_false]at hl;rcases hl with rfl|rfl
     .exact⟨_,hD4⟩
     .exact⟨_,h54⟩
    have nw:∀b,upd Hc t (.tup [.str tj,.ref d]) b=none->b∉[D1,D2]:=λb hb z=>by
     simp only[YU,List.not_mem_nil,or_false]at z;rcases z with rfl|rfl
     .rw[Same.upd ht _ _ (S5 _ _ (S3 _ _ hD))]at hb;cases hb
     .rw[Same.upd ht _ _ h5]at hb;cases hb
    obtain⟨dx,hs⟩:=d1.at_;have wo:=d1.wf.off hls;have st:Same (del [D1,D2] Hc) (del [D1,D2] H4):=lM λb o _ e=>S7 _ _ e;have di:Ay K n B ns H (del [D1,D2] H4) d ⟨tj,p1,us⟩:=⟨p1,lp,so,x1,y2,S',rs,ws,ps,ys,nms,a1,a2,a3,a4,a5,a6,a7,no,rfl,wo⟩;refine⟨h54,S7 _ _ ha,S7 _ _ hb,gs++[⟨tj,p1,us⟩],λb u e=>(bK (bH e hD2)).trans (S7 _ _ (S5 _ _ e)),bI,?_,?_,?_⟩
    .rw[pP (by simp)];exact(dr.same st).snoc ⟨clsOf D so,dx,ld,ys,afG a7.1.s0 a7.1.s3,gK (nw _ fs) hs,gK (nw _ fld) d1.hl,wo.ways,aM di.few.1 (by decide)⟩
    .rw[bA,gn,cB e1];rfl
    .rw[pP (by simp),cB e2];exact(ri.on st).snoc di
   .rintro zs2 Hc ⟨gs,S5,h5,dr,gn,ri⟩ hz;rw[ak,aK (aF _)]at gn;rw[ak,aK (Nat.le_of_eq (Eq.symm lts))]at ri;have rk:rms.length=k:=by
     have:=ZH List.length hn;rw[ak,bh]at this;lia
    have zl:=hR.len;have hDc:Hc D1=some (.lst zs):=S5 _ _ (S3 _ _ hD);have n12':D1≠D2:=bH (S3 _ _ hD) hD2;refine⟨d8,λt2 g2=>?_⟩;have n1:D1≠t2:=bH hDc g2;have st:Same (del [D1] H') (del [D1] (upd Hc t2 (.tup [.str nk,.ref D2]))):=lM λb o _ e=>Same.upd g2 _ _ (S5 _ _ (S3 _ _ e));have s2:Same (del [D1,D2] Hc) (del [D1] (upd Hc t2 (.tup [.str nk,.ref D2]))):=λb o e=>by
     obtain⟨a,e⟩:=tU e;exact gK (by simp at a ⊢;exact a.1) (Same.upd g2 _ _ e)
    refine⟨_,zs,rfl,(bK n1).trans hDc,by lia,some (.int k),some (.ref l1),zs++[.ref t2],rms++[(nk,gs)],rfl,λb u e=>(bK (bH e hD1)).trans (Same.upd g2 _ _ (S5 _ _ (S13 _ _ e))),bI,?_,?_,?_,?_⟩
    .rw[pP (by simp)];exact(hR.same st).snoc (gK (by simp;exact n1.symm) bI) (gK (by simp;exact n12'.symm) ((bK (bH h5 g2)).trans h5)) (dr.same s2)
    .rw[bA,hn,cB en];rfl
    .intro g hg;rcases Y1.mp hg with hg|hg
     .exact hd g hg
     .rw[YR.mp hg,gn];exact nts
    .intro j ds' g h1 h2;rw[pP (by simp)];rcases eZ h2 with⟨_,b⟩|⟨a,rfl⟩
     .exact(hi j ds' g h1 b).on st
     .rw[a,rk,ed]at h1;cases h1;exact ri.on s2
  .rintro σ' H' ⟨u5,u6,zs,rms,rfl,S2,hD,hR,hn,hd,hi⟩;refine⟨_,rfl,_,rfl,λo dx g1 g2 g3=>?_⟩;have SM:Same H' (upd (upd H' dx (.own o)) o (.ins D.Hall dx [])):=λb u e=>by rw[bK (bH e g1),bK (bH e g2)];exact e
   have SH:=S1.trans S2;rw[aK (Nat.le_of_eq lns)]at hn;have rl:rms.length=n:=by rw[<- lns,<- hn,ak]
   have ri:∀g∈rms,∃ds∈dss,yw K n B ns H (del [D1] H') ds g.2:=λg hg=>by
    obtain⟨j,hj⟩:=aW hg;have lj:j<dss.length:=by have:=(ao.mp hj).1;lia
    exact⟨_,aV lj,hi j _ g (aj lj) hj⟩
   have ok:Wm rms:=by
    refine⟨by lia,by rw[hn];exact nns,λg hg=>wns _ (by rw[<- hn];exact List.mem_map_of_mem hg),λg hg=>?_,hd,λg hg d hd' z hz=>?_⟩
    .obtain⟨ds,h1,h2⟩:=ri g hg;have:=hm ds h1;have:=h2.len;lia
    .obtain⟨ds,h1,h2⟩:=ri g hg;obtain⟨_,h3⟩:=h2.mem hd';rw[hn];exact h3.few.2 z hz
   refine⟨o,dx,p,D1,x,y,zs,rms,rfl,bI,⟨.inl (.inl (SM _ _ (SH _ _ hp))),by exact Int.lt_of_le_of_lt x0 xy,gx⟩,x0,xy,Bd.sm (by lia),Bd.sm (by omega),SM _ _ hD,(hR.same jq).same SM,ok,λH5 kp hh=>⟨rfl,?_⟩⟩;have SS:Same H' H5:=λb u e=>kp b u (bH e g1) (SM b u e);refine q o H5 rms (SH.trans SS) (Same.free SH g1) hh ok ⟨by rw[rl,ln],λj ds g h1 h2=>?_⟩;rw[hn];exact((hi j ds g h1 h2).on (jq.trans SS)).up (SH.trans SS)
noncomputable def wsum(gs:List (Str×Int))(h:Str->Rat):Rat:=(gs.map λg=>(g.2:Rat)*h g.1).sum
theorem pF{g:Str×Int}{gs:List (Str×Int)}{h:Str->Rat} : wsum (g::gs) h=(g.2:Rat)*h g.1+wsum gs h:=rfl
theorem aeu{a:Str×Int}{as:List (Str×Int)}{r:Str}{y:Int}(n:a.1≠r):Ac.put (a::as) r y=a::Ac.put as r y:=by
 unfold Ac.put;rw[List.any_cons,Zp n,Bool.false_or];split
 .rw[List.map_cons,ZZ n]
 .rfl
theorem afs{a:Str×Int}{as:List (Str×Int)}{r:Str}{y:Int}(e:a.1=r)(n:r∉as.map (·.1)):Ac.put (a::as) r y=(a.1,y)::as:=by
 unfold Ac.put;rw[List.any_cons,Zs e,Bool.true_or,ZY rfl,List.map_cons,ZY e]
 congr 1
 have:as.map (λg=>if g.1=r then(g.1,y)else g)=as.map id:=List.map_congr_left λg hg=>ZZ λ(z:g.1=r)=>n (YV.mpr ⟨g,hg,z⟩);rw[this,List.map_id]
theorem acW{a:Str×Int}{as:List (Str×Int)}{r:Str}(n:a.1≠r):Ac.look (a::as) r=Ac.look as r:=by
 unfold Ac.look;rw[List.find?_cons,Zp n]
theorem ab3{a:Str×Int}{as:List (Str×Int)}{r:Str}(e:a.1=r):Ac.look (a::as) r=a.2:=by
 unfold Ac.look;rw[List.find?_cons,Zs e];rfl
theorem RB{h:Str->Rat}{r:Str}{y:Int} : ∀{as:List (Str×Int)},(as.map (·.1)).Nodup->wsum (Ac.put as r y) h=wsum as h+((y:Rat)-(Ac.look as r:Rat))*h r
 |[],_=>by
  show(y:Rat)*h r+0=0+((y:Rat)-((0:Int):Rat))*h r;rw[Rat.intCast_zero]
  grind
 |a::as,nd=>by
  rw[List.map_cons,List.nodup_cons]at nd;by_cases e:a.1=r
  .rw[afs e (e ▸ nd.1),ab3 e,pF,pF,e]
   grind
  .rw[aeu e,acW e,pF,pF,RB nd.2]
   grind
theorem Lw{h:Str->Rat} : ∀{gs acc:List (Str×Int)},(acc.map (·.1)).Nodup->wsum (gs.foldl (λa g=>Ac.put a g.1 (Ac.look a g.1+g.2)) acc) h=wsum acc h+wsum gs h
 |[],acc,_=>by
  show wsum acc h=wsum acc h+0;rw[Rat.add_zero]
 |g::gs,acc,nd=>by
  rw[List.foldl_cons,Lw (Ac.Zj nd _ _),RB nd,pF,Rat.intCast_add]
  grind
theorem Yq{h:Str->Rat}{gs:List (Str×Int)} : wsum (Ac.jU gs) h=wsum gs h:=by
 have:=Lw (h:=h) (gs:=gs) (acc:=[]) List.nodup_nil;have z:wsum [] h=0:=rfl;rw[z,Rat.zero_add]at this;exact this
theorem aef{t b:Int}(hb:0<b):vl (Ac.lw t b)=(t:Rat)/(b:Rat):=W7 (y:=(t,b)) (Ac.lB hb) hb (Ac.Dg hb)
noncomputable def uf(ns:Β)(gs:List (Str×Int))(S:Int):Θ:=(Ac.ways gs S).map λg=>(ns.idxOf g.1,g.2)
theorem QM{ns:Β}{S:Int}(hS:0<S){G:Nat->Rat} : ∀{acc:List (Str×Int)},(∀g∈acc,0<=g.2)->mL (((acc.filter λg=>decide (0<g.2)).map λg=>(g.1,Ac.lw g.2 S)).map λg=>(ns.idxOf g.1,g.2)) G=wsum acc (λn=>G (ns.idxOf n))/(S:Rat)
 |[],_=>by
  show(0:Rat)=0/(S:Rat)
  grind
 |a::acc,h=>by
  have ih:=QM (ns:=ns) hS (G:=G) (acc:=acc) λg hg=>h g (aH _ hg);have a0:=h a aO;have:=fM hS;rw[pF,List.filter_cons];by_cases e:0<a.2
  .rw[ZY (Zs e),List.map_cons,List.map_cons];show vl (Ac.lw a.2 S)*G (ns.idxOf a.1)+mL _ G=_;rw[ih,aef hS]
   grind
  .rw[ZZ (by simp[e]),ih];have z:a.2=0:=by lia
   rw[z,Rat.intCast_zero]
   grind
theorem Zw{ns:Β}{gs:List (Str×Int)}{S:Int}(hS:0<S)(lo:∀g∈gs,0<=g.2){G:Nat->Rat} : mL (uf ns gs S) G=wsum gs (λn=>G (ns.idxOf n))/(S:Rat):=by
 unfold uf Ac.ways;rw[QM hS λg hg=>((Ac.xK gs lo).2.2 g hg).1,Yq]
noncomputable def E_(rs:List Nat)(ws:List Int)(S:Int):Θ:=List.zipWith (λr x=>(r,Ac.lw x S)) rs ws
theorem aeE{ns:Β}(nd:ns.Nodup){r:Nat}{m:Str}(h:ns[r]?=some m):ns.idxOf m=r:=by
 have lm:ns.idxOf m<ns.length:=List.idxOf_lt_length_of_mem (aB h);have e:ns[ns.idxOf m]?=some m:=by rw[aj lm,List.getElem_idxOf lm]
 exact uz nd e h
theorem R8{ns:Β}(nd:ns.Nodup){S:Int}(hS:0<S){G:Nat->Rat} : ∀{rs:List Nat}{nms:Β}{ws:List Int},Cq ns rs nms->mL (E_ rs ws S) G=wsum (nms.zip ws) (λn=>G (ns.idxOf n))/(S:Rat)
 |[],nms,ws,h=>by
  have e:nms=[]:=List.eq_nil_of_length_eq_zero h.1;subst e;show(0:Rat)=0/(S:Rat)
  grind
 |r::rs,[],_,h=>by cases h.1
 |r::rs,m::nms,[],h=>by
  show(0:Rat)=0/(S:Rat)
  grind
 |r::rs,m::nms,x::ws,h=>by
  have ih:=R8 nd hS (G:=G) (rs:=rs) (nms:=nms) (ws:=ws) ⟨Nat.succ.inj h.1,λk r' m' e1 e2=>h.2 (k+1) r' m' e1 e2⟩;have e0:=aeE nd (h.2 0 r m rfl rfl);show vl (Ac.lw x S)*G r+mL (E_ rs ws S) G=_;rw[ih,aef hS,List.zip_cons_cons,pF,e0];have:=fM hS
  grind
structure Ez(n:Nat)(H:Hp)(d:Addr)(fc:Ι×Θ):Prop where
 ex:∃(p lp:Addr)(so S:Int)(rs:List Nat)(ws:List Int)(ps:Μ),H d=some (.tup [.int so,.ref p,.ref lp])/\H p=some (.tup [.int fc.1.1,.int fc.1.2])/\H lp=some (.lst ps)/\PI H ps rs ws S/\vK n so rs ws S/\∀G,mL fc.2 G=mL (E_ rs ws S) G
theorem Ez.same{n:Nat}{H H':Hp}{d:Addr}{fc:Ι×Θ}(h:Ez n H d fc)(S:Same H H'):Ez n H' d fc:=by
 obtain⟨p,lp,so,S',rs,ws,ps,a,b,c,e,f,g⟩:=h.ex;exact⟨p,lp,so,S',rs,ws,ps,S _ _ a,S _ _ b,S _ _ c,e.same S,f,g⟩
theorem WF.get{H:Hp} : ∀{xs:Μ}{gs:List (Str×Int×Int)}{ws:List (Str×Addr)}{k:Nat}{g:Str×Addr},WF K H xs gs ws->ws[k]?=some g->∃x,gs[k]?=some (g.1,x)/\SqT K H g.2 [.int x.1,.int x.2]
 |_,_,_,_,_,.nil,e=>by simp at e
 |_,_,_,0,_,.cons (x:=x) (y:=y) h1 h2 r,e=>by
  rw[List.getElem?_cons_zero]at e;cases e;exact⟨(x,y),rfl,h2⟩
 |_,_,_,k+1,_,.cons h1 h2 r,e=>by
  rw[List.getElem?_cons_succ]at e ⊢;exact r.get e
theorem WF.len2{H:Hp} : ∀{xs:Μ}{gs:List (Str×Int×Int)}{ws:List (Str×Addr)},WF K H xs gs ws->ws.length=gs.length
 |_,_,_,.nil=>rfl
 |_,_,_,.cons _ _ r=>ZH (· + 1) r.len2
structure Jp(B:Int)(fc:Ι×Θ):Prop where
 f0:0<fc.1.2
 big:fc.1.1.natAbs<=10^30
 few:fc.2.length<=41
 ex:∃M:Nat,0<M/\(M:Int)<=B/\fc.1.2 ∣ (M:Int)/\∀c∈fc.2,0<c.2.2/\c.2.2 ∣ (M:Int)/\0<=c.2.1/\c.2.1<=c.2.2
theorem ahT{u S:Int}(hS:0<S)(u0:0<=u)(u1:u<=S):0<=(Ac.lw u S).1/\(Ac.lw u S).1<=(Ac.lw u S).2:=by
 have p:=Ac.lB (t:=u) hS;have e:=Ac.Dg (t:=u) hS;generalize(Ac.lw u S).1=x at *;generalize(Ac.lw u S).2=y at *;constructor
 .refine Int.not_lt.mp λz=>?_;have h1:x*S<0:=Int.mul_neg_of_neg_of_pos z hS;have h2:0<=u*y:=Int.mul_nonneg u0 (XZ p);lia
 .refine Int.not_lt.mp λz=>?_;have h1:y*S<x*S:=Int.mul_lt_mul_of_pos_right z hS;have h2:u*y<=S*y:=Int.mul_le_mul_of_nonneg_right u1 (XZ p);have h3:S*y=y*S:=Int.mul_comm ..;lia
theorem Ay.fc{n:Nat}{B:Int}{ns:Β}{H:Hp}{d:Addr}{g:Dr}(h:Ay K n B ns H H d g)(nd:ns.Nodup)(ln:ns.length=n):∃fc:Ι×Θ,DrN K H ns g fc.1 fc.2/\Fo n fc.1 fc.2/\Ez n H d fc/\Jp B fc:=by
 have few:=h.few;obtain⟨p,lp,so,x,y,S,rs,ws,ps,xs,nms,a1,a2,a3,a4,a5,a6,⟨a7,hyS⟩,a8,a9,b⟩:=h.ex;have lo:∀z∈nms.zip ws,0<=z.2:=λz hz=>a7.lo _ (List.of_mem_zip (a:=z.1) (b:=z.2) hz).2;have sa:=a4.sa;have sb:=a4.sb;have S0:=a7.pos;have S1:=a7.le;have wl:=b.len2;have key:∀z∈Ac.ways (nms.zip ws) S,z.1∈ns:=λz hz=>by
  have hm:z.1∈g.ws.map (·.1):=by rw[b.keys];exact List.mem_map_of_mem hz
  obtain⟨u,hu,e⟩:=YV.mp hm;rw[<- e];exact few.2 u hu
 have fr:∀z∈Ac.ways (nms.zip ws) S,Fq z.2/\z.2.2 ∣ S/\0<=z.2.1/\z.2.1<=z.2.2:=λz hz=>by
  unfold Ac.ways at hz;obtain⟨u,hu,rfl⟩:=YV.mp hz;obtain⟨hu1,hu2⟩:=List.mem_filter.mp hu;have q:=(Ac.xK _ lo).2.2 u hu1;have sm:((nms.zip ws).map (·.2)).sum=S:=by
   have:(nms.zip ws).map (·.2)=ws:=List.map_snd_zip (by have:=a8.1;have:=a7.len;lia);rw[this];exact a7.sum
  rw[sm]at q;have b1:=Ac.Im u.2 S;have b2:=Ac.Er u.2 S;exact⟨⟨Ac.lB S0,Ac.Al S0,by show(Ac.lw u.2 S).1.natAbs<=_;lia,by show(Ac.lw u.2 S).2.natAbs<=_;lia⟩,Int.ediv_dvd_of_dvd (Int.gcd_dvd_right u.2 S),ahT S0 q.1 q.2⟩
 refine⟨((x,y),uf ns (nms.zip ws) S),⟨by rw[a9];exact a2,by unfold uf;rw[ak,wl],λk u c e1 e2=>?_⟩,⟨⟨a3,aM sa (by decide),?_⟩,?_,λc hc=>?_,?_⟩,⟨p,lp,so,S,rs,ws,ps,a1,a2,a5,a6,a7,λG=>?_⟩,⟨a3,sa,?_,(y*S).toNat,?_,?_,?_,λc hc=>?_⟩⟩
 .obtain⟨z,ez,hz⟩:=b.get e1;unfold uf at e2;rw[aq,ez]at e2;cases e2;have lm:ns.idxOf u.1<ns.length:=List.idxOf_lt_length_of_mem (few.2 u (aB e1));exact⟨by rw[aj lm,List.getElem_idxOf lm],hz⟩
 .unfold Bn;have:(10:Nat)^40=10^3*10^37:=by decide
  show y.natAbs<=_;lia
 .unfold uf;rw[ak,<- wl];have:=few.1;exact aM this (by decide)
 .unfold uf at hc;obtain⟨z,hz,rfl⟩:=YV.mp hc;exact⟨by rw[<- ln];exact List.idxOf_lt_length_of_mem (key z hz),(fr z hz).1⟩
 .have dv:lvB (chF (uf ns (nms.zip ws) S)) ∣ S.natAbs:=Lv.Di.mpr λc hc=>by
   unfold Yt chF uf at hc;obtain⟨f,hf,rfl⟩:=YV.mp hc;obtain⟨c2,hc2,rfl⟩:=YV.mp hf;obtain⟨z,hz,rfl⟩:=YV.mp hc2;exact Int.natAbs_dvd_natAbs.mpr (fr z hz).2.1
  have le:=Nat.le_of_dvd (by lia) dv;unfold Bn;rw[XT];show lvB (chF (uf ns (nms.zip ws) S))<=_;have:(10:Nat)^20<=10^60:=by decide
  lia
 .show mL (uf ns (nms.zip ws) S) G=_;rw[Zw S0 lo,R8 nd S0 a8]
 .unfold uf;rw[ak,<- wl];have:=few.1;exact aM this (by decide)
 .have:=Xs a3 S0;lia
 .have:=Xs a3 S0;rw[Int.toNat_of_nonneg (XZ this)];exact hyS
 .have:=Xs a3 S0;rw[Int.toNat_of_nonneg (XZ this)];exact Int.dvd_mul_right _ _
 .have:=Xs a3 S0;rw[Int.toNat_of_nonneg (XZ this)];unfold uf at hc;obtain⟨z,hz,rfl⟩:=YV.mp hc;obtain⟨q1,q2,q3,q4⟩:=fr z hz;exact⟨q1.pos,Int.dvd_trans q2 (Int.dvd_mul_left _ _),q3,q4⟩
theorem vW{α β:Type} : ∀{l:List α}{P:Nat->α->β->Prop},(∀k a,l[k]?=some a->∃b,P k a b)->∃m:List β,m.length=l.length/\∀k a b,l[k]?=some a->m[k]?=some b->P k a b
 |[],_,_=>⟨[],rfl,λk a b e=>by simp at e⟩
 |a::l,P,h=>by
  obtain⟨b,hb⟩:=h 0 a rfl;obtain⟨m,lm,hm⟩:=vW (l:=l) (P:=λk=>P (k+1)) λk a e=>h (k+1) a e;refine⟨b::m,ZH (· + 1) lm,λk a' b' e1 e2=>?_⟩;cases k with
  |zero =>
   cases e1;cases e2;exact hb
  |succ k=>exact hm k a' b' e1 e2
theorem yw.fcs{n:Nat}{B:Int}{ns:Β}{H:Hp}{ds:Ε}{gs:List Dr}(h:yw K n B ns H H ds gs)(nd:ns.Nodup)(ln:ns.length=n):∃fcs:Δ,Yc K H ns n gs fcs/\fcs.length=ds.length/\∀(k:Nat)d fc,ds[k]?=some d->fcs[k]?=some fc->Ez n H d fc/\Jp B fc:=by
 obtain⟨m,lm,hm⟩:=vW (l:=ds) (P:=λk d(fc:Ι×Θ)=>∀g,gs[k]?=some g->DrN K H ns g fc.1 fc.2/\Fo n fc.1 fc.2/\Ez n H d fc/\Jp B fc) λk d e=>by
  have lk:k<gs.length:=by rw[h.len];exact(ao.mp e).1
  obtain⟨fc,p⟩:=(h.at_ k d _ e (aj lk)).fc nd ln;exact⟨fc,λg eg=>by rw[aj lk]at eg;cases eg;exact p⟩
 refine⟨m,⟨by rw[h.len,lm],λk d fc e1 e2=>?_⟩,lm,λk d fc e1 e2=>?_⟩
 .have lk:k<ds.length:=by rw[<- lm];exact(ao.mp e2).1
  obtain⟨a,b,_⟩:=hm k _ fc (aj lk) e2 d e1;exact⟨a,b⟩
 .have lk:k<gs.length:=by rw[h.len];exact(ao.mp e1).1
  exact(hm k d fc e1 e2 _ (aj lk)).2.2
structure aea(n:Nat)(H:Hp)(ds:Ε)(fcs:Δ):Prop where
 len:fcs.length=ds.length
 at_:∀(j:Nat)d fc,ds[j]?=some d->fcs[j]?=some fc->Ez n H d fc
structure Ia(H:Hp)(r:Addr)(fcss:Γ):Prop where
 ex:∃xs,H r=some (.lst xs)/\xs.length=fcss.length/\∀(k:Nat)fcs,fcss[k]?=some fcs->∃l ds,xs[k]?=some (.ref l)/\H l=some (.lst (ds.map V.ref))/\ds.length<=64/\aea fcss.length H ds fcs
theorem Ia.same{H H':Hp}{r:Addr}{fcss:Γ}(S:Same H H')(h:Ia H r fcss):Ia H' r fcss:=by
 obtain⟨xs,a,b,c⟩:=h.ex;refine⟨xs,S _ _ a,b,λk fcs e=>?_⟩;obtain⟨l,ds,d1,d2,d3,d4⟩:=c k fcs e;exact⟨l,ds,d1,S _ _ d2,d3,d4.len,λj d fc e1 e2=>(d4.at_ j d fc e1 e2).same S⟩
theorem ZC{n m:Nat}{B:Int}{H:Hp}{o p r:Addr}{x y:Int}{xs:Μ}{dss:List (Ε)}{rms:List (Str×List Dr)}(hh:pG D H o p rms)(ok:Wm rms)(hi:abh K n B H dss rms)(hp:H p=some (.tup [.int x,.int y]))(x0:0<=x)(xy:x<y)(y1:y<=100)(hr:H r=some (.lst xs))(rd:RD n B H xs dss)(ld:dss.length=n)(n12:n<=12)(dm:∀ds∈dss,ds.length<=m)(m3:m<=3) :
  ∃fcss,fcss.length=n/\uy K D H o (x,y) fcss/\Ia H r fcss/\∀fcs∈fcss,fcs.length<=m/\∀fc∈fcs,Jp B fc:=by
 have rl:rms.length=n:=by rw[hi.len,ld]
 have b:∀z:Int,0<=z->z<=100->Bn 40 z:=λz h1 h2=>by unfold Bn;lia
 have fw:∀g∈rms,∀d∈g.2,d.ws.length<=100:=λg hg d hd=>by
  obtain⟨j,hj⟩:=aW hg;have lj:j<dss.length:=by rw[<- hi.len];exact(ao.mp hj).1
  obtain⟨_,z⟩:=(hi.at_ j _ g (aj lj) hj).mem hd;exact aM z.few.1 (by decide)
 obtain⟨fcss,fl,hf⟩:=vW (l:=rms) (P:=λk g(fcs:Δ)=>Yc K H (rms.map (·.1)) n g.2 fcs/\(∃l ds,xs[k]?=some (.ref l)/\H l=some (.lst (ds.map V.ref))/\ds.length<=64/\aea n H ds fcs)/\fcs.length<=m/\∀fc∈fcs,Jp B fc) λk g eg=>by
  have lk:k<n:=by rw[<- rl];exact(ao.mp eg).1
  have ed:dss[k]?=some (dss[k]'(by lia)):=aj _;have ri:=hi.at_ k _ _ ed eg;obtain⟨l,a1,a2,_⟩:=rd.at_ k _ ed;obtain⟨fcs,d1,d2,d3⟩:=ri.fcs ok.nd (by rw[ak,rl]);have dl:=dm _ (aB ed);refine⟨fcs,d1,⟨l,_,a1,a2,by lia,d2,λj d fc e1 e2=>(d3 j d fc e1 e2).1⟩,by exact aM (Nat.le_of_eq d2) dl,λfc hfc=>?_⟩;obtain⟨j,ej⟩:=aW hfc;have lj:j<(dss[k]'(by lia)).length:=by rw[<- d2];exact(ao.mp ej).1
  exact(d3 j _ fc (aj lj) ej).2
 have fn:fcss.length=n:=by rw[fl,rl]
 refine⟨fcss,fn,⟨⟨p,rms,hh,⟨ok.len,ok.few,fw⟩,ok.nd,hp,by rw[fl],λk g fcs e1 e2=>by rw[fn];exact(hf k g fcs e1 e2).1⟩,by show 0<y;exact Int.lt_of_le_of_lt x0 xy,b _ x0 (by show x<=100;exact Int.le_trans (XZ xy) y1),b _ (by show 0<=y;exact Int.le_trans x0 (XZ xy)) y1,by exact aM (Nat.le_of_eq fn) n12⟩,⟨xs,hr,by rw[rd.len,ld,fn],λk fcs e=>?_⟩,λfcs hfc=>?_⟩
 .have lk:k<rms.length:=by rw[<- fl];exact(ao.mp e).1
  rw[fn];exact(hf k _ fcs (aj lk) e).2.1
 .obtain⟨k,e⟩:=aW hfc;have lk:k<rms.length:=by rw[<- fl];exact(ao.mp e).1
  exact(hf k _ fcs (aj lk) e).2.2
theorem VJ{B:Int} : ∀(l:Δ),(∀fc∈l,Jp B fc)->∃M:Nat,0<M/\(M:Int)<=B^l.length/\∀fc∈l,fc.1.2 ∣ (M:Int)/\∀c∈fc.2,c.2.2 ∣ (M:Int)
 |[],_=>⟨1,by decide,by simp,by simp⟩
 |fc::l,h=>by
  obtain⟨M,m0,m1,hm⟩:=VJ l λz hz=>h z (aH _ hz);obtain⟨N,n0,n1,d,c⟩:=(h fc aO).ex;refine⟨M*N,Nat.mul_pos m0 n0,?_,λz hz=>?_⟩
  .rw[Int.natCast_mul,List.length_cons,Int.pow_succ];exact Int.mul_le_mul m1 n1 (Wp _) (by lia)
  .rw[Int.natCast_mul];rcases YU.mp hz with rfl|hz
   .exact⟨Int.dvd_trans d (Int.dvd_mul_left _ _),λx hx=>Int.dvd_trans (c x hx).2.1 (Int.dvd_mul_left _ _)⟩
   .exact⟨Int.dvd_trans (hm z hz).1 (Int.dvd_mul_right _ _),λx hx=>Int.dvd_trans ((hm z hz).2 x hx) (Int.dvd_mul_right _ _)⟩
theorem Rm{α:Type}{m:Nat} : ∀{l:List (List α)},(∀x∈l,x.length<=m)->l.flatten.length<=m*l.length
 |[],_=>by simp
 |x::l,h=>by
  have h1:=Rm (l:=l) λy hy=>h y (aH _ hy);have h2:=h x aO;rw[List.flatten_cons,aA,List.length_cons,Nat.mul_add,Nat.mul_one];lia
theorem aeK{n m:Nat}{sm:Bool}{x y:Int}{fcss:Γ}(sz:aa2 n m sm)(fn:fcss.length=n)(x0:0<=x)(xy:x<y)(y1:y<=hB sm)(h:∀fcs∈fcss,fcs.length<=vN sm/\∀fc∈fcs,Jp (mB sm) fc):∃L,Q5 (x,y) fcss L/\L^min 40 (m+1)<=10^490:=by
 obtain⟨M,m0,m1,hm⟩:=VJ (B:=mB sm) fcss.flatten λfc hf=>by
  obtain⟨fcs,a,b⟩:=List.mem_flatten.mp hf;exact(h fcs a).2 fc b
 obtain⟨z,rfl⟩ : ∃z:Nat,y=z:=⟨y.toNat,by lia⟩;refine⟨z*M,⟨x0,by show x<=(z:Int);exact XZ xy,by show 0<(z:Int);exact Int.lt_of_le_of_lt x0 xy,Nat.mul_pos (by lia) m0,λfcs a fc b=>?_⟩,?_⟩
 .have dm:=(h fcs a).2 fc b;obtain⟨d1,d2⟩:=hm fc (List.mem_flatten.mpr ⟨fcs,a,b⟩);obtain⟨N,_,_,_,c⟩:=dm.ex;refine⟨dm.f0,?_,dm.big,dm.few,λk hk=>⟨(c k hk).1,?_,(c k hk).2.2⟩⟩
  .rw[Int.natCast_mul];exact Int.dvd_trans d1 (Int.dvd_mul_left _ _)
  .rw[Int.natCast_mul];exact Int.mul_dvd_mul (Int.dvd_refl _) (d2 k hk)
 .have fl:=Rm (m:=vN sm) λfcs a=>(h fcs a).1;rw[fn]at fl;have lim:∀(A b:Nat),(z:Int)<=(A:Int)->(mB sm=(b:Int))->0<b->(z*M)^min 40 (m+1)<=(A*b^(vN sm*n))^min 40 (m+1):=λA b h1 h2 h3=>by
   refine Nat.pow_le_pow_left (Nat.mul_le_mul (by lia) ?_) _;rw[h2,<- Int.natCast_pow]at m1;exact aM (Int.ofNat_le.mp m1) (XU h3 fl)
  have up:∀{a b c:Nat}{X:Nat},0<a->a^b<=X->c<=b->a^c<=X:=λh0 h1 h2=>aM (XU h0 h2) h1;have m40:=sz.m40;rcases sz.ok with⟨rfl,c⟩|⟨rfl,c⟩
  .refine aM (lim 4 12 y1 rfl (by decide)) ?_;show(4*12^(2*n))^min 40 (m+1)<=_;rcases c with⟨c1,c2⟩|c1
   .have:4*12^(2*n)<=4*12^4:=Nat.mul_le_mul_left _ (XU (by decide) (by lia));exact aM (Nat.pow_le_pow_left this _) (up (b:=15) (by decide) (by decide +kernel) (by lia))
   .have:4*12^(2*n)<=4*12^2:=Nat.mul_le_mul_left _ (XU (by decide) (by lia));exact aM (Nat.pow_le_pow_left this _) (up (b:=40) (by decide) (by decide +kernel) (Nat.min_le_left _ _))
  .refine aM (lim 100 4004000 y1 rfl (by decide)) ?_;show(100*4004000^(3*n))^min 40 (m+1)<=_;have n12:=sz.n12;rcases c with c1|⟨c1,c2⟩|⟨c1,c2⟩
   .subst c1;exact up (b:=40) (by decide) (by decide +kernel) (Nat.min_le_left _ _)
   .have:100*4004000^(3*n)<=100*4004000^24:=Nat.mul_le_mul_left _ (XU (by decide) (by lia));exact aM (Nat.pow_le_pow_left this _) (up (b:=3) (by decide +kernel) (by decide +kernel) (by lia))
   .have:100*4004000^(3*n)<=100*4004000^12:=Nat.mul_le_mul_left _ (XU (by decide) (by lia));exact aM (Nat.pow_le_pow_left this _) (up (b:=6) (by decide +kernel) (by decide +kernel) (by lia))
theorem Yw{K:Frag}{tl te:TE}{σ:L2.St}{H:Hp}{Q:VK}(vs:Μ)(h:tl σ H λx H1=>∃a xs,x=.ref a/\H1 a=some (.lst xs)/\xs.length=vs.length/\vs.length<=sizeLine/\(∀(k:Nat)x y Hc(R:VK),xs[k]?=some x->vs[k]?=some y->Same H1 Hc->(∀H2,Same Hc H2->R y H2)->te (some x::σ) Hc R) /\
  ∀D Hc,Same H1 Hc->H1 D=none->Hc D=some (.lst vs)->Q (.ref D) Hc)(mono:∀{σ H}{R R':VK},(∀v H,R v H->R' v H)->tl σ H R->tl σ H R'):mV (Fd K (tM tl)) 1 (tMG (cN 0)) (tMT Qs) (tM te) σ H Q:=by
 refine dM (mono (λx H1 ⟨a,xs,e,ha,l,sz,hb,q⟩=>⟨a,xs,e,ha,by exact aM (Nat.le_of_eq l) sz,λD hD=>⟨vJ D H1 vs,⟨Same.upd hD,bI,rfl⟩,λk x ys Hc hk j hy hc=>?_,λys Hc ⟨S1,h1,ey⟩ hy=>?_⟩⟩) h)
 .have lk:k<vs.length:=by rw[<- l];exact(ao.mp hk).1
  exact hb k x _ Hc _ hk (aj lk) j.1 λH2 S=>⟨S _ _ j.2.1,S _ _ hc,j.next hD S (aj lk)⟩
 .rw[l,aP]at ey;subst ey;exact q D Hc S1 hD h1
theorem Zh{i:Nat}{σ:L2.St}{H:Hp}{R R':VK}(h:∀v H,R v H->R' v H):Jd i σ H R->Jd i σ H R':=λhP=>by obtain⟨v,a,b⟩:=hP;exact⟨v,a,h _ _ b⟩
theorem Ik{K:Frag}{i:Nat}{te:TE}{σ:L2.St}{H:Hp}{Q:VK}{a:Addr}{xs:Μ}(vs:Μ)(hσ:σ[i]?=some (some (.ref a)))(ha:H a=some (.lst xs))(l:xs.length=vs.length)(sz:vs.length<=sizeLine)(hb:∀(k:Nat)x y Hc(R:VK),xs[k]?=some x->vs[k]?=some y->Same H Hc->(∀H2,Same Hc H2->R y H2)->te (some x::σ) Hc R)
 (q:∀D Hc,Same H Hc->H D=none->Hc D=some (.lst vs)->Q (.ref D) Hc):mV (Fd K (tM (Jd i))) 1 (tMG (cN 0)) (tMT Qs) (tM te) σ H Q:=Yw vs ⟨_,hσ,a,xs,rfl,ha,l,sz,hb,q⟩ Zh
theorem XS{K:Frag}{tl:TE}{g:TG}{tb:TS}{D:Ends}{σ:L2.St}{H:Hp}(h:tl σ H λx H1=>∃a xs,x=.ref a/\SqT K H1 a xs/\∃J:Nat->L2.St->Hp->Prop,J 0 σ H1/\(∀k σ' H',J k σ' H'->SqT K H' a xs) /\
   (∀k x σ' H',xs[k]?=some x->J k σ' H'->g x σ' H' λσ2 H2=>tb { D with nx:=J (k+1),ct:=J (k+1),bk:=D.nx } σ2 H2) /\
   ∀σ' H',J xs.length σ' H'->D.nx σ' H'):Rz (aia K (tM tl)) g tb D σ H:=by
 refine⟨_,h,?_⟩;rintro x H1 ⟨a,xs,rfl,hx,J,j0,jx,step,fin⟩;refine⟨a,rfl,⟨xs,hx⟩,λk m σ' H'=>k<=xs.length/\m=xs.length-k/\J k σ' H',⟨_,bw _,rfl,j0⟩,?_⟩;rintro k m σ' H' ⟨hk,rfl,j⟩;by_cases e:k=xs.length
 .subst e;exact .inl ⟨⟨xs,jx _ _ _ j,aF _⟩,fin σ' H' j⟩
 .have hlt:k<xs.length:=by exact XY hk e
  have e1:xs[k]?=some xs[k]:=aj hlt;refine .inr ⟨⟨xs,_,jx _ _ _ j,e1⟩,J (k+1),λσ3 H3 z=>⟨xs.length-(k+1),by lia,by exact hlt,rfl,z⟩,?_⟩;rintro x H'' ⟨rfl,y⟩;exact step k x σ' H'' (y xs (jx _ _ _ j)) j
def U8(K:Frag):Sp:=λvs H Q _=>∃(p:Addr)(a b:Int),vs=[.ref p]/\SqT K H p [.int a,.int b]/\0<b/\Int.gcd a b=1/\Q (.bl true) H
theorem Qd(F:Fun K nR nR xZ f fd)(T:Txt K mg D)(Ly:OkF P w K mg base 1 Ea Ej Ju):cF P w K mg base CX0 2 f fd oW (U8 K):=by
 refine F.ok CT ?_ ?_
 .rintro _ _ _ _ ⟨p,a,b,rfl,_⟩;rfl
 .rintro cdv A outer s H _ Q E hr ⟨p,a,b,rfl,hp,b0,g1,q⟩;refine⟨_,(bL (cW (PW.pt (pw_or (dh (cV (b_ (gY.or sY) (by rfl) T.cH boot_isinstance (bD (pv 0) (bD (je (v:=.ty "tuple") (by rfl) T.MP boot_tuple rfl) bF))) (λ_=>rfl))) (pw_or1 (cI Ce (b_ Mf (by rfl) T.iH PySem.boot_len (bD (pv 0) bF)) bG (cJ _)))))
    (bM (cg fU))
    cA)
   (bL (iR PassesOwn.never rfl (afa ((pv 0)).mono) (cM (i:=1) CT.nd rfl (Or.inl rfl))
    (bM (cW (PW.pt (pw_or (dh (cV (b_ (gY.or sY) (by rfl) T.cH boot_isinstance (bD (pv 1) (bD (je (v:=.ty "int") (by rfl) T.HJ boot_int rfl) bF))) (λ_=>rfl))) (pw_or1 (cV (b_ (gY.or sY) (by rfl) T.cH boot_isinstance (bD (pv 1) (bD (je (v:=.ty "bool") (by rfl) T.Vh boot_bool rfl) bF))) (λ_=>rfl)))))
     (bM (cg fU))
     cA)))
   (bM (cg (Ds (oE RX (bQ cG (pv 0) bG (λ_ _=>rfl)) bG (cJ _)) (Ir (oE mZ (bO Ly hr.md (by rfl) (bD (bQ cG (pv 0) bG (λ_ _=>rfl)) (bD (bQ cG (pv 0) bG (λ_ _=>rfl)) bF))) bG (cJ _)))))))),?_⟩
  refine bV λR1 hR1=>?_;refine cT ⟨_,rfl,.inr ⟨p,_,_,rfl,by simp,hp,true,rfl,_,rfl,p,_,rfl,hp,rfl,false,rfl,?_⟩⟩;show R1 _ _ _;subst hR1;refine cT (XS ⟨_,rfl,p,_,rfl,hp,λ_ σ H'=>(∃u,σ=[some (.ref p),u])/\H'=H,⟨⟨none,rfl⟩,rfl⟩,(λk σ' H' hP=>by obtain⟨_,e⟩:=hP;exact e ▸ hp),?_,?_⟩)
  .rintro k x σ' H' hk ⟨⟨u,rfl⟩,rfl⟩;obtain⟨i,rfl⟩ : ∃i,x=.int i:=by
    match k with
    |0=>cases hk;exact⟨_,rfl⟩
    |1=>cases hk;exact⟨_,rfl⟩
    |k+2=>simp at hk
   exact⟨_,rfl,.inl ⟨_,_,_,rfl,by simp,rfl,true,rfl,_,rfl,.inl ⟨_,_,_,rfl,by simp,rfl,false,rfl,⟨_,rfl⟩,rfl⟩⟩⟩
  .rintro σ' H' ⟨⟨u,rfl⟩,rfl⟩;dsimp only;refine dX ⟨_,rfl,p,_,1,_,rfl,rfl,hp,cR,b,0,rfl,rfl,true,ZH V.bl (Zs b0),?_⟩;rw[ZY rfl];refine⟨_,rfl,p,_,0,_,rfl,rfl,hp,c7,_,rfl,p,_,1,_,rfl,rfl,hp,cR,a,b,rfl,rfl,?_⟩;rw[g1];exact q
def Oc(K:Frag):Sp:=λvs H Q _=>∃(l:Addr)(zs:Μ)(fs:Ψ)(n:Nat),vs=[.ref l,.int n]/\H l=some (.lst zs)/\FLK K H zs fs/\fs.length=n/\n<=100/\(∀f∈fs,0<f.2/\Int.gcd f.1 f.2=1)/\∀H',Same H H'->Q (.bl true) H'
theorem J3(F:Fun K jy jy qL f fd)(T:Txt K mg D)(yD:OkF P w K mg base 2 nR oW (U8 K)):cF P w K mg base CX0 3 f fd jH (Oc K):=by
 refine F.ok J1 ?_ ?_
 .rintro _ _ _ _ ⟨l,zs,fs,n,rfl,_⟩;rfl
 .rintro cdv A outer s H _ Q E hr ⟨l,zs,fs,n,rfl,hl,fl,fn,n100,al,q⟩;have z9:100<sizeLine:=by decide
  have zl:zs.length=n:=by rw[fl.length,fn]
  refine⟨_,(bL (cW (PW.pt (pw_or (dh (cV (b_ gY (by rfl) T.cH boot_isinstance (bD (pv 0) (bD (je (v:=.ty "list") (by rfl) T.DY boot_list rfl) bF))) (λ_=>rfl))) (pw_or1 (cI Ce (b_ dw (by rfl) T.iH PySem.boot_len (bD (pv 0) bF)) (pv 1) (cJ _)))))
    (bM (cg fU))
    cA)
   (bM (cg (b_ (yX rfl) (by rfl) T.WT boot_all (bD (iY (bN qL) uV uV ["_law_one"] (cZ ((pv 0)).mono) (d7 (i:=0)) dz (bO yD hr.md (by rfl) (bD (pv 0) bF))) bF))))),?_⟩
  refine bV λR1 hR1=>?_;refine cT ⟨_,rfl,_,_,_,rfl,by simp,Bp hl,true,rfl,_,rfl,l,_,rfl,hl,_,rfl,rfl,false,ZH (λb=>V.bl (!b)) (Zs (by rw[zl])),?_⟩;show R1 _ _ _;subst hR1;refine dX (OD (Ik (List.replicate n (.bl true)) rfl hl (by rw[aN,zl]) (by rw[aN];exact aM n100 (by decide)) ?_ λl2 H2 S2 f2 h2=>?_))
  .intro k x y Hc R hk hy Sc r;obtain⟨t,f,rfl,ef,ht⟩:=fl.get hk;obtain⟨b0,g1⟩:=al f (aB ef);rw[XG]at hy;have ey:y=.bl true:=by
    split at hy
    .exact(Option.some.inj hy).symm
    .cases hy
   subst ey;exact⟨_,rfl,t,_,_,rfl,Sc.tup ht,b0,g1,r Hc λ_ _ z=>z⟩
  .refine⟨l2,List.replicate n true,rfl,by rw[h2,List.map_replicate],?_⟩;have e:(List.replicate n true).all id=true:=List.all_eq_true.mpr λx hx=>(XW.mp hx).2;rw[e];exact q H2 S2
def Ph(K:Frag):Sp:=λvs H Q _=>∃(p q:Addr)(f g:Ι),vs=[.ref p,.ref q]/\SqT K H p [.int f.1,.int f.2]/\SqT K H q [.int g.1,.int g.2]/\Fb f/\Fb g/\∀b:Bool,(b=true↔vl f=vl g)->Q (.bl b) H
theorem adD(F:Fun K Bo Bo s_same f fd)(T:Txt K mg D):cF P w K mg base CX0 1 f fd Bs (Ph K):=by
 refine F.ok acC ?_ ?_
 .rintro _ _ _ _ ⟨p,q,f,g,rfl,_⟩;rfl
 .rintro cdv A outer s H _ Q E hr ⟨p,q,f,g,rfl,hp,hq,bf,bg,k⟩;refine⟨_,(bM (cg (oE mZ (bU cL (bQ cG (pv 0) bG (λ_ _=>rfl)) (bQ cG (pv 1) bG (λ_ _=>rfl))) (bU cL (bQ cG (pv 1) bG (λ_ _=>rfl)) (bQ cG (pv 0) bG (λ_ _=>rfl))) (cJ _)))),?_⟩;refine dX ⟨_,rfl,p,_,0,_,rfl,rfl,hp,c7,_,rfl,q,_,1,_,rfl,rfl,hq,cR,_,_,rfl,rfl,⟨bf.bx,bg.b_y⟩,_,rfl,q,_,0,_,rfl,rfl,hq,c7,_,rfl,p,_,1,_,rfl,rfl,hp,cR,_,_,rfl,rfl,⟨bg.bx,bf.b_y⟩,rfl,k _ ?_⟩;rw[decide_eq_true_iff];exact⟨λz=>W7 bf.pos bg.pos (by injection z),λz=>ZH V.int (QZ bf.pos bg.pos z)⟩
def Bm(K:Frag):Sp:=λvs H Q _=>∃(p q:Addr)(f g:Ι),vs=[.ref p,.ref q]/\SqT K H p [.int f.1,.int f.2]/\SqT K H q [.int g.1,.int g.2]/\Fb f/\Fb g/\∀b:Bool,(b=true↔vl f<vl g)->Q (.bl b) H
theorem abz(F:Fun K uw uw Qc f fd)(T:Txt K mg D):cF P w K mg base CX0 1 f fd uD (Bm K):=by
 refine F.ok Zm ?_ ?_
 .rintro _ _ _ _ ⟨p,q,f,g,rfl,_⟩;rfl
 .rintro cdv A outer s H _ Q E hr ⟨p,q,f,g,rfl,hp,hq,bf,bg,k⟩;refine⟨_,(bM (cg (oE zL (bU cL (bQ cG (pv 0) bG (λ_ _=>rfl)) (bQ cG (pv 1) bG (λ_ _=>rfl))) (bU cL (bQ cG (pv 1) bG (λ_ _=>rfl)) (bQ cG (pv 0) bG (λ_ _=>rfl))) (cJ _)))),?_⟩;exact dX ⟨_,rfl,p,_,0,_,rfl,rfl,hp,c7,_,rfl,q,_,1,_,rfl,rfl,hq,cR,_,_,rfl,rfl,⟨bf.bx,bg.b_y⟩,_,rfl,q,_,0,_,rfl,rfl,hq,c7,_,rfl,p,_,1,_,rfl,rfl,hp,cR,_,_,rfl,rfl,⟨bg.bx,bf.b_y⟩,_,_,rfl,rfl,k _ ((decide_eq_true_iff (p:=f.1*g.2<g.1*f.2)).trans (WX bf.pos bg.pos).symm)⟩
theorem Zx{cs:Θ}{c:Nat×Int×Int}{G:Nat->Rat} : mL (cs++[c]) G=mL cs G+vl c.2*G c.1:=by
 induction cs with
 |nil =>
  show vl c.2*G c.1+0=0+vl c.2*G c.1;rw[Rat.add_zero,Rat.zero_add]
 |cons a cs ih =>
  show vl a.2*G a.1+mL (cs++[c]) G=vl a.2*G a.1+mL cs G+vl c.2*G c.1;rw[ih,Rat.add_assoc]
theorem VB:∀{l:List Int},(∀x∈l,0<=x)->0<=l.sum/\∀x∈l,x<=l.sum
 |[],_=>⟨Int.le_refl _,by simp⟩
 |a::l,h=>by
  obtain⟨h1,h2⟩:=VB (l:=l) λx hx=>h x (aH _ hx);have h0:=h a aO;rw[List.sum_cons];refine⟨by lia,λx hx=>?_⟩;rcases YU.mp hx with rfl|hx
  .lia
  .have:=h2 x hx;lia
theorem aha{n:Nat}{so:Int}{rs:List Nat}{ws:List Int}{S x:Int}(h:vK n so rs ws S)(hx:x∈ws):Bn 20 (Ac.lw x S).1/\Bn 20 (Ac.lw x S).2:=by
 have h1:=(VB h.lo).2 x hx;rw[h.sum]at h1;have h2:=h.lo x hx;have h3:=h.le;have h4:=h.pos;have b1:=Ac.Im x S;have b2:=Ac.Er x S;constructor<;>unfold Bn<;>lia
inductive Lf(K:Frag)(vs:Μ)(H:Hp)(Q:VK):Prop
 |mk (p d l:Addr) (s:Ι) (n:Nat) (fc:Ι×Θ) (xs:Μ) (fs:Ψ) (h0:vs=[.ref p,.ref d,.ref l]) (h1:H p=some (.tup [.int s.1,.int s.2])) (h2:0<s.2) (h3:Bn 40 s.1) (h4:Bn 40 s.2) (h5:Ez n H d fc) (h6:0<fc.1.2) (h7:Bn 40 fc.1.1) (h8:Bn 40 fc.1.2) (h9:H l=some (.lst xs)) (h10:FLK K H xs fs) (h11:Wb fs) (h12:fs.length=n) (h13:∀r z y H',Same H H'->H' r=some (.tup [.int z,.int y])->0<y->Bd z->Bd y->vl (z,y)=oR s fc.1 fc.2 fs->Q (.ref r) H'):Lf K vs H Q
def Ni(K:Frag):Sp:=λvs H Q _=>Lf K vs H Q
theorem adH(F:Fun K Br Br Ug f fd)(T:Txt K mg D):cF P w K mg base CX0 1 f fd Bx (Ni K):=by
 refine F.ok pY ?_ ?_
 .rintro _ _ _ _ ⟨p,d,l,s,n,fc,xs,fs,rfl,_⟩;rfl
 .rintro cdv A outer s H _ Q E hr ⟨p,d,l,sh,n,fc,xs,fs,rfl,hp,s0,b1,b2,ld,f0,f1,f2,hl,fl,fq,fn,q⟩;obtain⟨pp,lp,so,S,rs,ws,ps,hd,hpp,hlp,pi,dr,be⟩:=ld.ex;refine⟨_,(bL (cj (i:=3) pY.nd rfl (Or.inl rfl) bG)
   (bL (cj (i:=4) pY.nd rfl (Or.inl rfl) bG)
   (bL (iR PassesOwn.never rfl (cZ ((bQ cG (pv 1) bG (λ_ _=>rfl))).mono) (fV (n:=2) rfl (cD (cM (i:=5) pY.nd rfl (Or.inl rfl)) (cD (cM (i:=6) pY.nd rfl (Or.inl rfl)) fL)))
    (bL (cj (i:=7) pY.nd rfl (Or.inl rfl) (bU cL (bQ cG (pv 6) bG (λ_ _=>rfl)) (bQ cG (bQ bY (pv 2) (pv 5) (λ_ _=>rfl)) bG (λ_ _=>rfl))))
    (bL (cj (i:=3) pY.nd rfl (Or.inl rfl) (bU dW (bU cL (pv 3) (pv 7)) (bU cL (bU cL (bQ cG (pv 6) bG (λ_ _=>rfl)) (bQ cG (bQ bY (pv 2) (pv 5) (λ_ _=>rfl)) bG (λ_ _=>rfl))) (pv 4))))
    (bM (cj (i:=4) pY.nd rfl (Or.inl rfl) (bU cL (pv 4) (pv 7)))))))
   (bL (cj (i:=3) pY.nd rfl (Or.inl rfl) (bU cL (pv 3) (bQ cG (pv 0) bG (λ_ _=>rfl))))
   (bL (cj (i:=4) pY.nd rfl (Or.inl rfl) (bU cL (pv 4) (bQ cG (pv 0) bG (λ_ _=>rfl))))
   (bM (cg (dH (bD (bU dW (bU cL (bQ cG (bQ cG (pv 1) bG (λ_ _=>rfl)) bG (λ_ _=>rfl)) (pv 4)) (bU cL (pv 3) (bQ cG (bQ cG (pv 1) bG (λ_ _=>rfl)) bG (λ_ _=>rfl)))) (bD (bU cL (pv 4) (bQ cG (bQ cG (pv 1) bG (λ_ _=>rfl)) bG (λ_ _=>rfl))) bF)))))))))),?_⟩
  refine cC ?_;refine cC ?_;have pl:(E_ rs ws S).length=rs.length:=by unfold E_;rw[List.length_zipWith,dr.len,Nat.min_self]
  refine bV λR1 hR1=>?_;refine cT (gC ⟨_,rfl,d,_,2,_,rfl,rfl,.of hd,cu (j:=2) rfl,lp,ps,rfl,hlp,λk σ H'=>∃(t b:Int)(u5 u6 u7:Option V),σ=[some (.ref p),some (.ref d),some (.ref l),some (.int t),some (.int b),u5,u6,u7]/\H'=H/\0<b/\Bn (511*k+96) t/\Bn (510*k) b/\vl (t,b)=mL ((E_ rs ws S).take k) (wq fs),⟨0,1,none,none,none,rfl,rfl,by decide,bw _,aF _,?_⟩,?_,?_⟩)
  .show((0:Int):Rat)/((1:Int):Rat)=0;rw[Rat.intCast_zero]
   grind
  .rintro k x σ' H' hk ⟨t,b,u5,u6,u7,rfl,rfl,b0,bt,bb,v⟩ hx;have lk:k<rs.length:=by rw[<- pi.len];exact(ao.mp hk).1
   have k8:=dr.l8;have er:rs[k]?=some rs[k]:=aj lk;have ew:ws[k]?=some (ws[k]'(by rw[<- dr.len];exact lk)):=aj _;obtain⟨tt,c,e1,e2,e3⟩:=pi.at_ k _ _ er ew;rw[hk]at e1;cases e1;have lr:=dr.lt _ (aV lk);obtain⟨c1,c2⟩:=aha dr (aB ew);have c0:=Ac.lB (t:=ws[k]'(by rw[<- dr.len];exact lk)) dr.pos;have ep:(E_ rs ws S)[k]?=some (rs[k],Ac.lw (ws[k]'(by rw[<- dr.len];exact lk)) S):=by unfold E_;rw[List.getElem?_zipWith,er,ew]
   generalize ws[k]'(by rw[<- dr.len];exact lk)=wk at *;generalize rs[k]=r at *;have xl:r<xs.length:=by rw[fl.length,fn];exact lr
   have ex:xs[r]?=some xs[r]:=aj xl;obtain⟨wp,g,eg,ef,hw⟩:=fl.get ex;rw[eg]at ex;obtain⟨g0,g1,g2⟩:=fq g (aB ef);have eq:wq fs r=vl g:=by unfold wq;rw[au,ef];rfl
   generalize Ac.lw wk S=C at *;have bp:Bn 510 (C.2*g.2):=Bn.mul c2 g2;have bd:∀{a:Nat}{z:Int},Bn a z->a<=2400->Bd z:=λh l=>h.bd l;refine⟨tt,_,rfl,e2,rfl,_,_,rfl,_,_,rfl,rfl,?_⟩;dsimp only[cN,List.set_cons_succ,List.set_cons_zero];refine cC ⟨_,rfl,c,_,1,_,rfl,rfl,.of e3,cR,_,rfl,_,rfl,l,xs,_,_,rfl,rfl,hl,cu ex,wp,_,1,_,rfl,rfl,hw,cR,_,_,rfl,rfl,⟨bd c2 (by decide),bd g2 (by decide)⟩,?_⟩;dsimp only[cN,List.set_cons_succ,List.set_cons_zero];refine cC ⟨_,rfl,_,rfl,_,_,rfl,rfl,⟨bd bt (by lia),bd bp (by decide)⟩,_,rfl,c,_,0,_,rfl,rfl,.of e3,c7,_,rfl,_,rfl,l,xs,_,_,rfl,rfl,hl,cu ex,wp,_,0,_,rfl,rfl,hw,c7,_,_,rfl,rfl,⟨bd c1 (by decide),bd g1 (by decide)⟩,_,rfl,_,_,rfl,rfl,⟨bd (Bn.mul c1 g1) (by decide),bd bb (by lia)⟩,_,_,rfl,rfl,?_⟩;dsimp only[cN,List.set_cons_succ,List.set_cons_zero];refine⟨_,rfl,_,rfl,_,_,rfl,rfl,⟨bd bb (by lia),bd bp (by decide)⟩,hlp,_,_,_,_,_,rfl,rfl,Xs b0 (Xs c0 g0),?_,?_,?_⟩
   .have:=Bn.add (a:=511*k+606) ((Bn.mul bt bp).up (aF _)) ((Bn.mul (Bn.mul c1 g1) bb).up (by lia));exact this.up (by lia)
   .exact(Bn.mul bb bp).up (by lia)
   .rw[cB ep,Zx,<- v];have e1:=Dq (x:=t) (y:=b) (u:=C.1*g.1) (v:=C.2*g.2) b0 (Xs c0 g0);have e2:=Aa (x:=C.1) (y:=C.2) (u:=g.1) (v:=g.2) c0 g0;rw[e2]at e1;show vl (t*(C.2*g.2)+C.1*g.1*b,b*(C.2*g.2))=vl (t,b)+vl C*wq fs r;rw[eq];exact e1
  .rintro σ' H' ⟨t,b,u5,u6,u7,rfl,rfl,b0,bt,bb,v⟩ hx;rw[pi.len,<- pl,aP,<- be]at v;have k8:=dr.l8;rw[pi.len]at bt bb;have bt:Bn 2140 t:=bt.up (by lia);have bb:Bn 2040 b:=bb.up (by lia);subst hR1;dsimp only;refine cC ⟨_,rfl,_,rfl,p,_,0,_,rfl,rfl,.of hp,c7,_,_,rfl,rfl,⟨bt.bd (by decide),b1.bd (by decide)⟩,?_⟩;dsimp only[cN,List.set_cons_succ,List.set_cons_zero];refine cC ⟨_,rfl,_,rfl,p,_,1,_,rfl,rfl,.of hp,cR,_,_,rfl,rfl,⟨bb.bd (by decide),b2.bd (by decide)⟩,?_⟩;dsimp only[cN,List.set_cons_succ,List.set_cons_zero];have bt2:=Bn.mul bt b1;have bb2:=Bn.mul bb b2;refine dX ⟨_,rfl,d,_,1,_,rfl,rfl,.of hd,cR,pp,_,0,_,rfl,rfl,.of hpp,c7,_,rfl,_,_,rfl,rfl,⟨f1.bd (by decide),bb2.bd (by decide)⟩,_,rfl,_,rfl,d,_,1,_,rfl,rfl,.of hd,cR,pp,_,1,_,rfl,rfl,.of hpp,cR,_,_,rfl,rfl,⟨bt2.bd (by decide),f2.bd (by decide)⟩,_,_,rfl,rfl,_,rfl,_,rfl,d,_,1,_,rfl,rfl,.of hd,cR,pp,_,1,_,rfl,rfl,.of hpp,cR,_,_,rfl,rfl,⟨bb2.bd (by decide),f2.bd (by decide)⟩,d8,λr H2 S2 _ h2=>q r _ _ H2 S2 h2 (Xs (Xs b0 s0) f0) ?_ ?_ ?_⟩
   .exact(Bn.add (a:=2220) ((Bn.mul f1 bb2).up (by decide)) (Bn.mul bt2 f2)).bd (by decide)
   .exact(Bn.mul bb2 f2).bd (by decide)
   .have e1:=Dq (x:=fc.1.1) (y:=fc.1.2) (u:=t*sh.1) (v:=b*sh.2) f0 (Xs b0 s0);have e2:=Aa (x:=t) (y:=b) (u:=sh.1) (v:=sh.2) b0 s0;rw[e2,v]at e1;unfold oR;rw[show vl sh*mL fc.2 (wq fs)=mL fc.2 (wq fs)*vl sh from Rat.mul_comm _ _,Int.mul_comm (b*sh.2) fc.1.2];exact e1
def Vr(K:Frag):Sp:=λvs H Q _=>∃(t:Addr)(ls:Ε)(fss:Φ)(many n:Nat),vs=[.ref t,.int many,.int n]/\H t=some (.lst (ls.map V.ref))/\Rds K H ls fss/\fss.length=many+1/\many<=40/\n<=100/\(∀fs∈fss,fs.length=n/\∀f∈fs,0<f.2/\Int.gcd f.1 f.2=1)/\∀H',Same H H'->Q (.bl true) H'
theorem Kw(F:Fun K lU lU qG f fd)(T:Txt K mg D)(ji:OkF P w K mg base 3 jy jH (Oc K)):cF P w K mg base CX0 4 f fd mD (Vr K):=by
 refine F.ok JM ?_ ?_
 .rintro _ _ _ _ ⟨t,ls,fss,many,n,rfl,_⟩;rfl
 .rintro cdv A outer s H _ Q E hr ⟨t,ls,fss,many,n,rfl,ht,rd,fl,m40,n100,al,q⟩;have z9:100<sizeLine:=by decide
  have ll:=rd.len;have zl:(ls.map V.ref).length=many+1:=by rw[ak,ll,fl]
  refine⟨_,(bL (cW (PW.pt (pw_or (dh (cV (b_ gY (by rfl) T.cH boot_isinstance (bD (pv 0) (bD (je (v:=.ty "list") (by rfl) T.DY boot_list rfl) bF))) (λ_=>rfl))) (pw_or1 (cI Ce (b_ dw (by rfl) T.iH PySem.boot_len (bD (pv 0) bF)) (bU dW (pv 1) bG) (cJ _)))))
    (bM (cg fU))
    cA)
   (bM (cg (b_ (yX rfl) (by rfl) T.WT boot_all (bD (iY (bN qG) uH uH ["_law_one"] (cZ ((pv 0)).mono) (d7 (i:=0)) dz (bO ji hr.md (by rfl) (bD (pv 0) (bD (pv 3) bF)))) bF))))),?_⟩
  refine bV λR1 hR1=>?_;refine cT ⟨_,rfl,_,_,_,rfl,by simp,Bp ht,true,rfl,_,rfl,t,_,rfl,ht,_,rfl,_,_,rfl,rfl,rfl,false,ZH (λb=>V.bl (!b)) (Zs (by rw[zl];rfl)),?_⟩;show R1 _ _ _;subst hR1;refine dX (OD (Ik (List.replicate (many+1) (.bl true)) rfl ht (by rw[aN,zl]) (by rw[aN];lia) ?_ λl2 H2 S2 f2 h2=>?_))
  .intro k x y Hc R hk hy Sc r;rw[aq]at hk;cases el:ls[k]? with
   |none=>rw[el]at hk;cases hk
   |some l =>
    rw[el]at hk;cases hk;have lk:k<fss.length:=by rw[<- ll];exact(ao.mp el).1
    have ef:=aj lk;obtain⟨zs,a,b⟩:=rd.at_ k l _ el ef;obtain⟨c,d⟩:=al _ (aV lk);rw[XG,ZY (aU lk (Nat.le_of_eq fl))]at hy;cases hy;exact⟨_,rfl,_,rfl,l,zs,_,n,rfl,Sc _ _ a,b.same Sc,c,n100,d,λH' S'=>r H' S'⟩
  .refine⟨l2,List.replicate (many+1) true,rfl,by rw[h2,List.map_replicate],?_⟩;have e:(List.replicate (many+1) true).all id=true:=List.all_eq_true.mpr λx hx=>(XW.mp hx).2;rw[e];exact q H2 S2
theorem Uz{ys:Μ}{n:Nat}(h:n<=ys.length):pZ ys none (some (n:Int))=ys.take n:=by
 unfold pZ;rw[HT.sW,Nat.min_eq_left h];show((ys.drop 0).take (n-0))=_;rw[List.drop_zero,Nat.sub_zero]
def aae(gs:Ψ)(w:V):Prop:=(gs=[]/\w=.non)\/∃(j:Nat)(gj:Ι),w=.int (j:Nat)/\gs[j]?=some gj/\(∀g∈gs,vl g<=vl gj)/\∀i g,i<j->gs[i]?=some g->vl g<vl gj
def JH:Sp:=λvs H Q _=>∃(l:Addr)(v:V)(xs:Μ)(gs:Ψ),vs=[.ref l,v]/\H l=some (.lst xs)/\FL H xs gs/\(∀f∈gs,Fb f)/\gs.length<=64/\aae gs v/\∀H',Same H H'->Q (.bl true) H'
theorem abS(F:Fun K yM yM Cj f fd)(T:Txt K mg D)(tD:OkF P w K mg base 1 uw uD (Bm K)):cF P w K mg base CX0 2 f fd wW JH:=by
 refine F.ok aa4 ?_ ?_
 .rintro _ _ _ _ ⟨l,v,xs,gs,rfl,_⟩;rfl
 .rintro cdv A outer s H _ Q E hr ⟨l,v,xs,gs,rfl,hl,fl,fb,l64,ta,q⟩;have z9:100<sizeLine:=by decide
  have xl:=fl.length;have at_:∀i,i<gs.length->∃p g,xs[i]?=some (.ref p)/\gs[i]?=some g/\H p=some (.tup [.int g.1,.int g.2])/\Fb g:=λi hi=>by
   have ex:xs[i]?=some (xs[i]'(by lia)):=aj _;obtain⟨p,g,e1,e2,e3⟩:=fl.get ex;rw[e1]at ex;exact⟨p,g,ex,e2,e3,fb g (aB e2)⟩
  refine⟨_,(bL (cW (cI mZ (b_ dw (by rfl) T.iH PySem.boot_len (bD (pv 0) bF)) bG (cJ _))
    (bM (cg (oE xO (pv 1) mX (cJ _))))
    cA)
   (bL (cW (PW.pt (pw_or (dh (cV (b_ gY (by rfl) T.cH boot_isinstance (bD (pv 1) (bD (je (v:=.ty "int") (by rfl) T.HJ boot_int rfl) bF))) (λ_=>rfl))) (pw_or (cV (b_ gY (by rfl) T.cH boot_isinstance (bD (pv 1) (bD (je (v:=.ty "bool") (by rfl) T.Vh boot_bool rfl) bF))) (λ_=>rfl)) (pw_or (cI zL (pv 1) bG (cJ _)) (pw_or1 (cI ZG (pv 1) (b_ dw (by rfl) T.iH PySem.boot_len (bD (pv 0) bF)) (cJ _)))))))
    (bM (cg fU))
    cA)
   (bL (cW (cV (b_ (Xd rfl) (by rfl) T.ai8 boot_any (bD (iY (bN Cj) Bl Bl ["_law_one"] (cZ ((pv 0)).mono) (d7 (i:=0)) dz (bO tD hr.md (by rfl) (bD (bQ bY (pv 1) (pv 2) (λ_ _=>rfl)) (bD (pv 0) bF)))) bF)) (λ_=>rfl))
    (bM (cg fU))
    cA)
   (bM (cg (b_ (yX rfl) (by rfl) T.WT boot_all (bD (iY (bN Cj) Bl Bl ["_law_one"] (cZ ((oV Bc (pv 0) Gj (jO (pv 1)))).mono) (d7 (i:=0)) dz (bO tD hr.md (by rfl) (bD (pv 0) (bD (bQ bY (pv 1) (pv 2) (λ_ _=>rfl)) bF)))) bF))))))),?_⟩
  refine bV λR1 hR1=>?_;refine cT ⟨_,rfl,l,xs,rfl,hl,rfl,decide (xs.length=0),ZH V.bl (decide_eq_decide.mpr ⟨λz=>by injection z with z;lia,λz=>by rw[z];rfl⟩),?_⟩;rcases ta with⟨rfl,rfl⟩|⟨j,gj,rfl,ej,le,lt⟩
  .rw[Zs (by rw[xl];rfl)];exact⟨_,rfl,rfl,by rw[Zs rfl];exact q H λ_ _ z=>z⟩
  have jl:=(ao.mp ej).1;obtain⟨pj,gj',xj,ej',hj,bj⟩:=at_ j jl;rw[ej]at ej';cases ej';rw[Zp (by lia)];show R1 _ _ _;subst hR1;refine bV λR1 hR1=>?_;refine cT ⟨_,rfl,_,_,_,rfl,by simp,rfl,true,rfl,_,rfl,_,_,_,rfl,by simp,rfl,false,rfl,_,rfl,_,0,rfl,rfl,false,ZH V.bl (Zp (Int.not_lt_of_ge (Wp _))),_,rfl,_,rfl,l,xs,rfl,hl,_,_,rfl,rfl,false,ZH V.bl (Zp (by lia)),?_⟩;show R1 _ _ _;subst hR1;refine bV λR1 hR1=>?_;refine cT (adF (Ik (List.replicate gs.length (.bl false)) rfl hl (by rw[aN,xl]) (by rw[aN];exact aM l64 (by decide)) ?_ λl2 H2 S2 f2 h2=>?_))
  .intro i x y Hc R hi hy Sc r;have li:i<gs.length:=by rw[<- xl];exact(ao.mp hi).1
   obtain⟨p,g,xi,eg,hp,bg⟩:=at_ i li;rw[hi]at xi;cases xi;rw[XG,ZY li]at hy;cases hy;refine⟨_,rfl,_,rfl,l,xs,_,_,rfl,rfl,Sc _ _ hl,cu xj,_,rfl,pj,p,gj,g,rfl,.of (Sc _ _ hj),.of (Sc _ _ hp),bj,bg,λb hb=>?_⟩;have le:=le g (aB eg);have e:b=false:=Bool.eq_false_iff.mpr λz=>Rat.not_lt.mpr le (hb.mp z);rw[e];exact r Hc λ_ _ z=>z
  refine⟨l2,List.replicate gs.length false,rfl,by rw[h2,List.map_replicate],false,?_,?_⟩
  .have e:(List.replicate gs.length false).any id=false:=by
    rw[List.any_eq_false];intro x hx;rw[(XW.mp hx).2]
    decide
   rw[e];rfl
  show R1 _ _ _;subst hR1;have ec:pZ xs none (some ((j:Nat):Int))=xs.take j:=Uz (by lia);refine dX (OD (dM ⟨_,rfl,_,rfl,_,rfl,l,xs,rfl,S2 _ _ hl,λp3 H3 S3 f3 h3=>⟨p3,_,rfl,h3,?_,λD4 g4=>⟨vJ D4 H3 (List.replicate j (.bl true)),⟨Same.upd g4,bI,rfl⟩,λi x ys Hc hi jj hy hc=>?_,λys Hc ⟨T1,k1,ey⟩ hy=>?_⟩⟩⟩))
  .rw[ec,bh];lia
  .rw[ec]at hi;have li:i<j:=by have:=(ao.mp hi).1;rw[bh]at this;lia
   rw[List.getElem?_take,ZY li]at hi;obtain⟨p,g,xi,eg,hp,bg⟩:=at_ i (Nat.lt_trans li jl);rw[hi]at xi;cases xi;have ST:=S2.trans (S3.trans jj.1);refine⟨_,rfl,_,rfl,_,rfl,l,xs,_,_,rfl,rfl,ST _ _ hl,cu xj,p,pj,g,gj,rfl,.of (ST _ _ hp),.of (ST _ _ hj),bg,bj,λb hb=>?_⟩;have lt:=lt i g li eg;rw[hb.mpr lt];exact⟨jj.2.1,hc,jj.next g4 (λ_ _ z=>z) (by rw[XG,ZY li])⟩
  .have el:(pZ xs none (some ((j:Nat):Int))).length=j:=by rw[ec,bh];lia
   rw[el,aK (by rw[aN];exact aF _)]at ey;subst ey;refine⟨D4,List.replicate j true,rfl,by rw[k1,List.map_replicate],?_⟩;have e:(List.replicate j true).all id=true:=List.all_eq_true.mpr λx hx=>(XW.mp hx).2;rw[e];exact q Hc (S2.trans (S3.trans T1))
theorem adl{x y:Int}(y0:0<y)(xy:x<y):vl (x,y-x)=vl (x,y)/(1-vl (x,y)):=by
 have e1:vl (y-x,y)=1-vl (x,y):=by
  have:=Ow (x:=1) (y:=1) (u:=x) (v:=y) (by decide) y0;rw[Int.one_mul,Int.mul_one]at this;rw[this,N_,Rat.intCast_one]
 rw[<- e1,<- UW y0 (by lia) y0];exact W7 (by show 0<y-x;lia) (Xs y0 (by lia)) (by show x*(y*(y-x))=x*y*(y-x);rw[Int.mul_assoc])
def Jx(K:Frag):Sp:=λvs H Q _=>∃(la lb:Addr)(xs ys:Μ)(fs gs:Ψ),vs=[.ref la,.ref lb]/\H la=some (.lst xs)/\H lb=some (.lst ys)/\FLK K H xs fs/\FLK K H ys gs/\Wb fs/\Wb gs/\fs.length=gs.length/\gs.length<=12 /\
 ∀t H' zs qs,Same H H'->H t=none->H' t=some (.lst zs)->FL H' zs qs->Gn fs gs qs->Q (.ref t) H'
theorem Zd(F:Fun K wj wj Ga f fd)(T:Txt K mg D):cF P w K mg base CX0 1 f fd wJ (Jx K):=by
 refine F.ok ZJ ?_ ?_
 .rintro _ _ _ _ ⟨la,lb,xs,ys,fs,gs,rfl,_⟩;rfl
 .rintro cdv A outer s H _ Q E hr ⟨la,lb,xs,ys,fs,gs,rfl,ha,hb,fa,fb,wa,wb,ln,n12,k⟩;have xl:=fa.length;have yl:=fb.length;refine⟨_,(bM (cg (iY (bN Ga) MJ MJ ["_law_a","_law_b"] (DP (by rfl) T.Lz (bD (pv 0) (bD (pv 1) bF)).mono) (fV (n:=2) rfl (cD (d7 (i:=0)) (cD (d7 (i:=1)) fL))) dz (dH (bD (bU oZ (bU cL (bQ (show IxR _ (C_ K)from cG) (pv 1) bG (λ_ _=>rfl)) (bQ (show IxR _ (C_ K)from cG) (pv 0) bG (λ_ _=>rfl))) (bU cL (bQ (show IxR _ (C_ K)from cG) (pv 0) bG (λ_ _=>rfl)) (bQ (show IxR _ (C_ K)from cG) (pv 1) bG (λ_ _=>rfl)))) (bD (bU cL (bQ (show IxR _ (C_ K)from cG) (pv 0) bG (λ_ _=>rfl)) (bQ (show IxR _ (C_ K)from cG) (pv 1) bG (λ_ _=>rfl))) bF)))))),?_⟩;refine dX (uL ⟨_,rfl,_,rfl,la,lb,xs,ys,rfl,ha,hb,by lia,by lia,λD1 g1=>⟨λk zs Hc=>Same H Hc/\Hc D1=some (.lst zs)/\∃qs,FL (del [D1] Hc) zs qs/\Gn (fs.take k) (gs.take k) qs,⟨Same.upd g1,bI,[],.nil,rfl,λk f g q e=>by simp at e⟩,?_,?_⟩⟩)
  .rintro k x y zs Hc t hx hy ⟨S1,h1,qs,fl,gn⟩ zl ft _ _;obtain⟨pf,f',rfl,ef,hf⟩:=fa.get hx;obtain⟨pg,g,rfl,eg,hg⟩:=fb.get hy;obtain⟨g0,gb1,gb2⟩:=wb g (aB eg);obtain⟨f0,fb1,fb2⟩:=wa f' (aB ef);have S2:Same Hc (upd Hc t (.tup [.ref pf,.ref pg])):=Same.upd ft;have e2:upd Hc t (.tup [.ref pf,.ref pg]) t=some (.tup [.ref pf,.ref pg]):=bI;generalize upd Hc t (.tup [.ref pf,.ref pg])=H1 at S2 e2 ⊢;intro pre hpre;obtain⟨u,v,rfl⟩:=Ob hpre;have S12:=S1.trans S2;refine⟨t,_,rfl,e2,rfl,_,_,rfl,_,_,rfl,rfl,[_,_],rfl,rfl,?_⟩;have hf':=S12.tup hf;have hg':=S12.tup hg;refine⟨_,rfl,pg,_,0,_,rfl,rfl,hg',c7,_,rfl,pf,_,1,_,rfl,rfl,hf',cR,_,_,rfl,rfl,⟨gb1.bd (by decide),fb2.bd (by decide)⟩,_,rfl,pf,_,0,_,rfl,rfl,hf',c7,_,rfl,pg,_,1,_,rfl,rfl,hg',cR,_,_,rfl,rfl,⟨fb1.bd (by decide),gb2.bd (by decide)⟩,_,_,rfl,rfl,_,rfl,pf,_,1,_,rfl,rfl,hf',cR,_,rfl,pg,_,1,_,rfl,rfl,hg',cR,_,_,rfl,rfl,⟨fb2.bd (by decide),gb2.bd (by decide)⟩,d8,λr H3 S3 hr1 e3=>?_⟩;have h11:=S2 _ _ h1;have nr:r∉[D1]:=by
    simp only[YR];exact(bH h11 hr1).symm
   have S13:=S12.trans S3;have ql:=gn.len;have gk:(gs.take k).length=k:=by rw[bh];have:=(ao.mp eg).1;lia
   refine⟨S3 _ _ h11,S13 _ _ ha,S13 _ _ hb,λb u e=>(bK (bH e g1)).trans (S13 _ _ e),bI,qs++[(g.1*f'.2-f'.1*g.2,f'.2*g.2)],?_,?_⟩
   .rw[pP (YR.mpr rfl)];exact(fl.same (lM λb o _ e=>S3 _ _ (S2 _ _ e))).append (.cons (gK nr e3) .nil)
   .rw[cB eg,cB ef];refine⟨by rw[aA,aA,ql];rfl,λi f1 g2 q1 a1 a2 a3=>?_⟩;have fk:(fs.take k).length=k:=by rw[bh];have:=(ao.mp ef).1;lia
    rcases eZ a1 with⟨b1,c1⟩|⟨b1,c1⟩<;>rcases eZ a2 with⟨b2,c2⟩|⟨b2,c2⟩<;>rcases eZ a3 with⟨b3,c3⟩|⟨b3,c3⟩
    .exact gn.at_ i f1 g2 q1 c1 c2 c3
    any_goals lia
    subst c1;subst c2;subst c3;refine⟨Xs f0 g0,(Bn.mul gb1 fb2).sub (Bn.mul fb1 gb2),Bn.mul fb2 gb2,?_⟩;rw[show ∀a b c:Int,((a,b*c):Ι)=(a,c*b)from λa b c=>by rw[Int.mul_comm b c]];exact Ow g0 f0
  .rintro zs Hc ⟨S1,h1,qs,fl,gn⟩ zl;rw[xl,ln,aP,aK (Nat.le_of_eq ln)]at gn;exact k D1 Hc zs qs S1 g1 h1 (fl.same jq) gn
inductive Jt(K:Frag)(vs:Μ)(H:Hp)(Q:VK):Prop
 |mk (p pg pq:Addr) (x y:Int) (g q:Ι) (h0:vs=[.ref p,.ref pg,.ref pq]) (h1:H p=some (.tup [.int x,.int y])) (h2:0<=x) (h3:x<y) (h4:y<=100) (h5:SqT K H pg [.int g.1,.int g.2]) (h6:0<g.2) (h7:Bn 586 g.1) (h8:Bn 490 g.2) (h9:H pq=some (.tup [.int q.1,.int q.2])) (h10:0<q.2) (h11:Bn 1077 q.1) (h12:Bn 980 q.2) (h13:∀r z o H',Same H H'->H' r=some (.tup [.int z,.int o])->Fb (z,o)->vl (z,o)=vl g+vl (x,y)/(1-vl (x,y))*vl q->Q (.ref r) H'):Jt K vs H Q
def Jo(K:Frag):Sp:=λvs H Q _=>Jt K vs H Q
theorem abI(F:Fun K yh yh Qz f fd)(T:Txt K mg D):cF P w K mg base CX0 1 f fd yu (Jo K):=by
 refine F.ok RK ?_ ?_
 .rintro _ _ _ _ ⟨p,pg,pq,x,y,g,q,rfl,_⟩;rfl
 .rintro cdv A outer s H _ Q E hr ⟨p,pg,pq,x,y,g,q,rfl,hp,x0,xy,y1,hg,g0,gb1,gb2,hq,q0,qb1,qb2,k⟩;refine⟨_,(bL (cj (i:=3) RK.nd rfl (Or.inl rfl) (bU oZ (bQ cG (pv 0) bG (λ_ _=>rfl)) (bQ cG (pv 0) bG (λ_ _=>rfl))))
   (bM (cg (dH (bD (bU dW (bU cL (bU cL (bQ cG (pv 1) bG (λ_ _=>rfl)) (pv 3)) (bQ cG (pv 2) bG (λ_ _=>rfl))) (bU cL (bU cL (bQ cG (pv 0) bG (λ_ _=>rfl)) (bQ cG (pv 2) bG (λ_ _=>rfl))) (bQ cG (pv 1) bG (λ_ _=>rfl)))) (bD (bU cL (bU cL (bQ cG (pv 1) bG (λ_ _=>rfl)) (pv 3)) (bQ cG (pv 2) bG (λ_ _=>rfl))) bF)))))),?_⟩
  refine bV λR1 hR1=>?_;have y0:0<y:=by exact Int.lt_of_le_of_lt x0 xy
  have bn:∀z:Int,0<=z->z<=100->Bn 2 z:=λz h1 h2=>by unfold Bn;lia
  have bx:=bn x x0 (Int.le_trans (XZ xy) y1);have br:=bn (y-x) (Int.sub_nonneg_of_le (XZ xy)) (by lia);have m1:=Bn.mul gb1 br;have m2:=Bn.mul m1 qb2;have m3:=Bn.mul bx qb1;have m4:=Bn.mul m3 gb2;have m5:=Bn.mul gb2 br;have m6:=Bn.mul m5 qb2;refine cC ⟨_,rfl,p,_,1,_,rfl,rfl,.of hp,cR,_,rfl,p,_,0,_,rfl,rfl,.of hp,c7,_,_,rfl,rfl,?_⟩;subst hR1;dsimp only[cN,L2.start,List.set_cons_succ,List.set_cons_zero];refine dX ⟨_,rfl,pg,_,0,_,rfl,rfl,hg,c7,_,rfl,_,_,rfl,rfl,⟨gb1.bd (by decide),br.bd (by decide)⟩,_,rfl,pq,_,1,_,rfl,rfl,.of hq,cR,_,_,rfl,rfl,⟨m1.bd (by decide),qb2.bd (by decide)⟩,_,rfl,p,_,0,_,rfl,rfl,.of hp,c7,_,rfl,pq,_,0,_,rfl,rfl,.of hq,c7,_,_,rfl,rfl,⟨bx.bd (by decide),qb1.bd (by decide)⟩,_,rfl,pg,_,1,_,rfl,rfl,hg,cR,_,_,rfl,rfl,⟨m3.bd (by decide),gb2.bd (by decide)⟩,_,_,rfl,rfl,_,rfl,pg,_,1,_,rfl,rfl,hg,cR,_,rfl,_,_,rfl,rfl,⟨gb2.bd (by decide),br.bd (by decide)⟩,_,rfl,pq,_,1,_,rfl,rfl,.of hq,cR,_,_,rfl,rfl,⟨m5.bd (by decide),qb2.bd (by decide)⟩,d8,λr H1 S1 f1 h1=>?_⟩;have r0:0<y-x:=by lia
  refine k r _ _ H1 S1 h1 ⟨Xs (Xs g0 r0) q0,(Bn.add (m2.up (b:=1600) (by decide)) (m4.up (by decide))).bd (by decide),m6.bd (by decide)⟩ ?_;rw[Int.mul_assoc g.1,Int.mul_assoc g.2,Dq (x:=g.1) (u:=x*q.1) g0 (Xs r0 q0),Aa r0 q0,adl y0 xy]
theorem adh{t:TS}{R:Ends}{σ:L2.St}{H:Hp}(h:∀R',R'=R->t R' σ H):t R σ H:=h R rfl
inductive Jb(K:Frag)(vs:Μ)(H:Hp)(Q:VK):Prop
 |mk (t t1 t2 p la lb:Addr) (x y:Int) (zs1 zs2 xs ys:Μ) (fs gs qs rs:Ψ) (h0:vs=[.ref t,.ref p,.ref la,.ref lb]) (h1:H t=some (.tup [.ref t1,.ref t2])) (h2:H t1=some (.lst zs1)) (h3:H t2=some (.lst zs2)) (h4:FL H zs1 qs) (h5:FL H zs2 rs) (h6:H p=some (.tup [.int x,.int y])) (h7:0<=x) (h8:x<y) (h9:y<=100) (h10:H la=some (.lst xs)) (h11:H lb=some (.lst ys)) (h12:FLK K H xs fs) (h13:FLK K H ys gs) (h14:Wb fs) (h15:Wb gs) (h16:fs.length=gs.length) (h17:gs.length<=12) (h18:YD (x,y) fs gs qs rs) (h19:∀H',Same H H'->Q (.bl true) H'):Jb K vs H Q
def IW(K:Frag):Sp:=λvs H Q _=>Jb K vs H Q
theorem Za(F:Fun K yp yp Pr f fd)(T:Txt K mg D)(ji:OkF P w K mg base 3 jy jH (Oc K))(Nz:OkF P w K mg base 1 wj wJ (Jx K))(tD:OkF P w K mg base 1 uw uD (Bm K))(Gd:OkF P w K mg base 1 yh yu (Jo K))(M7:OkF P w K mg base 1 Bo Bs (Ph K)):cF P w K mg base CX0 4 f fd yL (IW K):=by
 refine F.ok qd ?_ ?_
 .rintro _ _ _ _ ⟨t,t1,t2,p,la,lb,x,y,zs1,zs2,xs,ys,fs,gs,qs,rs,rfl,_⟩;rfl
 .rintro cdv A outer s H _ Q E hr ⟨t,t1,t2,p,la,lb,x,y,zs1,zs2,xs,ys,fs,gs,qs,rs,rfl,ht,h1,h2,fl1,fl2,hp,x0,xy,y1,ha,hb,fa,fb,wa,wb,ln,n12,bd,q⟩;have xl:=fa.length;have yl:=fb.length;have lq:=bd.lenq;have lr:=bd.lenr;have ok:∀(zs:Ψ)(M:Rat),ady (x,y) gs M zs->∀z∈zs,0<z.2/\Int.gcd z.1 z.2=1:=λzs M b z hz=>by
   obtain⟨k,ek⟩:=aW hz;have lk:k<gs.length:=by rw[<- b.len];exact(ao.mp ek).1
   obtain⟨a1,a2,_⟩:=b.at_ k _ z (aj lk) ek;exact⟨a1,a2⟩
  have okq:(∀z∈qs,0<z.2/\Int.gcd z.1 z.2=1)/\∀z∈rs,0<z.2/\Int.gcd z.1 z.2=1:=by
   by_cases n0:0<gs.length
   .obtain⟨m,M,_,_,b1,b2⟩:=bd.ex n0;exact⟨ok qs m b1,ok rs M b2⟩
   .have e1:qs=[]:=List.eq_nil_of_length_eq_zero (by lia);have e2:rs=[]:=List.eq_nil_of_length_eq_zero (by lia);rw[e1,e2];exact⟨by simp,by simp⟩
  refine⟨_,(bL (cW (PW.pt (pw_or (dh (cV (b_ gY (by rfl) T.cH boot_isinstance (bD (pv 0) (bD (je (v:=.ty "tuple") (by rfl) T.MP boot_tuple rfl) bF))) (λ_=>rfl))) (pw_or1 (cI Ce (b_ Yy (by rfl) T.iH PySem.boot_len (bD (pv 0) bF)) bG (cJ _)))))
    (bM (cg fU))
    cA)
   (bL (cW (PW.pt (pw_or (dh (cV (bO ji hr.md (by rfl) (bD (bQ cQ (pv 0) bG (λ_ _=>rfl)) (bD (b_ dw (by rfl) T.iH PySem.boot_len (bD (pv 2) bF)) bF))) (λ_=>rfl))) (pw_or1 (dh (cV (bO ji hr.md (by rfl) (bD (bQ cQ (pv 0) bG (λ_ _=>rfl)) (bD (b_ dw (by rfl) T.iH PySem.boot_len (bD (pv 2) bF)) bF))) (λ_=>rfl))))))
    (bM (cg fU))
    cA)
   (bL (cj (i:=4) qd.nd rfl (Or.inl rfl) (bO Nz hr.md (by rfl) (bD (pv 2) (bD (pv 3) bF))))
   (bL (cj (i:=5) qd.nd rfl (Or.inl rfl) mX)
   (bL (cj (i:=6) qd.nd rfl (Or.inl rfl) mX)
   (bL (iR PassesOwn.never rfl (cZ ((pv 4)).mono) (cM (i:=7) qd.nd rfl (Or.inl rfl))
    (bL (cW (PW.pt (pw_or (cI xO (pv 5) mX (cJ _)) (pw_or1 (cV (bO tD hr.md (by rfl) (bD (pv 7) (bD (pv 5) bF))) (λ_=>rfl)))))
     (bM (cj (i:=5) qd.nd rfl (Or.inl rfl) (pv 7)))
     cA)
    (bM (cW (PW.pt (pw_or (cI xO (pv 6) mX (cJ _)) (pw_or1 (cV (bO tD hr.md (by rfl) (bD (pv 6) (bD (pv 7) bF))) (λ_=>rfl)))))
     (bM (cj (i:=6) qd.nd rfl (Or.inl rfl) (pv 7)))
     cA))))
   (bL (iR PassesOwn.never rfl (j_ (by rfl) T.qw (bD (b_ dw (by rfl) T.iH PySem.boot_len (bD (pv 2) bF)) bF).mono) (cM (i:=8) qd.nd rfl (Or.inl rfl))
    (bL (cW (dh (cV (bO M7 hr.md (by rfl) (bD (bQ bY (bQ cQ (pv 0) bG (λ_ _=>rfl)) (pv 8) (λ_ _=>rfl)) (bD (bO Gd hr.md (by rfl) (bD (pv 1) (bD (bQ bY (pv 3) (pv 8) (λ_ _=>rfl)) (bD (pv 5) bF)))) bF))) (λ_=>rfl)))
     (bM (cg fU))
     cA)
    (bM (cW (dh (cV (bO M7 hr.md (by rfl) (bD (bQ bY (bQ cQ (pv 0) bG (λ_ _=>rfl)) (pv 8) (λ_ _=>rfl)) (bD (bO Gd hr.md (by rfl) (bD (pv 1) (bD (bQ bY (pv 3) (pv 8) (λ_ _=>rfl)) (bD (pv 6) bF)))) bF))) (λ_=>rfl)))
     (bM (cg fU))
     cA))))
   (bM (cg fU))))))))),?_⟩
  refine bV λR1 hR1=>?_;refine cT ⟨_,rfl,.ref t,_,"tuple",rfl,by simp,Xb ht,true,rfl,_,rfl,t,_,rfl,ht,rfl,false,ZH (λb=>V.bl (!b)) (Zs rfl),?_⟩;show R1 _ _ _;subst hR1;refine bV λR1 hR1=>?_;refine cT ⟨_,rfl,t,_,0,_,rfl,rfl,ht,c7,_,rfl,la,xs,rfl,ha,t1,zs1,qs,xs.length,rfl,h1,PL fl1,by lia,by lia,okq.1,λH1 S1=>⟨true,rfl,_,rfl,t,_,1,_,rfl,rfl,S1 _ _ ht,cR,_,rfl,la,xs,rfl,S1 _ _ ha,t2,zs2,rs,xs.length,rfl,S1 _ _ h2,PL (fl2.same S1),by lia,by lia,okq.2,λH2 S2=>⟨true,rfl,?_⟩⟩⟩;have S02:=S1.trans S2;show R1 _ _ _;subst hR1;refine bV λR1 hR1=>?_;refine cC ⟨_,rfl,_,rfl,la,lb,xs,ys,fs,gs,rfl,S02 _ _ ha,S02 _ _ hb,fa.same S02,fb.same S02,wa,wb,ln,n12,λts H3 zs us S3 f3 h3 fl3 gn=>?_⟩;have S03:=S02.trans S3;have ul:=gn.len;have zl:=fl3.length;have fbu:∀q∈us,Fb q:=λq h=>by
   obtain⟨_,_,_,_,_,_,a,b,c,_⟩:=gn.fb ln h;exact⟨a,b.bd (by decide),c.bd (by decide)⟩
  subst hR1;dsimp only[cN,L2.start,List.set_cons_succ,List.set_cons_zero];refine cC ?_;dsimp only[cN,List.set_cons_succ,List.set_cons_zero];refine cC ?_;dsimp only[cN,List.set_cons_succ,List.set_cons_zero];refine bV λR1 hR1=>?_;refine cT (gC ⟨_,rfl,ts,zs,rfl,h3,λk σ H'=>∃v5 v6 u7,σ=[some (.ref t),some (.ref p),some (.ref la),some (.ref lb),some (.ref ts),some v5,some v6,u7,none]/\H'=H3/\((k=0/\v5=.non/\v6=.non)\/∃pl ph ml mh,v5=.ref pl/\v6=.ref ph/\H3 pl=some (.tup [.int ml.1,.int ml.2])/\ml∈us/\(∀i q,i<k->us[i]?=some q->vl ml<=vl q)/\H3 ph=some (.tup [.int mh.1,.int mh.2])/\mh∈us/\∀i q,i<k->us[i]?=some q->vl q<=vl mh),⟨_,_,none,rfl,rfl,.inl ⟨rfl,rfl,rfl⟩⟩,?_,?_⟩)
  .rintro k x' σ' H' hk ⟨v5,v6,u7,rfl,rfl,hv⟩ hx';obtain⟨pt,tt,rfl,et,htt⟩:=fl3.get hk;have tm:=aB et;dsimp only[cN,List.set_cons_succ,List.set_cons_zero];rcases hv with⟨rfl,rfl,rfl⟩|⟨pl,ph,ml,mh,rfl,rfl,hl,lm,ll,hh,hm,lh⟩
   .refine cT ⟨_,rfl,rfl,true,ZH V.bl (Zs rfl),_,rfl,?_⟩;dsimp only[cN,List.set_cons_succ,List.set_cons_zero];refine⟨_,rfl,rfl,true,ZH V.bl (Zs rfl),_,rfl,hx',_,_,_,rfl,rfl,.inr ⟨pt,pt,tt,tt,rfl,rfl,htt,tm,λi q hi e=>?_,htt,tm,λi q hi e=>?_⟩⟩
    .obtain rfl:i=0:=by exact Nat.eq_zero_of_le_zero (Nat.le_of_lt_succ hi)
     rw[et]at e;cases e;exact Rat.le_refl
    .obtain rfl:i=0:=by exact Nat.eq_zero_of_le_zero (Nat.le_of_lt_succ hi)
     rw[et]at e;cases e;exact Rat.le_refl
   .refine bV λR2 hR2=>?_;refine adh λEE hEE=>?_;have second:∀(pl':Addr)(ml':Ι),H' pl'=some (.tup [.int ml'.1,.int ml'.2])->ml'∈us->(∀i q,i<k+1->us[i]?=some q->vl ml'<=vl q)->R2 EE [some (.ref t),some (.ref p),some (.ref la),some (.ref lb),some (.ref ts),some (.ref pl'),some (.ref ph),some (.ref pt),none] H':=by
     intro pl' ml' hl' lm' ll';subst hR2;subst hEE;refine⟨_,rfl,rfl,false,ZH V.bl (Zp λz=>by cases z),_,rfl,_,rfl,ph,pt,mh,tt,rfl,.of hh,.of htt,fbu mh hm,fbu tt tm,λb hb=>⟨b,rfl,?_⟩⟩;cases b with
     |true =>
      have lt:=hb.mp rfl;refine⟨_,rfl,hx',_,_,_,rfl,rfl,.inr ⟨pl',pt,ml',tt,rfl,rfl,hl',lm',ll',htt,tm,λi q hi e=>?_⟩⟩;by_cases ik:i=k
      .subst ik;rw[et]at e;cases e;exact Rat.le_refl
      .exact Rat.le_of_lt (Zt (lh i q (XY (Nat.le_of_lt_succ hi) ik) e) lt)
     |false =>
      refine⟨hx',_,_,_,rfl,rfl,.inr ⟨pl',ph,ml',mh,rfl,rfl,hl',lm',ll',hh,hm,λi q hi e=>?_⟩⟩;by_cases ik:i=k
      .subst ik;rw[et]at e;cases e;exact Rat.not_lt.mp λz=>by have:=hb.mpr z;cases this
      .exact lh i q (XY (Nat.le_of_lt_succ hi) ik) e
    refine cT ⟨_,rfl,rfl,false,ZH V.bl (Zp λz=>by cases z),_,rfl,_,rfl,pt,pl,tt,ml,rfl,.of htt,.of hl,fbu tt tm,fbu ml lm,λb hb=>⟨b,rfl,?_⟩⟩;cases b with
    |true =>
     have lt:=hb.mp rfl;refine⟨_,rfl,second pt tt htt tm λi q hi e=>?_⟩;by_cases ik:i=k
     .subst ik;rw[et]at e;cases e;exact Rat.le_refl
     .exact Rat.le_trans (Rat.le_of_lt lt) (ll i q (XY (Nat.le_of_lt_succ hi) ik) e)
    |false =>
     refine second pl ml hl lm λi q hi e=>?_;by_cases ik:i=k
     .subst ik;rw[et]at e;cases e;exact Rat.not_lt.mp λz=>by have:=hb.mpr z;cases this
     .exact ll i q (XY (Nat.le_of_lt_succ hi) ik) e
  .rintro σ' H' ⟨v5,v6,u7,rfl,rfl,hv⟩ _;rw[zl]at hv;subst hR1;dsimp only;refine bV λR1 hR1=>?_;refine cT (zu ⟨_,rfl,la,xs,rfl,S03 _ _ ha,xs.length,rfl,by lia,λk σ Hx=>(∃u8,σ=[some (.ref t),some (.ref p),some (.ref la),some (.ref lb),some (.ref ts),some v5,some v6,u7,u8])/\Same H' Hx,⟨⟨none,rfl⟩,λ_ _ z=>z⟩,?_,?_⟩)
   .rintro k σ' Hx hk ⟨⟨u8,rfl⟩,Sx⟩;have n0:0<gs.length:=by lia
    rcases hv with⟨z,_⟩|⟨pl,ph,ml,mh,rfl,rfl,hl,lm,ll,hh,hm,lh⟩
    .lia
    obtain⟨k1,f1',g1',a1,a2,a3,a4,a5,a6,a7⟩:=gn.fb ln hm;obtain⟨k2,f2',g2',b1,b2,b3,b4,b5,b6,b7⟩:=gn.fb ln lm;obtain⟨m,M,im,iM,bq,br⟩:=bd.ex n0;have em:m=vl ml:=im.uniq ⟨⟨k2,f2',g2',b1,b2,b7⟩,λi f' g' e1 e2=>by
     obtain⟨q,hq,e⟩:=gn.mem e1 e2;obtain⟨j,ej⟩:=aW hq;rw[<- e];exact ll j q (ao.mp ej).1 ej⟩
    have eM:M=vl mh:=iM.uniq ⟨⟨k1,f1',g1',a1,a2,a7⟩,λi f' g' e1 e2=>by
     obtain⟨q,hq,e⟩:=gn.mem e1 e2;obtain⟨j,ej⟩:=aW hq;rw[<- e];exact lh j q (ao.mp ej).1 ej⟩
    have lk:k<gs.length:=by lia
    have eg:gs[k]?=some gs[k]:=aj lk;have eq:qs[k]?=some (qs[k]'(by lia)):=aj _;have er:rs[k]?=some (rs[k]'(by lia)):=aj _;obtain⟨c1,_,c3,c4,c5⟩:=bq.at_ k _ _ eg eq;obtain⟨d1,_,d3,d4,d5⟩:=br.at_ k _ _ eg er;obtain⟨g0,gb1,gb2⟩:=wb _ (aV lk);generalize gs[k]=g at *;generalize qs[k]'(by lia)=q1 at *;generalize rs[k]'(by lia)=r1 at *;have ey:ys[k]?=some (ys[k]'(by lia)):=aj _;obtain⟨pg,g',y1',eg',hpg⟩:=fb.get ey;rw[y1']at ey;rw[eg]at eg';cases eg';have ez1:zs1[k]?=some (zs1[k]'(by rw[fl1.length];lia)):=aj _;obtain⟨p1,q1',z1',eq',hp1⟩:=fl1.get ez1;rw[z1']at ez1;rw[eq]at eq';cases eq';have ez2:zs2[k]?=some (zs2[k]'(by rw[fl2.length];lia)):=aj _;obtain⟨p2,r1',z2',er',hp2⟩:=fl2.get ez2;rw[z2']at ez2;rw[er]at er';cases er';have SX:=S03.trans Sx;dsimp only[cN,List.set_cons_succ,List.set_cons_zero];refine bV λR2 hR2=>?_;refine cT (zY ⟨_,rfl,t,_,0,_,rfl,rfl,SX _ _ ht,c7,_,rfl,t1,zs1,_,_,rfl,rfl,SX _ _ h1,cu ez1,_,rfl,_,rfl,_,rfl,lb,ys,_,_,rfl,rfl,SX _ _ hb,cu ey,_,rfl,p,pg,pl,x,y,g,ml,rfl,SX _ _ hp,x0,xy,y1,SX.tup hpg,g0,gb1,gb2,Sx _ _ hl,b4,b5,b6,λr z o Hy Sy hr1 fzo vz=>⟨p1,r,q1,(z,o),rfl,.of (Sy _ _ (SX _ _ hp1)),.of hr1,⟨c1,c3.bd (by decide),c4.bd (by decide)⟩,fzo,λb hbb=>⟨b,rfl,?_⟩⟩⟩);rw[hbb.mpr (by rw[c5,vz,em])];have SY:=SX.trans Sy;show R2 _ _ _;subst hR2;refine aal (zY ⟨_,rfl,t,_,1,_,rfl,rfl,SY _ _ ht,cR,_,rfl,t2,zs2,_,_,rfl,rfl,SY _ _ h2,cu ez2,_,rfl,_,rfl,_,rfl,lb,ys,_,_,rfl,rfl,SY _ _ hb,cu ey,_,rfl,p,pg,ph,x,y,g,mh,rfl,SY _ _ hp,x0,xy,y1,SY.tup hpg,g0,gb1,gb2,Sy _ _ (Sx _ _ hh),a4,a5,a6,λr' z' o' Hz Sz hr2 fzo' vz'=>⟨p2,r',r1,(z',o'),rfl,.of (Sz _ _ (SY _ _ hp2)),.of hr2,⟨d1,d3.bd (by decide),d4.bd (by decide)⟩,fzo',λb' hb'=>⟨b',rfl,?_⟩⟩⟩);rw[hb'.mpr (by rw[d5,vz',eM])];exact⟨⟨_,rfl⟩,Sx.trans (Sy.trans Sz)⟩
   .rintro σ' Hx ⟨⟨u8,rfl⟩,Sx⟩;subst hR1;exact q Hx (S03.trans Sx)
inductive SQ(K:Frag)(vs:Μ)(H:Hp)(Q:VK):Prop
 |mk (t p r la:Addr) (s:Ι) (ql:List (Option Nat)) (fcss:Γ) (xs:Μ) (fs:Ψ) (h0:vs=[.ref t,.ref p,.ref r,.ref la]) (h1:H t=some (.lst (ql.map stV))) (h2:H p=some (.tup [.int s.1,.int s.2])) (h3:0<s.2) (h4:Bn 40 s.1) (h5:Bn 40 s.2) (h6:Ia H r fcss) (h7:(∀fcs∈fcss,∀fc∈fcs,0<fc.1.2/\Bn 40 fc.1.1/\Bn 40 fc.1.2)) (h8:H la=some (.lst xs)) (h9:FLK K H xs fs) (h10:Wb fs) (h11:fs.length=fcss.length) (h12:fcss.length<=12) (h13:rN s fs fcss (ni fcss) ql) (h14:∀H',Same H H'->Q (.bl true) H'):SQ K vs H Q
def Tn(K:Frag):Sp:=λvs H Q _=>SQ K vs H Q
theorem adM{qs:List Rat}{ws:Ψ}{q:Option Nat}(e:ws.map vl=qs)(h:(qs=[]->q=none)/\(qs≠[]->∃j,q=some j/\xG qs 0 j)):aae ws (stV q):=by
 by_cases z:qs=[]
 .refine .inl ⟨?_,by rw[h.1 z];rfl⟩;rw[z]at e;exact List.map_eq_nil_iff.mp e
 .obtain⟨j,rfl,b⟩:=h.2 z;subst e;have jl:=b.lt;rw[ak]at jl;have gd:∀(i:Nat)g,ws[i]?=some g->(ws.map vl).getD i 0=vl g:=λi g e=>by rw[au,aq,e];rfl
  have ej:ws[j]?=some ws[j]:=aj jl;refine .inr ⟨j,ws[j],rfl,ej,λg hg=>?_,λi g hi eg=>?_⟩
  .obtain⟨i,ei⟩:=aW hg;have:=b.le i (by rw[ak];exact(ao.mp ei).1);rwa[gd i g ei,gd j _ ej]at this
  .rcases b.own with z|⟨_,fst⟩
   .lia
   .have:=fst i hi;rwa[gd i g eg,gd j _ ej]at this
theorem KR(F:Fun K lF lF qC f fd)(T:Txt K mg D)(Ub:OkF P w K mg base 1 Br Bx (Ni K))(Mq:OkF P w K mg base 2 yM wW JH):cF P w K mg base CX0 3 f fd lE (Tn K):=by
 refine F.ok tW ?_ ?_
 .rintro _ _ _ _ ⟨t,p,r,la,s,ql,fcss,xs,fs,rfl,_⟩;rfl
 .rintro cdv A outer s H _ Q E hr ⟨t,p,r,la,sh,ql,fcss,xs,fs,rfl,ht,hp,s0,b1,b2,rml,pays,ha,fa,wa,fl,n12,ma,q⟩;obtain⟨rs,hr',xl,xa⟩:=rml.ex;have ml:=ma.len;have fnl:(ni fcss).length=fcss.length:=ak ..;have rf:Same H H:=λ_ _ z=>z;have z9:101<sizeLine:=by decide
  refine⟨_,(bL (cW (PW.pt (pw_or (dh (cV (b_ gY (by rfl) T.cH boot_isinstance (bD (pv 0) (bD (je (v:=.ty "list") (by rfl) T.DY boot_list rfl) bF))) (λ_=>rfl))) (pw_or1 (cI Ce (b_ dw (by rfl) T.iH PySem.boot_len (bD (pv 0) bF)) (b_ dw (by rfl) T.iH PySem.boot_len (bD (pv 2) bF)) (cJ _)))))
    (bM (cg fU))
    cA)
   (bL (iR PassesOwn.never rfl (DP (by rfl) T.Lz (bD (pv 0) (bD (pv 2) bF)).mono) (fV (n:=2) rfl (cD (cM (i:=4) tW.nd rfl (Or.inl rfl)) (cD (cM (i:=5) tW.nd rfl (Or.inl rfl)) fL)))
    (bM (cW (dh (cV (bO Mq hr.md (by rfl) (bD (iY (bN qC) vL vL ["_law_one"] (cZ ((pv 5)).mono) (d7 (i:=0)) dz (bO Ub hr.md (by rfl) (bD (pv 2) (bD (pv 0) (bD (pv 4) bF))))) (bD (pv 4) bF))) (λ_=>rfl)))
     (bM (cg fU))
     cA)))
   (bM (cg fU)))),?_⟩
  refine bV λR1 hR1=>?_;refine cT ⟨_,rfl,.ref t,_,"list",rfl,by simp,Bp ht,true,rfl,_,rfl,t,_,rfl,ht,_,rfl,r,rs,rfl,hr',rfl,false,ZH (λb=>V.bl (!b)) (Zs (by rw[ak,ml,fnl,xl])),?_⟩;show R1 _ _ _;subst hR1;refine bV λR1 hR1=>?_;refine cT (Le ⟨_,rfl,_,rfl,t,r,_,rs,rfl,ht,hr',by rw[ak];lia,λk σ H'=>(∃u4 u5,σ=[some (.ref t),some (.ref p),some (.ref r),some (.ref la),u4,u5])/\Same H H',⟨⟨none,none,rfl⟩,rf⟩,?_,?_⟩)
  .rintro k v w σ' H' tq hv hw ⟨⟨u4,u5,rfl⟩,S1⟩ _ _ ftq;have Sq:Same H' (upd H' tq (.tup [v,w])):=Same.upd ftq;have eq:upd H' tq (.tup [v,w]) tq=some (.tup [v,w]):=bI;generalize upd H' tq (.tup [v,w])=H1 at Sq eq ⊢;have SS:=S1.trans Sq;have lk:k<fcss.length:=by rw[<- xl];exact(ao.mp hw).1
   have ef:fcss[k]?=some fcss[k]:=aj lk;obtain⟨dl,ds,exj,hdl,d64,rm⟩:=xa k _ ef;rw[hw]at exj;cases exj;rw[aq]at hv;cases eo:ql[k]? with
   |none=>rw[eo]at hv;cases hv
   |some qk =>
    rw[eo]at hv;cases hv;have e1:(ni fcss)[k]?=some (if 0<fcss[k].length then some 0 else none):=by unfold ni;rw[aq,ef];rfl
    obtain⟨m1,m2⟩:=ma.at_ k _ qk _ e1 eo ef;have pk:=λfc=>pays _ (aV lk) fc;generalize fcss[k]=fcs at *;have fds:=rm.len;refine⟨tq,_,rfl,eq,rfl,_,_,rfl,_,_,rfl,rfl,?_⟩;dsimp only[cN,List.set_cons_succ,List.set_cons_zero];refine aal (zY (dM ⟨_,rfl,dl,_,rfl,SS _ _ hdl,by rw[ak];exact aM d64 (by decide),λD3 g3=>⟨λi ys Hc=>Same H1 Hc/\Hc D3=some (.lst ys)/\∃ws,FL (del [D3] Hc) ys ws/\ws.length=i/\(∀f∈ws,Fb f)/\ws.map vl=(jk sh fs fcs).take i,⟨Same.upd g3,bI,[],.nil,rfl,by simp,rfl⟩,?_,?_⟩⟩))
    .rintro i y ys Hc hi ⟨S7,h7,ws,fl7,ln7,fb7,v7⟩ _ hc;have li:i<ds.length:=by have:=(ao.mp hi).1;rw[ak]at this;exact this
     have ed:ds[i]?=some ds[i]:=aj li;have ec:fcs[i]?=some (fcs[i]'(by lia)):=aj _;have mc:=aV (l:=fcs) (n:=i) (by lia);rw[aq,ed]at hi;cases hi;have lD:=rm.at_ i _ _ ed ec;generalize ds[i]=dd at *;generalize fcs[i]'(by lia)=fc at *;have S8:=SS.trans S7;obtain⟨p1,p2,p3⟩:=pk fc mc;refine⟨_,rfl,_,rfl,_,rfl,p,dd,la,sh,fcss.length,fc,xs,fs,rfl,S8 _ _ hp,s0,b1,b2,lD.same S8,p1,p2,p3,S8 _ _ ha,fa.same S8,wa,fl,λt2 z y H8 S9 h8 y0 bz b_y v=>?_⟩;have h78:=S9 _ _ h7;have n8:t2∉[D3]:=by
      simp only[YR];exact i_ h8 h78 (by intro z;cases z)
     refine⟨h78,S9 _ _ hc,λb u e=>(bK (bH e g3)).trans (S9 _ _ (S7 _ _ e)),bI,ws++[(z,y)],?_,by rw[aA,ln7];rfl,λf hf=>?_,?_⟩
     .rw[pP (YR.mpr rfl)];exact(fl7.same (lM λb o _ e=>S9 _ _ e)).append (.cons (gK n8 h8) .nil)
     .rcases Y1.mp hf with hf|hf
      .exact fb7 f hf
      .rw[YR.mp hf];exact⟨y0,bz,b_y⟩
     .have eq:(jk sh fs fcs)[i]?=some (oR sh fc.1 fc.2 fs):=by unfold jk;rw[aq,ec];rfl
      rw[cB eq,bA,v7,<- v];rfl
    .rintro ys Hc ⟨S7,h7,ws,fl7,ln7,fb7,v7⟩ hy;rw[ak]at ln7 v7;have lq:(jk sh fs fcs).length=ds.length:=by unfold jk;rw[ak,fds]
     rw[<- lq,aP]at v7;refine⟨_,rfl,D3,stV qk,ys,ws,rfl,h7,fl7.same jq,fb7,by exact aM (Nat.le_of_eq ln7) d64,adM v7 ⟨λz=>?_,λz=>?_⟩,λH9 S9=>⟨true,rfl,?_⟩⟩
     .have:fcs=[]:=List.map_eq_nil_iff.mp z;rw[this]at m1;exact m1 rfl
     .have:0<fcs.length:=Nat.pos_of_ne_zero λw=>z (List.map_eq_nil_iff.mpr (List.eq_nil_of_length_eq_zero w));rw[ZY this]at m2;exact m2 0 rfl
     .have SZ:=Sq.trans (S7.trans S9);exact⟨SZ _ _ (S1 _ _ ht),SZ _ _ (S1 _ _ hr'),⟨_,_,rfl⟩,S1.trans SZ⟩
  .rintro σ' H' ⟨⟨u4,u5,rfl⟩,S1⟩ _ _;subst hR1;exact q H' S1
def Tz:Sp:=λvs H Q _=>∃(o:Addr)(v:V)(x:Str),vs=[.ref o,v,.str x]/\Odd H v/\¬Cw v/\∀H',Same H H'->Q (.bl true) H'
theorem TV(F:Fun K rY rY Ec f fd)(T:Txt K mg D)(qH:OkX P w K mg base 9 kW kJ (zA K D))(pN:OkX P w K mg base 9 jt jF (BL K D)):cF P w K mg base CX0 10 f fd rF Tz:=by
 refine F.ok vo ?_ ?_
 .rintro _ _ _ _ ⟨o,v,x,rfl,_⟩;rfl
 .rintro cdv A outer s H _ Q E hr ⟨o,v,x,rfl,ov,nb,q⟩;refine⟨_,(bL (aaP (i:=3) vo.nd rfl rfl (by rfl) T.QK T.RJ T.Q6 rfl rfl rfl (λ_ _ _ HF=>(bM (cW (cI mZ (pv 2) mQ (cJ _))
     (bM (dD (eN qH hr.md (by rfl) HF (bD (pv 0) (bD (pv 1) bF)))))
     (bM (dD (eN pN hr.md (by rfl) HF (bD (pv 0) (bD (pv 1) bF))))))))
    (λ_ _=>(bL (cj (i:=4) vo.nd rfl (Or.inl rfl) (jd (bD (b_ (iz (K':=K) rfl) (by rfl) T.cH boot_isinstance (bD (pv 3) (bD (vm (by rfl) T.aaX) bF))) (bD (b_ (iz (K':=K) rfl) (by rfl) T.cH boot_isinstance (bD (pv 3) (bD (vm (by rfl) T.GQ) bF))) (bD (b_ (iz (K':=K) rfl) (by rfl) T.cH boot_isinstance (bD (pv 3) (bD (vm (by rfl) T.zV) bF))) (bD (b_ (iz (K':=K) rfl) (by rfl) T.cH boot_isinstance (bD (pv 3) (bD (vm (by rfl) T.Yj) bF))) bF))))))
    (bL (cj (i:=4) vo.nd rfl (Or.inl rfl) (bU adw (pv 4) (jd (bD (b_ (iz (K':=K) rfl) (by rfl) T.cH boot_isinstance (bD (pv 3) (bD (vm (by rfl) T.Y8) bF))) (bD (b_ (iz (K':=K) rfl) (by rfl) T.cH boot_isinstance (bD (pv 3) (bD (vm (by rfl) T.adS) bF))) (bD (b_ (iz (K':=K) rfl) (by rfl) T.cH boot_isinstance (bD (pv 3) (bD (vm (by rfl) T.abN) bF))) (bD (b_ (iz (K':=K) rfl) (by rfl) T.cH boot_isinstance (bD (pv 3) (bD (vm (by rfl) T.ZF) bF))) bF)))))))
    (bM (cg (Ds (b_ (iz (K':=K) rfl) (by rfl) T.cH boot_isinstance (bD (pv 3) (bD (vm (by rfl) T.uQ) bF))) (Ds (b_ (iz (K':=K) rfl) (by rfl) T.cH boot_isinstance (bD (pv 3) (bD (je (v:=.ty "ValueError") (by rfl) T.Mv Fw rfl) bF))) (Ir (oE (show OpR _ _ (rIn K true)from Pj) fU (pv 4) rfl))))))))))
   (bM (cg fU))),?_⟩
  refine bV λR1 hR1=>?_;refine cT ⟨λC d σ H'=>C=.ref D.NoNumber/\d=none/\σ=[some (.ref o),some v,some (.str x),none,none]/\H'=H,?_,?_⟩
  .refine⟨_,rfl,rfl,decide (V.str x=V.str "bounds"),rfl,?_⟩;by_cases c:V.str x=V.str "bounds"
   .rw[Zs c];exact⟨_,rfl,_,rfl,o,v,rfl,ov,(λ_=>⟨rfl,rfl,rfl,rfl⟩),λz=>absurd z nb⟩
   .rw[Zp c];exact⟨_,rfl,_,rfl,o,v,rfl,ov,(λ_=>⟨rfl,rfl,rfl,rfl⟩),λz=>absurd z nb⟩
  .rintro _ _ σ' H' ⟨rfl,rfl,rfl,rfl⟩;refine⟨D.NoNumber,rfl,T.Vj,λa ha=>?_⟩;have S1:Same H' (upd H' a (XO a D.NoNumber none)):=Same.upd ha;have hX:upd H' a (XO a D.NoNumber none) a=some (XO a D.NoNumber none):=bI;generalize upd H' a (XO a D.NoNumber none)=H1 at S1 hX ⊢;have l4:4<=sizeLine:=by decide
   refine cC ⟨_,rfl,a,D.NoNumber,none,_,_,false,rfl,hX,.inr ⟨_,rfl,rfl⟩,T.iy,T.YK,_,rfl,a,D.NoNumber,none,_,_,false,rfl,hX,.inr ⟨_,rfl,rfl⟩,T.iy,T.abw,_,rfl,a,D.NoNumber,none,_,_,false,rfl,hX,.inr ⟨_,rfl,rfl⟩,T.iy,T.Um,_,rfl,a,D.NoNumber,none,_,_,false,rfl,hX,.inr ⟨_,rfl,rfl⟩,T.iy,T.Ym,l4,λp1 H2 S2 f2 h2=>?_⟩;have hX:=S2 _ _ hX;refine cC ⟨_,rfl,_,rfl,a,D.NoNumber,none,_,_,false,rfl,hX,.inr ⟨_,rfl,rfl⟩,T.iy,T.abQ,_,rfl,a,D.NoNumber,none,_,_,false,rfl,hX,.inr ⟨_,rfl,rfl⟩,T.iy,T.ac8,_,rfl,a,D.NoNumber,none,_,_,false,rfl,hX,.inr ⟨_,rfl,rfl⟩,T.iy,T.aaz,_,rfl,a,D.NoNumber,none,_,_,false,rfl,hX,.inr ⟨_,rfl,rfl⟩,T.iy,T.abt,l4,λp2 H3 S3 f3 h3=>⟨p1,p2,_,_,rfl,rfl,S3 _ _ h2,h3,(show 8<=sizeLine by decide),λp3 H4 S4 f4 h4=>?_⟩⟩;have hX:=S4 _ _ (S3 _ _ hX);have SS:=S1.trans (S2.trans (S3.trans S4));refine dX ⟨_,rfl,a,D.NoNumber,none,_,_,true,rfl,hX,.inr ⟨_,rfl,rfl⟩,T.iy,T.T9,true,rfl,?_⟩;rw[ZY rfl];refine⟨_,rfl,a,D.NoNumber,none,_,_,true,rfl,hX,.inl ⟨_,rfl,rfl⟩,T.iy,T.Qm,true,rfl,?_⟩;rw[ZY rfl];exact⟨_,rfl,p3,_,rfl,.inl (.of h4),rfl,rfl,q _ SS⟩
def R7(K:Frag)(D:Adr):Sp:=λvs H Q _=>qZ K D vs H Q λ_ _ _=>False
theorem WK{G:Hp}{a:Addr}{o:HO}(g:G a=none):L2.wo [a] (upd G a o)=G:=by
 funext b
 by_cases z:b=a
 .rw[z,Ep (by simp),g]
 .rw[oY (by simpa using z),bK z]
def HD(K:Frag)(D:Adr):Sp:=λvs H Q _=>zA K D vs H Q λ_ _ _=>False
def Ln(K:Frag)(D:Adr):Sp:=λvs H Q _=>BL K D vs H Q λ_ _ _=>False
theorem uy.pays{H:Hp}{o:Addr}{s:Ι}{fcss:Γ}(h:uy K D H o s fcss):∀fcs∈fcss,∀fc∈fcs,0<fc.1.2/\Bn 40 fc.1.1/\Bn 40 fc.1.2:=λfcs a fc b=>by
 obtain⟨p,rms,_,_,_,_,fl,dn⟩:=h.ex;obtain⟨k,ek⟩:=aW a;have lk:k<rms.length:=by rw[<- fl];exact(ao.mp ek).1
 have d:=dn k _ fcs (aj lk) ek;obtain⟨j,ej⟩:=aW b;have lj:j<(rms[k]).2.length:=by rw[d.len];exact(ao.mp ej).1
 exact(d.at_ j _ fc (aj lj) ej).2.pay
theorem zx{s:Ι}{fcss:Γ}{L M:Nat}{f1 f2:Φ}(h1:Rounds s fcss L f1)(h2:Rounds s fcss M f2):∀k,k<f1.length->k<f2.length->f1[k]?=f2[k]?
 |0,_,_=>by rw[h1.first,h2.first]
 |k+1,a,b=>by
  have ih:=zx h1 h2 k (Nat.lt_trans (X1 _) a) (Nat.lt_trans (X1 _) b);have e1:f1[k]?=some (f1[k]'(Nat.lt_trans (X1 _) a)):=aj _;have e2:f1[k+1]?=some f1[k+1]:=aj a;have e3:f2[k+1]?=some f2[k+1]:=aj b;have e4:=e1;rw[ih]at e4;rw[e2,e3,Xk (h1.next k _ _ e1 e2) (h2.next k _ _ e4 e3)]
structure El(H:Hp)(s:Ι)(fcss:Γ)(fss:Φ)(mm:Nat)(e b t1 t2 tp:Addr):Prop where
 ex:∃zs1 zs2 ql qs rs fs gs,H e=some (.tup [.ref b,.ref tp])/\H b=some (.tup [.ref t1,.ref t2])/\H t1=some (.lst zs1)/\H t2=some (.lst zs2)/\H tp=some (.lst (ql.map stV))/\FL H zs1 qs/\FL H zs2 rs/\fss[mm-1]?=some fs/\fss[mm]?=some gs/\YD s fs gs qs rs/\rN s fs fcss (ni fcss) ql
theorem El.off{H H':Hp}{s:Ι}{fcss:Γ}{fss:Φ}{mm:Nat}{e b t1 t2 tp:Addr}{as:Ε}(h:El H s fcss fss mm e b t1 t2 tp)(la:∀a∈as,∃zs,H a=some (.lst zs))(n1:t1∉as)(n2:t2∉as)(n3:tp∉as)(S:Same (L2.wo as H) H'):El H' s fcss fss mm e b t1 t2 tp:=by
 obtain⟨zs1,zs2,ql,qs,rs,fs,gs,a1,a2,a3,a4,a5,a6,a7,a8⟩:=h.ex;have tu:∀{p:Addr}{xs:Μ},H p=some (.tup xs)->H' p=some (.tup xs):=λ{p xs}e=>S _ _ ((oY λz=>by
  obtain⟨zs,hz⟩:=la p z;rw[hz]at e;cases e).trans e)
 exact⟨zs1,zs2,ql,qs,rs,fs,gs,tu a1,tu a2,S _ _ ((oY n1).trans a3),S _ _ ((oY n2).trans a4),S _ _ ((oY n3).trans a5),a6.imp λ_ _ _ e=>tu e,a7.imp λ_ _ _ e=>tu e,a8⟩
theorem El.same{H H':Hp}{s:Ι}{fcss:Γ}{fss:Φ}{mm:Nat}{e b t1 t2 tp:Addr}(h:El H s fcss fss mm e b t1 t2 tp)(S:Same H H'):El H' s fcss fss mm e b t1 t2 tp:=h.off (as:=[]) (by simp) (by simp) (by simp) (by simp) (nW.trans S)
theorem afg(F:Fun K Pb Pb Vt f fd)(T:Txt K mg D)(ada:∀a ns,OkF P w K mg base 1 zy zm (Ar K a ns))(aaF:OkF P w K mg base 2 yF wZ Je)(Zy:OkF P w K mg base 3 yr wU G6)(YB:∀a ns,OkF P w K mg base 5 yc wR (Jz K a ns))(ad1:OkF P w K mg base 9 Bf BJ (M5 K D))(Ye:OkF P w K mg base 1 jA jD jz)(Kf:OkF P w K mg base 8 fG gq (R7 K D))(uP:OkF P w K mg base 4 lU mD (Vr K))(xR:OkF P w K mg base 9 kW kJ (HD K D))(uK:OkF P w K mg base 9 jt jF (Ln K D))(zp:OkF P w K mg base 10 rY rF Tz)(Gg:OkF P w K mg base 4 yp yL (IW K))(qI:OkF P w K mg base 3 lF lE (Tn K)):cF P w K mg base CX0 11 f fd Uc (Nk K D.T_best_rounds):=by
 refine F.okB mU ?_ ?_
 .rintro _ _ _ _ ⟨a,ns,rfl,_⟩;rfl
 .rintro cdv A outer s H _ Q E hr ⟨a,ns,rfl,hs,hl,_,hT,hQ⟩;have uO:=ada a ns;have PJ:=(YB a ns).frame D.T_best_rounds;have Mr:=aaF.frame D.T_best_rounds;have P0:=Zy.frame D.T_best_rounds;have TQ:=ad1.frame D.T_best_rounds;have eG:=Ye.frame D.T_best_rounds;obtain⟨G0,g0,rfl,hs0⟩ : ∃G0:Hp,G0 D.T_best_rounds=none/\H=upd G0 D.T_best_rounds (.tbl #[])/\SqL K G0 a (ns.map V.int):=by
   refine⟨L2.wo [D.T_best_rounds] H,Ep (by simp),?_,?_⟩
   .funext b
    by_cases z:b=D.T_best_rounds
    .rw[z,bI];exact hT
    .rw[bK z,oY (by simpa using z)]
   .rcases hs with(e|⟨o,e⟩)|e
    .exact .inl (.inl ((oY (by simp;intro z;rw[z,hT]at e;cases e)).trans e))
    .exact .inl (.inr ⟨o,(oY (by simp;intro z;rw[z,hT]at e;cases e)).trans e⟩)
    .exact .inr e
  have up:∀{G:Hp}{b:Addr}{u:HO},G D.T_best_rounds=none->G b=some u->upd G D.T_best_rounds (.tbl #[]) b=some u:=λg e=>Same.upd g _ _ e;refine⟨_,(cU (PSB.mk (Ho (bO Mr hr.md (by rfl) (bD (bO uO hr.md (by rfl) (bD (pv 0) (bD bG bF))) bF)) (fV (n:=3) rfl (cD (cM (i:=10) mU.nd rfl (Or.inl rfl)) (cD (cM (i:=1) mU.nd rfl (Or.inl rfl)) (cD (cM (i:=11) mU.nd rfl (Or.inl rfl)) fL))))))
   (cU (PSB.mk (cj (i:=1) mU.nd rfl (Or.inl rfl) (b_ (Yg rfl) (by rfl) T.aji boot_max (bD bG (bD (pv 1) bF)))))
   (cU (PSB.mk (cj (i:=2) mU.nd rfl (Or.inl rfl) (bO P0 hr.md (by rfl) (bD (bO uO hr.md (by rfl) (bD (pv 0) (bD bG bF))) (bD (pv 11) bF)))))
   (cU (PSB.mk (cj (i:=3) mU.nd rfl (Or.inl rfl) (bO PJ hr.md (by rfl) (bD (pv 0) (bD bG (bD (pv 10) (bD (pv 11) bF)))))))
   (cU (PSB.mk (cj (i:=4) mU.nd rfl (Or.inl rfl) (bO TQ hr.md (by rfl) (bD (bO uO hr.md (by rfl) (bD (pv 0) (bD bG bF))) (bD (pv 2) (bD (pv 3) bF))))))
   (cU (PSB.mk (cj (i:=5) mU.nd rfl (Or.inl rfl) (bO eG hr.md (by rfl) (bD (bO uO hr.md (by rfl) (bD (pv 0) (bD bG bF))) (bD bG bF)))))
   (cU (PSB.mk (cj (i:=6) mU.nd rfl (Or.inl rfl) (bU dW bG (bU pW (bQ bY (pv 5) bG (λ_ _=>rfl)) (pv 1)))))
   (cU (PSB.mk (cj (i:=7) mU.nd rfl (Or.inl rfl) (bO Kf hr.md (by rfl) (bD (pv 4) (bD (pv 1) bF)))))
   (cU (PSB.mk (cW (dh (cV (bO uP hr.md (by rfl) (bD (pv 7) (bD (pv 1) (bD (pv 10) bF)))) (λ_=>rfl)))
    (bM (cg fU))
    cA))
   (cU (Vu (i:=8) mU.nd rfl (Or.inl rfl) (VL (Y_ (sS pR (agr (ZX (Et xT bG)) (sS pR (sS aai (sS aai (sS adE (sS adP (agi (ZQ (sS pR (sS pR N5))) (agc (ZX (bU N6 bG bG)) N5)))))))))) (bU cY (bQ bY (pv 5) bG (λ_ _=>rfl)) bG) (λ_ _=>rfl)))
   (cU (PSB.mk (cj (i:=9) mU.nd rfl (Or.inl rfl) (jd (bD (dH (bD (bO xR hr.md (by rfl) (bD (pv 4) (bD (pv 1) bF))) (bD (bO uK hr.md (by rfl) (bD (pv 4) (bD (pv 1) bF))) bF))) (bD (dH (bD (bO xR hr.md (by rfl) (bD (pv 4) (bD (pv 6) bF))) (bD (bO uK hr.md (by rfl) (bD (pv 4) (bD (pv 6) bF))) bF))) bF)))))
   (cU (PSB.mk (cW (PW.pt (pw_or (dh (cV (bO zp hr.md (by rfl) (bD (pv 4) (bD (pv 8) (bD mQ bF)))) (λ_=>rfl))) (pw_or1 (dh (cV (bO zp hr.md (by rfl) (bD (pv 4) (bD (pv 8) (bD mQ bF)))) (λ_=>rfl))))))
    (bM (cg fU))
    cA))
   (cU (PSB.mk (iR PassesOwn.never rfl (DP (by rfl) T.Lz (bD (pv 9) (bD (jd (bD (pv 1) (bD (pv 6) bF))) bF)).mono) (fV (n:=2) rfl (cD (cM (i:=12) mU.nd rfl (Or.inl rfl)) (cD (cM (i:=13) mU.nd rfl (Or.inl rfl)) fL)))
    (bL (cW (dh (cV (bO Gg hr.md (by rfl) (bD (bQ cQ (pv 12) bG (λ_ _=>rfl)) (bD (pv 2) (bD (bQ bY (pv 7) (bU oZ (pv 13) bG) (λ_ _=>rfl)) (bD (bQ bY (pv 7) (pv 13) (λ_ _=>rfl)) bF))))) (λ_=>rfl)))
     (bM (cg fU))
     cA)
    (bL (cW (dh (cV (bO qI hr.md (by rfl) (bD (bQ cQ (pv 12) bG (λ_ _=>rfl)) (bD (pv 2) (bD (pv 3) (bD (bQ bY (pv 7) (bU oZ (pv 13) bG) (λ_ _=>rfl)) bF))))) (λ_=>rfl)))
     (bM (cg fU))
     cA)
    (bL (dD (rH (bQ cQ (bQ cQ (pv 12) bG (λ_ _=>rfl)) bG (λ_ _=>rfl)) (bD (dH (bD bG (bD bG bF))) bF)))
    (bL (cW (cI Ce (b_ dw (by rfl) T.iH PySem.boot_len (bD (bQ cQ (bQ cQ (pv 12) bG (λ_ _=>rfl)) bG (λ_ _=>rfl)) bF)) (pv 10) (cJ _))
     (bM (cg fU))
     cA)
    (bL (dD (rH (bQ cQ (bQ cQ (pv 12) bG (λ_ _=>rfl)) bG (λ_ _=>rfl)) (bD (dH (bD bG (bD bG bF))) bF)))
    (bM (dD (rH (bQ cQ (pv 12) bG (λ_ _=>rfl)) (bD bG bF)))))))))))
   (cU (PSB.mk (cW (dh (cV (bO Gg hr.md (by rfl) (bD (bO xR hr.md (by rfl) (bD (pv 4) (bD (pv 1) bF))) (bD (pv 2) (bD (bQ bY (pv 7) (bU oZ (pv 1) bG) (λ_ _=>rfl)) (bD (bQ bY (pv 7) (pv 1) (λ_ _=>rfl)) bF))))) (λ_=>rfl)))
    (bM (cg fU))
    cA))
   (Hv (PSB.mk (cg (bO qI hr.md (by rfl) (bD (bO uK hr.md (by rfl) (bD (pv 4) (bD (pv 1) bF))) (bD (pv 2) (bD (pv 3) (bD (bQ bY (pv 7) (bU oZ (pv 1) bG) (λ_ _=>rfl)) bF)))))))))))))))))))))),?_⟩
  have z9:101<sizeLine:=by decide
  refine bV λR1 hR1=>?_;refine cT (aeZ ⟨_,rfl,0,rfl,hs,hl,by decide,G0,_,g0,rfl,_,rfl,λn m sm r1 G1 sz S1 h1 g1=>⟨r1,_,rfl,up g1 h1,rfl,_,_,rfl,_,_,rfl,_,_,rfl,rfl,?_⟩⟩);have n12:=sz.n12;have m40:=sz.m40;subst hR1;dsimp only[cN,L2.start,List.set_cons_succ,List.set_cons_zero];refine bV λR1 hR1=>?_;have em:(if(m:Int)>1 then(m:Int)else 1)=((max 1 m:Nat):Int):=by
   by_cases c:(m:Int)>1
   .rw[ZY c];lia
   .rw[ZZ c];lia
  refine cC ⟨_,rfl,1,_,rfl,?_⟩;rw[em];subst hR1;dsimp only[cN,List.set_cons_succ,List.set_cons_zero];refine bV λR1 hR1=>?_;refine cC ⟨_,rfl,2,rfl,Same.sql (S1.trans (Same.upd g1)) hs0,hl,by decide,_,rfl,G1,_,g1,rfl,_,sm,rfl,λps x y G2 S2 h2 x0 xy y1 gx g2=>?_⟩;have y100:y<=100:=Int.le_trans y1 (by cases sm<;>decide);have S02:=S1.trans S2;subst hR1;dsimp only[cN,List.set_cons_succ,List.set_cons_zero];refine bV λR1 hR1=>?_;refine cC ⟨_,rfl,_,rfl,_,rfl,G2,_,g2,rfl,5,n,sm,rfl,Same.sql S02 hs0,hl,by decide,n12,λr xs dss G3 S3 fr hr3 ld rd dm g3=>?_⟩;have m3:vN sm<=3:=by cases sm<;>decide
  have S03:=S02.trans S3;subst hR1;dsimp only[cN,List.set_cons_succ,List.set_cons_zero];refine bV λR1 hR1=>?_;refine cC ⟨_,rfl,1,rfl,Same.sql (S03.trans (Same.upd g3)) hs0,hl,by decide,_,rfl,_,rfl,G3,_,g3,rfl,_,x,y,ps,r,xs,dss,n,vN sm,mB sm,rfl,S3 _ _ h2,x0,xy,y100,gx,hr3,rd,ld,n12,by exact aM m3 (by decide),dm,λo G4 rms S4 fo hh ok hi g4=>?_⟩;obtain⟨fcss,fn,hn,rml,dmm⟩:=ZC hh ok hi (S4 _ _ (S3 _ _ h2)) x0 xy y100 (S4 _ _ hr3) (rd.same S4) ld n12 dm m3;obtain⟨L,hL,hm⟩:=aeK sz fn x0 xy y1 dmm;have hps:=S4 _ _ (S3 _ _ h2);have S04:=S03.trans S4;obtain⟨ms,ems⟩ : ∃ms,ms=max 1 m:=⟨_,rfl⟩;have hm:L^ms<=10^490:=aM (XU hL.L0 (by omega)) hm;rw[<- ems];have ms40:ms<=40:=by lia
  have ms1:1<=ms:=by lia
  clear hi hh ok rd hr3 dm fo fr
  subst hR1;dsimp only[cN,List.set_cons_succ,List.set_cons_zero];refine bV λR1 hR1=>?_;refine cC ⟨_,rfl,3,rfl,Same.sql (S04.trans (Same.upd g4)) hs0,hl,by decide,G4,_,g4,rfl,_,2,rfl,by decide,λlx us G5 S5 f5 h5 ln hx g5=>?_⟩;obtain⟨u,v,rfl⟩:=Ob ln;have hn:=hn.same S5;have rml:=rml.same S5;have hps:=S5 _ _ hps;obtain⟨fw,efw,fw1,fwm⟩ : ∃fw:Nat,1+u.fmod (ms:Int)=fw/\1<=fw/\fw<=ms:=by
   have m0:0<=u%(ms:Int):=Z3 _ (by lia);have m1:u%(ms:Int)<(ms:Int):=YY _ (by lia);exact⟨(1+u%(ms:Int)).toNat,by rw[aX _ (Wp _)];lia,by lia,by lia⟩
  subst hR1;dsimp only[cN,List.set_cons_succ,List.set_cons_zero];refine bV λR1 hR1=>?_;refine cC ⟨_,rfl,lx,_,0,_,rfl,rfl,up g5 h5,c7,_,rfl,u,_,rfl,rfl,by lia,_,_,rfl,rfl,?_⟩;subst hR1;dsimp only[cN,List.set_cons_succ,List.set_cons_zero];rw[efw];have mno:xU (.int (ms:Nat)):=⟨by exact Wp _,by lia⟩;refine bV λR1 hR1=>?_;refine cC ⟨_,rfl,_,rfl,o,.int ms,rfl,⟨_,rfl⟩,(λz=>absurd mno z),λ_=>⟨ms,L,(x,y),fcss,none,rfl,bI,by rw[show D.T_best_rounds::(none:Η).toList=[D.T_best_rounds]from rfl,WK g5];exact hn,hL,hm,λt0 ls1 fss HA c SA laA _ ft1 fls1 nt1 ht1 rd1 ln1 ro=>?_⟩⟩;rw[show D.T_best_rounds::(none:Η).toList=[D.T_best_rounds]from rfl,WK g5]at SA;have S5A:Same G5 HA:=SA.trans nW;have rdA:Rds K HA ls1 fss:=rd1.same nW;have ll:=rdA.len;have hpA:=S5A _ _ hps;subst hR1;dsimp only[cN,List.set_cons_succ,List.set_cons_zero];refine bV λR1 hR1=>?_;refine cT (zY ⟨_,rfl,_,rfl,_,rfl,t0,ls1,fss,ms,n,rfl,ht1,rdA,ln1,ms40,by exact aM n12 (by decide),λfs hf=>?_,λH1 S1=>⟨true,rfl,?_⟩⟩)
  .obtain⟨k,ek⟩:=aW hf;obtain⟨a1,b1⟩:=ro.ok k fs ek;exact⟨by rw[b1,fn],λf hf=>⟨(a1 f hf).1,(a1 f hf).2.1⟩⟩
  show R1 _ _ _;subst hR1;refine bV λR1 hR1=>?_;refine cC ⟨1,rfl,d8,λp1 I1 T1 f1 i1=>⟨10,30,rfl,rfl,aev (by decide) (by decide),(show 9<=sizeLine by decide),λp3 IE TE fE hE=>⟨_,rfl,lx,_,1,_,rfl,rfl,TE _ _ (T1 _ _ (S1 _ _ (S5A _ _ h5))),cR,v,9,rfl,rfl,(show(0:Int)<9 by decide),?_⟩⟩⟩;have kt:=TE _ _ i1;obtain⟨ow,an,on,nn⟩ : ∃nw,atI [V.int 0,.int (-1),.int 41,.bl true,.bl false,.non,.str "3",.ref p1,.int (10^(30:Int).toNat)] (v%9)=some nw/\Odd IE nw/\¬Cw nw:=by
   obtain⟨j,ej,lj⟩ : ∃j:Nat,v%9=j/\j<9:=⟨(v%9).toNat,by lia,by lia⟩;rw[ej]
   match j,lj with
   |0,_=>exact⟨_,cu (j:=0) rfl,⟨_,rfl⟩,λz=>absurd z.1 (by decide)⟩
   |1,_=>exact⟨_,cu (j:=1) rfl,⟨_,rfl⟩,λz=>absurd z.1 (by decide)⟩
   |2,_=>exact⟨_,cu (j:=2) rfl,⟨_,rfl⟩,λz=>absurd z.2 (by decide)⟩
   |3,_=>exact⟨_,cu (j:=3) rfl,⟨_,rfl⟩,λz=>z⟩
   |4,_=>exact⟨_,cu (j:=4) rfl,⟨_,rfl⟩,λz=>z⟩
   |5,_=>exact⟨_,cu (j:=5) rfl,⟨_,rfl⟩,λz=>z⟩
   |6,_=>exact⟨_,cu (j:=6) rfl,⟨_,rfl⟩,λz=>z⟩
   |7,_=>exact⟨_,cu (j:=7) rfl,⟨_,Xb kt⟩,λz=>z⟩
   |8,_=>exact⟨_,cu (j:=8) rfl,⟨_,rfl⟩,λz=>absurd z.2 (by decide)⟩
   |j+9,lj=>lia
  refine⟨p3,_,_,_,rfl,rfl,hE,an,?_⟩;have SAE:=S1.trans (T1.trans TE);subst hR1;dsimp only[cN,List.set_cons_succ,List.set_cons_zero];refine bV λR1 hR1=>?_;have lam:∀Hx,Same HA Hx->vP D.T_best_rounds lamP Qj Hx (some c):=λHx S=>⟨S _ _ laA.1,S _ _ laA.2⟩;have hlw:∀Hx,Same HA Hx->uy K D (L2.wo [D.T_best_rounds,c] Hx) o (x,y) fcss:=λHx S=>hn.same (SA.trans (QH S));have pw:∀mm,mm<=ms->L^mm<=10^490:=λmm h=>aM (XU hL.L0 h) hm;have callB:∀(mm:Nat)(Hx:Hp)(Q:VK),1<=mm->mm<=ms->Same HA Hx->(∀t t1 t2 zs1 zs2 qs rs H',Same Hx H'->Hx t1=none->Hx t2=none->t1≠t2->H' t=some (.tup [.ref t1,.ref t2])->H' t1=some (.lst zs1)->H' t2=some (.lst zs2)->FL H' zs1 qs->FL H' zs2 rs->∀fs gs,fss[mm-1]?=some fs->fss[mm]?=some gs->YD (x,y) fs gs qs rs->Q (.ref t) H')->HD K D [.ref o,.int mm] Hx Q E0:=λmm Hx Q h1 h2 S q=>⟨o,.int mm,rfl,⟨_,rfl⟩,(λz=>absurd ⟨by lia,by lia⟩ z),λ_=>⟨mm,L,(x,y),fcss,c,rfl,lam Hx S,hlw Hx S,hL,xy,y100,pw mm h2,λt t1 t2 zs1 zs2 fss' fs gs qs rs H' a1 a2 a3 a4 a5 a6 a7 a8 a9 ro' ln' e1 e2 bd=>q t t1 t2 zs1 zs2 qs rs H' a1 a2 a3 a4 a5 a6 a7 a8 a9 fs gs (by rw[zx ro ro' _ (by lia) (by lia)];exact e1) (by rw[zx ro ro' _ (by lia) (by lia)];exact e2) bd⟩⟩;have callP:∀(mm:Nat)(Hx:Hp)(Q:VK),1<=mm->mm<=ms->Same HA Hx->(∀t ql H',Same Hx H'->Hx t=none->H' t=some (.lst (ql.map stV))->∀fs,fss[mm-1]?=some fs->rN (x,y) fs fcss (ni fcss) ql->Q (.ref t) H')->Ln K D [.ref o,.int mm] Hx Q E0:=λmm Hx Q h1 h2 S q=>⟨o,.int mm,rfl,⟨_,rfl⟩,(λz=>absurd ⟨by lia,by lia⟩ z),λ_=>⟨mm,L,(x,y),fcss,c,rfl,lam Hx S,hlw Hx S,hL,pw mm h2,λt fss' fs ql H' a1 a2 a3 ro' ln' e1 ma=>q t ql H' a1 a2 a3 fs (by rw[zx ro ro' _ (by lia) (by lia)];exact e1) ma⟩⟩;have mkE:∀(mm:Nat)(e b t1 t2 tp:Addr)(Hy Hz H':Hp)(zs1 zs2:Μ)(qs rs fs gs fs':Ψ)(ql:List (Option Nat)),Hy b=some (.tup [.ref t1,.ref t2])->Hy t1=some (.lst zs1)->Hy t2=some (.lst zs2)->FL Hy zs1 qs->FL Hy zs2 rs->fss[mm-1]?=some fs->fss[mm]?=some gs->YD (x,y) fs gs qs rs->Same Hy Hz->Hz tp=some (.lst (ql.map stV))->fss[mm-1]?=some fs'->rN (x,y) fs' fcss (ni fcss) ql->Same Hz H'->H' e=some (.tup [.ref b,.ref tp])->El H' (x,y) fcss fss mm e b t1 t2 tp:=by
   intro mm e b t1 t2 tp Hy Hz H' zs1 zs2 qs rs fs gs fs' ql et e1 e2 fl1 fl2 ef eg bd Sz hz ef' ma S' he;rw[ef]at ef';cases ef';have SZ:=Sz.trans S';exact⟨zs1,zs2,ql,qs,rs,fs,gs,he,SZ _ _ et,SZ _ _ e1,SZ _ _ e2,S' _ _ hz,fl1.same SZ,fl2.same SZ,ef,eg,bd,ma⟩
  refine cC ⟨_,rfl,_,rfl,callB ms IE _ ms1 (aF _) SAE λb1 t1 t2 zs1 zs2 qs1 rs1 Hy Sy ft1' ft2' n12' et e1' e2' fl1 fl2 fs1 gs1 ef1 eg1 bd1=>?_⟩;refine⟨_,rfl,_,rfl,callP ms Hy _ ms1 (aF _) (SAE.trans Sy) λtp ql1 Hz Sz fz hz fs1' ef1' ma1=>⟨d8,λe1 H2 S2 fe1 he1=>?_⟩⟩;have el1:=mkE ms e1 b1 t1 t2 tp Hy Hz H2 zs1 zs2 qs1 rs1 fs1 gs1 fs1' ql1 et e1' e2' fl1 fl2 ef1 eg1 bd1 Sz hz ef1' ma1 S2 he1;have SE2:=Sy.trans (Sz.trans S2);have ft3':=Same.free Sy fz;have n13:=bH e1' fz;have n23:=bH e2' fz
  clear et fl1 fl2 bd1 ma1
  refine⟨_,rfl,_,rfl,callB fw H2 _ fw1 fwm (SAE.trans SE2) λb2 u1 u2 ys1 ys2 qs2 rs2 Hy2 Sy2 gt1 gt2 m12 et2 d1' d2' fl3 fl4 fs2 gs2 ef2 eg2 bd2=>?_⟩;refine⟨_,rfl,_,rfl,callP fw Hy2 _ fw1 fwm (SAE.trans (SE2.trans Sy2)) λup' ql2 Hz2 Sz2 fz2 hz2 fs2' ef2' ma2=>⟨d8,λe2 H3 S3 fe2 he2=>?_⟩⟩;have el2:=mkE fw e2 b2 u1 u2 up' Hy2 Hz2 H3 ys1 ys2 qs2 rs2 fs2 gs2 fs2' ql2 et2 d1' d2' fl3 fl4 ef2 eg2 bd2 Sz2 hz2 ef2' ma2 S3 he2;have SE3:=Sy2.trans (Sz2.trans S3);have gt3:=Same.free Sy2 fz2
  clear et2 fl3 fl4 bd2 ma2
  refine⟨d8,λhe HB SB fhe hhe=>?_⟩;have elA:=(el1.same SE3).same SB;have elB:=el2.same SB;have SIB:=SE2.trans (SE3.trans SB);have SAB:=SAE.trans SIB;have lA:∀l∈[t1,t2,tp],∃zs,H2 l=some (.lst zs):=λl hl=>by
   obtain⟨z1,z2,q1,_,_,_,_,_,_,x1,x2,x3,_⟩:=el1.ex;simp only[YU,List.not_mem_nil,or_false]at hl;rcases hl with rfl|rfl|rfl
   .exact⟨_,x1⟩
   .exact⟨_,x2⟩
   .exact⟨_,x3⟩
  have dis:∀l∈[t1,t2,tp],∀l',H2 l'=none->l'≠l:=λl hl l' h=>by
   obtain⟨zs,z⟩:=lA l hl;exact(bH z h).symm
  have fA:∀l∈[t1,t2,tp],HA l=none:=λl hl=>by
   simp only[YU,List.not_mem_nil,or_false]at hl;rcases hl with rfl|rfl|rfl
   .exact Same.free SAE ft1'
   .exact Same.free SAE ft2'
   .exact Same.free SAE ft3'
  have fB:∀l∈[u1,u2,up'],HA l=none:=λl hl=>by
   have:=SAE.trans SE2;simp only[YU,List.not_mem_nil,or_false]at hl;rcases hl with rfl|rfl|rfl
   .exact Same.free this gt1
   .exact Same.free this gt2
   .exact Same.free this gt3
  have nhe:∀l,l∈[t1,t2,tp]\/l∈[u1,u2,up']->he≠l:=λl hl z=>by
   have:∃zs,H3 l=some (.lst zs):=by
    rcases hl with hl|hl
    .obtain⟨zs,e⟩:=lA l hl;exact⟨zs,SE3 _ _ e⟩
    .obtain⟨z1,z2,q1,_,_,_,_,_,_,x1,x2,x3,_⟩:=el2.ex;simp only[YU,List.not_mem_nil,or_false]at hl;rcases hl with rfl|rfl|rfl
     .exact⟨_,x1⟩
     .exact⟨_,x2⟩
     .exact⟨_,x3⟩
   obtain⟨zs,e⟩:=this;rw[<- z,fhe]at e;cases e
  subst hR1;dsimp only[cN,List.set_cons_succ,List.set_cons_zero];refine bV λR1 hR1=>?_;refine cT ⟨_,rfl,_,rfl,o,ow,_,rfl,on.same SIB,nn,λH4 S4=>⟨true,rfl,_,rfl,_,rfl,o,ow,_,rfl,(on.same SIB).same S4,nn,λH5 S5'=>⟨true,rfl,?_⟩⟩⟩;have SB5:=S4.trans S5';show R1 _ _ _;subst hR1;refine bV λR1 hR1=>?_;have SA5:=SAB.trans SB5;have rooms:=λHx(S:Same HA Hx)=>(rml.same S5A).same S;have ahead:∀(mm:Nat),1<=mm->mm<=ms->∃la1 lb1 xf xg fs gs,atI (ls1.map V.ref) ((mm:Int)-1)=some (.ref la1)/\atI (ls1.map V.ref) (mm:Nat)=some (.ref lb1)/\HA la1=some (.lst xf)/\HA lb1=some (.lst xg)/\FLK K HA xf fs/\FLK K HA xg gs/\Wb fs/\Wb gs/\fs.length=n/\gs.length=n/\fss[mm-1]?=some fs/\fss[mm]?=some gs:=λmm h1 h2=>by
   have ef:fss[mm-1]?=some (fss[mm-1]'(by lia)):=aj _;have eg:fss[mm]?=some (fss[mm]'(by lia)):=aj _;have elf:ls1[mm-1]?=some (ls1[mm-1]'(by lia)):=aj _;have elg:ls1[mm]?=some (ls1[mm]'(by lia)):=aj _;obtain⟨xf,hxf,flf⟩:=rdA.at_ _ _ _ elf ef;obtain⟨xg,hxg,flg⟩:=rdA.at_ _ _ _ elg eg;obtain⟨rf,lf⟩:=ro.ok _ _ ef;obtain⟨rg,lg⟩:=ro.ok _ _ eg;refine⟨_,_,xf,xg,_,_,?_,cu (by rw[aq,elg];rfl),hxf,hxg,flf,flg,rf.wb hL.L0 (m:=ms) (aM (Nat.sub_le _ _) h2) ms40 hm,rg.wb hL.L0 (m:=ms) (by omega) ms40 hm,by rw[lf,fn],by rw[lg,fn],ef,eg⟩;rw[show(mm:Int)-1=((mm-1:Nat):Int)by lia];exact cu (by rw[aq,elf];rfl)
  clear el1 el2
  refine cT (Le ⟨_,rfl,_,rfl,_,rfl,d8,λzl HF SF fF hF=>⟨he,zl,_,_,rfl,SF _ _ (SB5 _ _ hhe),hF,rfl,λk σ H'=>(∃u12 u13,σ=[some (.ref a),some (.int ms),some (.ref ps),some (.ref r),some (.ref o),some (.ref lx),some (.int fw),some (.ref t0),some ow,some (.ref he),some (.int n),some (.bl sm),u12,u13])/\Same HA H'/\(k<1->El H' (x,y) fcss fss ms e1 b1 t1 t2 tp)/\(k<2->El H' (x,y) fcss fss fw e2 b2 u1 u2 up'),⟨⟨none,none,rfl⟩,SA5.trans SF,λ_=>(elA.same SB5).same SF,λ_=>(elB.same SB5).same SF⟩,?_,?_⟩⟩)
  .rintro k vx vy σ' H' tq hkx hky ⟨⟨u12,u13,rfl⟩,SG,j1,j2⟩ hhe' hzl ftq;have Sq:Same H' (upd H' tq (.tup [vx,vy])):=Same.upd ftq;have eq:upd H' tq (.tup [vx,vy]) tq=some (.tup [vx,vy]):=bI;generalize upd H' tq (.tup [vx,vy])=Hq at Sq eq ⊢;have k2:k<2:=(ao.mp hkx).1;have nzl:∀l,l∈[t1,t2,tp]\/l∈[u1,u2,up']->l≠he/\l≠zl:=λl hl=>by
    refine⟨(nhe l hl).symm,λz=>?_⟩;have:∃zs,HB l=some (.lst zs):=by
     rcases hl with hl|hl
     .obtain⟨zs,e⟩:=lA l hl;exact⟨zs,SB _ _ (SE3 _ _ e)⟩
     .obtain⟨z1,z2,q1,_,_,_,_,_,_,x1,x2,x3,_⟩:=elB.ex;simp only[YU,List.not_mem_nil,or_false]at hl;rcases hl with rfl|rfl|rfl
      .exact⟨_,x1⟩
      .exact⟨_,x2⟩
      .exact⟨_,x3⟩
    obtain⟨zs,e⟩:=this;have:=SB5 _ _ e;rw[z,fF]at this;cases this
   obtain⟨e,b,w1,w2,wp,mm,rfl,rfl,el,mm1,mmm,m12',m13,m23,fr,nh,oth⟩ : ∃(e b w1 w2 wp:Addr)(mm:Nat),vx=.ref e/\vy=.int (mm:Nat)/\El Hq (x,y) fcss fss mm e b w1 w2 wp/\1<=mm/\mm<=ms/\w1≠w2/\w1≠wp/\w2≠wp/\(∀l∈[w1,w2,wp],HA l=none)/\(∀l∈[w1,w2,wp],l≠he/\l≠zl)/\(k+1<2->∀l∈[u1,u2,up'],l∉[w1,w2,wp]):=by
    by_cases k0:k=0
    .subst k0;cases hkx;cases hky;refine⟨e1,b1,t1,t2,tp,ms,rfl,rfl,(j1 (by decide)).same Sq,ms1,aF _,n12',n13,n23,fA,λl h=>nzl l (.inl h),λ_ l h h'=>?_⟩;simp only[YU,List.not_mem_nil,or_false]at h;rcases h with z|z|z
     .exact dis l h' u1 gt1 z.symm
     .exact dis l h' u2 gt2 z.symm
     .exact dis l h' up' gt3 z.symm
    .obtain rfl:k=1:=by lia
     cases hkx;cases hky;exact⟨e2,b2,u1,u2,up',fw,rfl,rfl,(j2 (by decide)).same Sq,fw1,fwm,m12,bH d1' fz2,bH d2' fz2,fB,λl h=>nzl l (.inr h),λz=>absurd z (by decide)⟩
   obtain⟨zz1,zz2,ql,qs,rs,fs,gs,a1,a2,a3,a4,a5,a6,a7,ef,eg,bd,ma⟩:=el.ex;obtain⟨la1,lb1,xf,xg,fs',gs',i1,i2,hxf,hxg,flf,flg,wf,wg,lf,lg,ef',eg'⟩:=ahead mm mm1 mmm;rw[ef]at ef';rw[eg]at eg';cases ef';cases eg';have SGq:=SG.trans Sq;refine⟨tq,_,rfl,eq,rfl,_,_,rfl,_,_,rfl,rfl,?_⟩;dsimp only[cN,List.set_cons_succ,List.set_cons_zero];refine bV λR2 hR2=>?_;refine cT (zY ⟨_,rfl,e,_,0,_,rfl,rfl,a1,c7,_,rfl,_,rfl,_,rfl,_,_,rfl,rfl,t0,_,_,_,rfl,rfl,SGq _ _ ht1,i1,_,rfl,_,rfl,t0,_,_,_,rfl,rfl,SGq _ _ ht1,i2,b,w1,w2,ps,la1,lb1,x,y,zz1,zz2,xf,xg,fs,gs,qs,rs,rfl,a2,a3,a4,a6,a7,SGq _ _ hpA,x0,xy,y100,SGq _ _ hxf,SGq _ _ hxg,flf.same SGq,flg.same SGq,wf,wg,by exact Eq.trans lf (Eq.symm lg),by exact aM (Nat.le_of_eq lg) n12,bd,λH7 S7=>⟨true,rfl,?_⟩⟩);show R2 _ _ _;subst hR2;refine bV λR2 hR2=>?_;have SG7:=SGq.trans S7;refine cT (zY ⟨_,rfl,e,_,1,_,rfl,rfl,S7 _ _ a1,cR,_,rfl,_,rfl,_,rfl,_,rfl,_,_,rfl,rfl,t0,_,_,_,rfl,rfl,SG7 _ _ ht1,i1,wp,ps,r,la1,(x,y),ql,fcss,xf,fs,rfl,S7 _ _ a5,SG7 _ _ hpA,hn.s0,hn.b1,hn.b2,rooms _ SG7,hn.pays,SG7 _ _ hxf,flf.same SG7,wf,by exact Eq.trans lf (Eq.symm fn),by exact aM (Nat.le_of_eq fn) n12,ma,λH8 S8=>⟨true,rfl,?_⟩⟩);have S78:=S7.trans S8;have l1:=a6.length;have l2:=a7.length;have l3:=bd.lenq;have l4:=bd.lenr;have l5:=ma.len;have l6:(ni fcss).length=fcss.length:=ak ..;show R2 _ _ _;subst hR2;refine bV λR2 hR2=>?_;refine cT ⟨_,rfl,e,_,0,_,rfl,rfl,S78 _ _ a1,c7,b,_,0,_,rfl,rfl,S78 _ _ a2,c7,w1,zz1,rfl,S78 _ _ a3,d8,λp4 H9 S9 f9 h9=>⟨_,_,rfl,S9 _ _ (S78 _ _ a3),by lia,?_⟩⟩;have S79:=S78.trans S9;have tl:∀{p:Addr}{xs zs:Μ}{l:Addr},Hq p=some (.tup xs)->Hq l=some (.lst zs)->p≠l:=λe1 e2=>i_ e1 e2 (by intro z;cases z);have K1:Same (L2.wo [w1,w2,wp] Hq) (upd H9 w1 (.lst (zz1++[.ref p4]))):=λb' u e=>by
    obtain⟨nb,e'⟩:=sJ e;exact(bK λz=>nb (by rw[z];simp)).trans (S79 _ _ e')
   have w2k:upd H9 w1 (.lst (zz1++[.ref p4])) w2=some (.lst zz2):=(bK m12'.symm).trans (S79 _ _ a4);have wpk:upd H9 w1 (.lst (zz1++[.ref p4])) wp=some (.lst (ql.map stV)):=(bK m13.symm).trans (S79 _ _ a5);have ek:upd H9 w1 (.lst (zz1++[.ref p4])) e=some (.tup [.ref b,.ref wp]):=(bK (tl a1 a3)).trans (S79 _ _ a1);have bk:upd H9 w1 (.lst (zz1++[.ref p4])) b=some (.tup [.ref w1,.ref w2]):=(bK (tl a2 a3)).trans (S79 _ _ a2);generalize upd H9 w1 (.lst (zz1++[.ref p4]))=I1 at K1 w2k wpk ek bk ⊢;subst hR2;dsimp only;refine bV λR2 hR2=>?_;refine cT ⟨_,rfl,e,_,0,_,rfl,rfl,ek,c7,b,_,1,_,rfl,rfl,bk,cR,w2,zz2,rfl,w2k,_,rfl,rfl,false,ZH (λb=>V.bl (!b)) (Zs (by rw[l2,l4,lg])),?_⟩;show R2 _ _ _;subst hR2;refine bV λR2 hR2=>?_;refine cT ⟨_,rfl,e,_,0,_,rfl,rfl,ek,c7,b,_,1,_,rfl,rfl,bk,cR,w2,zz2,rfl,w2k,d8,λp5 I2 S2' f2' h2'=>⟨_,_,rfl,S2' _ _ w2k,by lia,?_⟩⟩;have K2:Same (L2.wo [w1,w2,wp] Hq) (upd I2 w2 (.lst (zz2++[.ref p5]))):=λb' u e=>by
    obtain⟨nb,_⟩:=sJ e;exact(bK λz=>nb (by rw[z];simp)).trans (S2' _ _ (K1 _ _ e))
   have wpk2:upd I2 w2 (.lst (zz2++[.ref p5])) wp=some (.lst (ql.map stV)):=(bK m23.symm).trans (S2' _ _ wpk);have ek2:upd I2 w2 (.lst (zz2++[.ref p5])) e=some (.tup [.ref b,.ref wp]):=(bK (tl a1 a4)).trans (S2' _ _ ek);generalize upd I2 w2 (.lst (zz2++[.ref p5]))=I3 at K2 wpk2 ek2 ⊢;subst hR2;refine⟨_,rfl,e,_,1,_,rfl,rfl,ek2,cR,wp,_,rfl,wpk2,_,_,rfl,wpk2,by rw[ak];lia,?_⟩;have K3:Same (L2.wo [w1,w2,wp] Hq) (upd I3 wp (.lst (ql.map stV++[.int 0]))):=λb' u e=>by
    obtain⟨nb,_⟩:=sJ e;exact(bK λz=>nb (by rw[z];simp)).trans (K2 _ _ e)
   generalize upd I3 wp (.lst (ql.map stV++[.int 0]))=I4 at K3 ⊢;have out:∀{b':Addr}{u:HO},Hq b'=some u->b'∉[w1,w2,wp]->I4 b'=some u:=λe n=>K3 _ _ ((oY n).trans e);have lw:∀l∈[w1,w2,wp],∃zs,Hq l=some (.lst zs):=λl hl=>by
    simp only[YU,List.not_mem_nil,or_false]at hl;rcases hl with rfl|rfl|rfl
    .exact⟨_,a3⟩
    .exact⟨_,a4⟩
    .exact⟨_,a5⟩
   refine⟨out (Sq _ _ hhe') λz=>(nh _ z).1 rfl,out (Sq _ _ hzl) λz=>(nh _ z).2 rfl,⟨_,_,rfl⟩,(λb' u e=>out (SGq _ _ e) λz=>by rw[fr _ z]at e;cases e),(λz=>absurd z (Nat.not_lt_of_le (Nat.le_add_left _ _))),λz=>?_⟩;have o2:=oth z;exact((j2 (by omega)).same Sq).off lw (o2 _ (by simp)) (o2 _ (by simp)) (o2 _ (by simp)) K3
  .rintro σ' H' ⟨⟨u12,u13,rfl⟩,SG,_,_⟩ _ _;subst hR1;dsimp only;refine bV λR1 hR1=>?_;obtain⟨la1,lb1,xf,xg,fs',gs',i1,i2,hxf,hxg,flf,flg,wf,wg,lf,lg,ef',eg'⟩:=ahead ms ms1 (aF _);refine cT (zY ⟨_,rfl,_,rfl,callB ms H' _ ms1 (aF _) SG λbb v1 v2 ys1 ys2 qs rs Hy Sy _ _ _ et g1 g2 fl1 fl2 fs gs ef eg bd=>?_⟩);rw[ef']at ef;rw[eg']at eg;cases ef;cases eg;have SGy:=SG.trans Sy;refine⟨_,rfl,_,rfl,_,rfl,_,_,rfl,rfl,t0,_,_,_,rfl,rfl,SGy _ _ ht1,i1,_,rfl,_,rfl,t0,_,_,_,rfl,rfl,SGy _ _ ht1,i2,bb,v1,v2,ps,la1,lb1,x,y,ys1,ys2,xf,xg,fs',gs',qs,rs,rfl,et,g1,g2,fl1,fl2,SGy _ _ hpA,x0,xy,y100,SGy _ _ hxf,SGy _ _ hxg,flf.same SGy,flg.same SGy,wf,wg,by exact Eq.trans lf (Eq.symm lg),by exact aM (Nat.le_of_eq lg) n12,bd,λH7 S7=>⟨true,rfl,?_⟩⟩;have SG7:=SGy.trans S7;show R1 _ _ _;subst hR1;refine dX ⟨_,rfl,_,rfl,callP ms H7 _ ms1 (aF _) SG7 λtz ql Hz Sz _ hz fs2 ef2 ma=>?_⟩;rw[ef']at ef2;cases ef2;have SGz:=SG7.trans Sz;exact⟨_,rfl,_,rfl,_,rfl,_,rfl,_,_,rfl,rfl,t0,_,_,_,rfl,rfl,SGz _ _ ht1,i1,tz,ps,r,la1,(x,y),ql,fcss,xf,fs',rfl,hz,SGz _ _ hpA,hn.s0,hn.b1,hn.b2,rooms _ SGz,hn.pays,SGz _ _ hxf,flf.same SGz,wf,by exact Eq.trans lf (Eq.symm fn),by exact aM (Nat.le_of_eq fn) n12,ma,λH8 _=>hQ H8⟩
end
theorem law_fn{l:PySem.W.OpenLaw}{w:World}{K:Frag}{mg:Str->Ζ}{Pt:Addr}(T0:∃D:Adr,D.T_best_rounds=Pt/\Txt K mg D)(base:Heap)(hB:base.BuiltinsAt mg Pt)(f:Addr)(fd:FuncData)(F:Fun K Pb Pb Vt f fd) :
  cF l.prog w K mg base CX0 11 f fd Uc (Nk K Pt):=by
 obtain⟨D,rfl,T⟩:=T0;have nG:∀base:Heap,OkF l.prog w K mg base 5 jN jL (ug K D):=λbase=>by
  have cX:OkF l.prog w K mg base 1 fH fD g_:=T.G8.ok λ_ _ F=>Fg F T;have d9:OkF l.prog w K mg base 1 jf jh iD:=T.K5.ok λ_ _ F=>Jw F T;have eE:OkF l.prog w K mg base 2 j8 j7 jr:=T.Xc.ok λ_ _ F=>QS F T cX d9;have fX:OkF l.prog w K mg base 1 mF lQ (lC (K:=K)):=T.W3.ok λ_ _ F=>QJ F;have tL:OkF l.prog w K mg base 3 sX sU (nA (K:=K) λa b=>a+b):=T.Zz.ok λ_ _ F=>Wj F eE;have qy:OkF l.prog w K mg base 3 rA qT yt:=T.WD.ok λ_ _ F=>Rx F eE;have Ad:OkF l.prog w K mg base 3 vp vA Ax:=T.abd.ok λ_ _ F=>Wy F eE;have GF:OkF l.prog w K mg base 2 gW iJ (t_ K):=T.Cm.ok λ_ _ F=>Ef F d9;have oM:OkF l.prog w K mg base 2 gW iJ (uo K):=T.Cm.ok λ_ _ F=>Eh F d9;have lY:OkF l.prog w K mg base 3 iK iU (za K):=T.zM.ok λ_ _ F=>yq F T GF eE;have iC:OkF l.prog w K mg base 4 gA fZ (tZ K D):=T.zU.ok λ_ _ F=>wM F T lY qy tL;have iG:OkF l.prog w K mg base 2 iZ iW uq:=T.GX.ok λ_ _ F=>Fe F T fX;have DR:OkF l.prog w K mg base 4 qX q_ (Vm D):=T.Xr.ok λ_ _ F=>Vi F T Ad;have dj:OkI l.prog w K mg base CX0 1 D.Hall_size fu (fY D):=T.CQ.ok λ_ F=>Bt F T;have gZ:OkI l.prog w K mg base CX0 2 D.Hall_check_room eX (mq D):=T.sy.ok λ_ F=>rG F T cX dj;have dG:OkI l.prog w K mg base CX0 3 D.Hall_offers d_ (gB D):=T.wI.ok λ_ F=>xX F T gZ;exact T.Qg.ok λ_ _ F=>Kl F T oM iC iG DR dj dG
 have uO:∀a ns,OkF l.prog w K mg base 1 zy zm (Ar K a ns):=λa ns=>T.afI.ok λ_ _ F=>ac3 F a ns;have cX:OkF l.prog w K mg base 1 fH fD g_:=T.G8.ok λ_ _ F=>Fg F T;have Ly:OkF l.prog w K mg base 1 Ea Ej Ju:=T.ahV.ok λ_ _ F=>afy F T;have d9:OkF l.prog w K mg base 1 jf jh iD:=T.K5.ok λ_ _ F=>Jw F T;have jV:OkF l.prog w K mg base 2 o_ pI ux:=T.aaM.ok λ_ _ F=>X3 F Ly;have eE:OkF l.prog w K mg base 2 j8 j7 jr:=T.Xc.ok λ_ _ F=>QS F T cX d9;have fX:OkF l.prog w K mg base 1 mF lQ (lC (K:=K)):=T.W3.ok λ_ _ F=>QJ F;have tL:OkF l.prog w K mg base 3 sX sU (nA (K:=K) λa b=>a+b):=T.Zz.ok λ_ _ F=>Wj F eE;have vH:OkF l.prog w K mg base 3 rM qY (nA (K:=K) λa b=>a-b):=T.acH.ok λ_ _ F=>abg F eE;have kj:OkF l.prog w K mg base 1 mJ mW wY:=T.Xv.ok λ_ _ F=>UG F T;have jc:OkF l.prog w K mg base 2 j4 j5 (iV (K:=K)):=T.Uo.ok λ_ _ F=>RV F T cX d9;have ju:OkX l.prog w K mg base 3 jw jK (jB (K:=K)):=T.Pa.okX λ_ _ F=>JW F T kj jc;have BR:OkX l.prog w K mg base 2 eV eU kE:=T.Aw.okX λ_ _ F=>Am F T kj;have Ls:OkX l.prog w K mg base 3 gQ gP (qR (K:=K)):=T.GZ.okX λ_ _ F=>Fy F T jc fX;have k_:OkI l.prog w K mg base (CXO l.prog w) 4 D.Door_init kY (lu (K:=K) D):=T.Qf.ok λ_ F=>Oh F T ju;have uN:OkI l.prog w K mg base (CXO l.prog w) 5 D.Sure_init nU (uT (K:=K) D):=T.Qh.ok λ_ F=>Mi F T k_ BR;have wu:OkI l.prog w K mg base CX0 1 D.Door_ways oF (qz D):=T.PB.ok λ_ F=>Od F T;have GF:OkF l.prog w K mg base 2 gW iJ (t_ K):=T.Cm.ok λ_ _ F=>Ef F d9;have oM:OkF l.prog w K mg base 2 gW iJ Dj:=T.Cm.ok λ_ _ F=>(Ef F d9).imp λ_ _ _ _ h=>aac h;have ab4:OkF l.prog w K mg base 3 wH xY CV:=T.f_total.ok λ_ _ F=>ZS F T oM eE;have aat:OkX l.prog w K mg base 4 j9 jW oU:=T.Kq.okX λ_ _ F=>Iv F T BR Ls ab4.wild;have XQ:OkX l.prog w K mg base 4 jR jX (yS K):=T.JN.okX λ_ _ F=>G9 F T tL.wild;have fj:OkI l.prog w K mg base (CXO l.prog w) 5 D.Mixed_init iB (ig K D):=T.JX.ok λ_ F=>J_ F T k_ aat XQ;have uY:OkI l.prog w K mg base (CXO l.prog w) 6 D.Toss_init nH (vG K D):=T.Pz.ok λ_ F=>Oo F T ju Ls vH.wild fj;have uW:OkI l.prog w K mg base (CXO l.prog w) 6 D.Even_init ou (vd K D):=T.Oe.ok λ_ F=>Qe F T fj;have tG:OkF l.prog w K mg base 3 jY jT (n_ (K:=K)):=T.Kc.ok λ_ _ F=>H_ F T jc fX;have vM:OkF l.prog w K mg base 2 lW lG pK:=T.OJ.ok λ_ _ F=>KY F T kj;have qj:OkF l.prog w K mg base 2 iT iQ (kZ D):=T.FW.ok λ_ _ F=>Ek F T wu;have wN:OkF l.prog w K mg base 3 nY oG (qF D):=T.Sg.ok λ_ _ F=>O_ F T qj;have QW:OkI l.prog w K mg base CX0 4 D.Hall_init oO (vD K D):=T.Pu.ok λ_ F=>Oi F T tG vM wN;have dj:OkI l.prog w K mg base CX0 1 D.Hall_size fu (fY D):=T.CQ.ok λ_ F=>Bt F T;have eG:OkF l.prog w K mg base 1 jA jD jz:=T.Zf.ok λ_ _ F=>Yn F T;have Gp:OkF l.prog w K mg base 2 wO vZ Iu:=T.acY.ok λ_ _ F=>abD F T eG;have N7:OkF l.prog w K mg base 8 v8 w6 (Hr K D):=T.ado.ok λ_ _ F=>Y7 F T uN fj uY uW;have TQ:OkF l.prog w K mg base 9 Bf BJ (M5 K D):=T.afi.ok λ_ _ F=>acL F T Gp N7 QW.wild;have aaZ:OkF l.prog w K mg base 3 Gw Hs Vs:=T.ajg.ok λ_ _ F=>aeV F T jV;have P0:OkF l.prog w K mg base 3 yr wU G6:=T.adZ.ok λ_ _ F=>abv F T eG jV;have Ua:OkF l.prog w K mg base 4 Cv CZ Gu:=T.ae3.ok λ_ _ F=>acv F T eG jV aaZ;have PJ:∀a ns,OkF l.prog w K mg base 5 yc wR (Jz K a ns):=λa ns=>T.acF.ok λ_ _ F=>abp F T a ns (uO a ns) eG Ua;have Mr:OkF l.prog w K mg base 2 yF wZ Je:=T.adI.ok λ_ _ F=>Z0 F T eG;have tQ:OkX l.prog w K mg base 2 lZ mz (M8 D):=T.Np.okX λ_ _ F=>Kr F T cX;have gH:OkX l.prog w K mg base 8 fG gq (qZ K D):=T.Ka.okX λ_ _ _ F hc hC=>JF F hc hC T hB nG tQ dj;have yD:OkF l.prog w K mg base 2 nR oW (U8 K):=T.Rf.ok λ_ _ F=>Qd F T Ly;have ji:OkF l.prog w K mg base 3 jy jH (Oc K):=T.Nb.ok λ_ _ F=>J3 F T yD;have uP:OkF l.prog w K mg base 4 lU mD (Vr K):=T.Qu.ok λ_ _ F=>Kw F T ji;have tD:OkF l.prog w K mg base 1 uw uD (Bm K):=T.acU.ok λ_ _ F=>abz F T;have qy:OkF l.prog w K mg base 3 rA qT yt:=T.WD.ok λ_ _ F=>Rx F eE;have Ad:OkF l.prog w K mg base 3 vp vA Ax:=T.abd.ok λ_ _ F=>Wy F eE;have iG:OkF l.prog w K mg base 2 iZ iW uq:=T.GX.ok λ_ _ F=>Fe F T fX;have NK:OkF l.prog w K mg base 2 xM yd Gv:=T.adT.ok λ_ _ F=>aaI F T fX;have gR:OkX l.prog w K mg base 2 gO gM (O7 D):=T.Jy.okX λ_ _ F=>FN F T cX;have Mh:OkF l.prog w K mg base 4 yP yH (Jf K):=T.adn.ok λ_ _ F=>abH F T vH;have zj:OkF l.prog w K mg base 4 rD rT (P_ K):=T.Xu.ok λ_ _ F=>Vk F T vH Ad qy;have gZ:OkI l.prog w K mg base CX0 2 D.Hall_check_room eX (mq D):=T.sy.ok λ_ F=>rG F T cX dj;have dG:OkI l.prog w K mg base CX0 3 D.Hall_offers d_ (gB D):=T.wI.ok λ_ F=>xX F T gZ;have Ur:OkF l.prog w K mg base 2 Ao Cp Ox:=T.afH.ok λ_ _ F=>acy F T cX;have uZ:OkF l.prog w K mg base 4 mj lO (Nv D):=T.Qy.ok λ_ _ F=>Kd F T Ur dj dG;have uJ:OkF l.prog w K mg base 4 lX lR (Ja D):=T.Nr.ok λ_ _ F=>KC F T dj dG;have tO:OkF l.prog w K mg base 3 j6 jZ DQ:=T.JV.ok λ_ _ F=>GC F T fX iG;have abX:OkF l.prog w K mg base 2 gW iJ (uo K):=T.Cm.ok λ_ _ F=>Eh F d9;have lY:OkF l.prog w K mg base 3 iK iU (za K):=T.zM.ok λ_ _ F=>yq F T GF eE;have iC:OkF l.prog w K mg base 4 gA fZ (tZ K D):=T.zU.ok λ_ _ F=>wM F T lY qy tL;have JD:OkF l.prog w K mg base 5 uh uc (Qq K D):=T.abL.ok λ_ _ F=>X8 F T uZ abX iC tO dG;have qH:OkX l.prog w K mg base 9 kW kJ (zA K D):=T.Rt.okX λ_ _ F=>O9 F T gR gH Mh iG NK zj tL;have pN:OkX l.prog w K mg base 9 jt jF (BL K D):=T.MN.okX λ_ _ F=>Ky F T gR gH uJ JD;have M7:OkF l.prog w K mg base 1 Bo Bs (Ph K):=T.aeN.ok λ_ _ F=>adD F T;have Ub:OkF l.prog w K mg base 1 Br Bx (Ni K):=T.f_look.ok λ_ _ F=>adH F T;have Mq:OkF l.prog w K mg base 2 yM wW JH:=T.acs.ok λ_ _ F=>abS F T tD;have Nz:OkF l.prog w K mg base 1 wj wJ (Jx K):=T.adR.ok λ_ _ F=>Zd F T;have Gd:OkF l.prog w K mg base 1 yh yu (Jo K):=T.f_bound.ok λ_ _ F=>abI F T;have Gg:OkF l.prog w K mg base 4 yp yL (IW K):=T.adz.ok λ_ _ F=>Za F T ji Nz tD Gd M7;have qI:OkF l.prog w K mg base 3 lF lE (Tn K):=T.Nx.ok λ_ _ F=>KR F T Ub Mq;have zp:OkF l.prog w K mg base 10 rY rF Tz:=T.Yl.ok λ_ _ F=>TV F T qH pN;exact afg F T uO Mr P0 PJ TQ eG gH.calm uP qH.calm pN.calm zp Gg qI
end K54
end
open PySem PySem.W PyProof.Rows
set_option maxRecDepth 100000 in
set_option maxHeartbeats 0 in
theorem PySem.Challenge.cw_chancehall_k54_bounds_holds : PySem.Challenge.rw_chancehall_k54_bounds.Holds := by
 w_on
 refine holds_law H54.wsd λsaid=>?_;refine holds_open (q:=H54.qv) (loose:=[]) (XP:=XL H54.qv []) (YP:=InK H54.KHT) H54.left (InK.of H54.asK) InK.keeps H54.hX XL.keeps (by rfl) (by rfl) (by rfl) H54.hR (by rfl) said (by decide +kernel) ⟨rfl,rfl,rfl,rfl,rfl,by decide +kernel⟩ ?hw ?hc
 (case hw=>w_witness2)
 have hkf:PySem.Challenge.rw_chancehall_k54_bounds=PySem.Challenge.rw_chancehall_k54_bounds/\H54.KH=H54.KH:=by
  k_fill
  exact⟨rfl,rfl⟩
 clear hkf
 refine L2.aeR (l:=PySem.Challenge.rw_chancehall_k54_bounds) (k:=11) (x := "_law_script") 332 336 rfl rfl ⟨rfl,by decide,by decide⟩ (λw h Y=>L2.YX (K:=H54.KH w.params) (show(H54.KH w.params++[(332,L2.Once.fE)]).In h from Y) (by kernel_rfl)) (λw=>by kernel_rfl) (λw=>by kernel_rfl) ?F
 case F =>
  intro w mg fa h KX G hmg;refine⟨K54.Vt,?_,λbase f fd hB F=>K54.law_fn ?T base hB f fd F⟩
  .exact L2.q_f 1 λ_ _ _ _ _ _ _=>rfl
  case T =>
   refine⟨⟨31,44,56,68,80,92,111,130,149,168,435,456,475,494,511,596,185,186,418,425,453,472,491,508,553,560,581,593,332⟩,rfl,⟨L2.q_c,L2.q_c,L2.q_c,L2.q_c,L2.q_c,L2.q_c,L2.q_c,L2.q_c,L2.q_c,L2.q_c,L2.q_c,L2.q_c,L2.q_c,L2.q_c,L2.q_c,L2.q_c,L2.q_c,L2.q_c,L2.q_x,L2.q_x,L2.q_x,⟨by k_is,by k_is,by k_is,by k_is,by k_is⟩,by kit_is,by kit_is,by kit_is,by kit_is,by kit_is,by kit_is,by kit_is,by kit_is,by kit_is,by kit_is,by k_is,by k_is,by k_is,L2.q_g,L2.q_g,L2.q_t,L2.q_t,L2.q_4,L2.q_m,L2.q_n,L2.q_n,L2.q_n,L2.q_M,L2.q_4,L2.q_m,L2.q_n,L2.q_n,L2.q_n,L2.q_M,L2.q_4,L2.q_m,L2.q_n,L2.q_n,L2.q_n,L2.q_M,L2.q_4,L2.q_m,L2.q_n,L2.q_n,L2.q_n,L2.q_M,L2.q_4,L2.q_m,L2.q_n,L2.q_n,L2.q_n,L2.q_M,L2.q_4,L2.q_m,L2.q_m,L2.q_m,L2.q_n,L2.q_n,L2.q_n,L2.q_n,L2.q_n,L2.q_n,L2.q_B,L2.q_h 3 λ_ _ _ _ _ _ _ _ _=>rfl,L2.q_h 1 λ_ _ _ _ _ _ _=>rfl,L2.q_h 4 λ_ _ _ _ _ _ _ _ _ _=>rfl,L2.q_B,L2.q_h 4 λ_ _ _ _ _ _ _ _ _ _=>rfl,L2.q_h 6 λ_ _ _ _ _ _ _ _ _ _ _ _=>rfl,L2.q_h 4 λ_ _ _ _ _ _ _ _ _ _=>rfl,L2.q_h 3 λ_ _ _ _ _ _ _ _ _=>rfl,L2.q_h 1 λ_ _ _ _ _ _ _=>rfl,L2.q_h 2 λ_ _ _ _ _ _ _ _=>rfl,L2.q_h 2 λ_ _ _ _ _ _ _ _=>rfl,L2.q_z,L2.q_z,L2.q_z,L2.q_z,L2.q_z,L2.q_z,L2.q_z,L2.q_z,L2.q_z,L2.q_z,L2.q_z,L2.q_z,L2.q_z,L2.q_z,L2.q_z,L2.q_z,L2.q_z,L2.q_f 1 λ_ _ _ _ _ _ _=>rfl,L2.q_f 2 λ_ _ _ _ _ _ _ _=>rfl,L2.q_f 2 λ_ _ _ _ _ _ _ _=>rfl,L2.q_f 1 λ_ _ _ _ _ _ _=>rfl,L2.q_f 2 λ_ _ _ _ _ _ _ _=>rfl,L2.q_f 2 λ_ _ _ _ _ _ _ _=>rfl,L2.q_f 2 λ_ _ _ _ _ _ _ _=>rfl,L2.q_f 2 λ_ _ _ _ _ _ _ _=>rfl,L2.q_f 2 λ_ _ _ _ _ _ _ _=>rfl,L2.q_f 1 λ_ _ _ _ _ _ _=>rfl,L2.q_f 1 λ_ _ _ _ _ _ _=>rfl,L2.q_f 1 λ_ _ _ _ _ _ _=>rfl,L2.q_f 1 λ_ _ _ _ _ _ _=>rfl,L2.q_f 1 λ_ _ _ _ _ _ _=>rfl,L2.q_f 2 λ_ _ _ _ _ _ _ _=>rfl,L2.q_f 2 λ_ _ _ _ _ _ _ _=>rfl,L2.q_f 2 λ_ _ _ _ _ _ _ _=>rfl,L2.q_f 3 λ_ _ _ _ _ _ _ _ _=>rfl,L2.q_f 2 λ_ _ _ _ _ _ _ _=>rfl,L2.q_f 3 λ_ _ _ _ _ _ _ _ _=>rfl,L2.q_f 1 λ_ _ _ _ _ _ _=>rfl,L2.q_f 2 λ_ _ _ _ _ _ _ _=>rfl,L2.q_f 2 λ_ _ _ _ _ _ _ _=>rfl,L2.q_f 3 λ_ _ _ _ _ _ _ _ _=>rfl,L2.q_C 2 λ_ _ _ _ _ _ _ _=>rfl,L2.q_f 1 λ_ _ _ _ _ _ _=>rfl,L2.q_f 2 λ_ _ _ _ _ _ _ _=>rfl,L2.q_f 2 λ_ _ _ _ _ _ _ _=>rfl,L2.q_f 2 λ_ _ _ _ _ _ _ _=>rfl,L2.q_f 2 λ_ _ _ _ _ _ _ _=>rfl,L2.q_f 1 λ_ _ _ _ _ _ _=>rfl,L2.q_f 2 λ_ _ _ _ _ _ _ _=>rfl,L2.q_f 1 λ_ _ _ _ _ _ _=>rfl,L2.q_f 1 λ_ _ _ _ _ _ _=>rfl,L2.q_f 1 λ_ _ _ _ _ _ _=>rfl,L2.q_f 1 λ_ _ _ _ _ _ _=>rfl,L2.q_f 1 λ_ _ _ _ _ _ _=>rfl,L2.q_f 1 λ_ _ _ _ _ _ _=>rfl,L2.q_f 2 λ_ _ _ _ _ _ _ _=>rfl,L2.q_f 2 λ_ _ _ _ _ _ _ _=>rfl,L2.q_f 2 λ_ _ _ _ _ _ _ _=>rfl,L2.q_f 2 λ_ _ _ _ _ _ _ _=>rfl,L2.q_f 2 λ_ _ _ _ _ _ _ _=>rfl,L2.q_f 2 λ_ _ _ _ _ _ _ _=>rfl,L2.q_f 1 λ_ _ _ _ _ _ _=>rfl,L2.q_f 2 λ_ _ _ _ _ _ _ _=>rfl,L2.q_f 2 λ_ _ _ _ _ _ _ _=>rfl,L2.q_f 2 λ_ _ _ _ _ _ _ _=>rfl,L2.q_f 2 λ_ _ _ _ _ _ _ _=>rfl,L2.q_f 4 λ_ _ _ _ _ _ _ _ _ _=>rfl,L2.q_f 3 λ_ _ _ _ _ _ _ _ _=>rfl,L2.q_f 4 λ_ _ _ _ _ _ _ _ _ _=>rfl,L2.q_f 3 λ_ _ _ _ _ _ _ _ _=>rfl,L2.q_f 3 λ_ _ _ _ _ _ _ _ _=>rfl,L2.q_f 3 λ_ _ _ _ _ _ _ _ _=>rfl,L2.q_f 2 λ_ _ _ _ _ _ _ _=>rfl,L2.q_f 1 λ_ _ _ _ _ _ _=>rfl,L2.q_f 3 λ_ _ _ _ _ _ _ _ _=>rfl,L2.q_f 2 λ_ _ _ _ _ _ _ _=>rfl,L2.q_f 2 λ_ _ _ _ _ _ _ _=>rfl,L2.q_f 3 λ_ _ _ _ _ _ _ _ _=>rfl,L2.q_f 4 λ_ _ _ _ _ _ _ _ _ _=>rfl,L2.q_f 4 λ_ _ _ _ _ _ _ _ _ _=>rfl,L2.q_f 3 λ_ _ _ _ _ _ _ _ _=>rfl⟩⟩
#print axioms PySem.Challenge.cw_chancehall_k54_bounds_holds
