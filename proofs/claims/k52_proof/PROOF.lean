import PyProof.Rows.All
import Wide.All
import OpenK.AllK
import Wide.FinOn
import Lean
import PyProof.EqAt
import PyProof.EqKinds
import PyProof.TupleCall
import PyProof.EqLayable
import KE.KIntText
import PyProof.EnumMake
import PyProof.EnumStmt
import PyProof.EnumFor
import PyProof.Rows.EnumRows
import PyProof.ExcInit
import PyProof.ExcClass2
import PyProof.InstStoreFacts
import KE.KLam
import KE.KNestM
import PySem.Challenge.RW_chancehall_k52_goal_rounds
macro "qV" t:term : tactic => `(tactic| exact $t)
macro "z5" t:term : tactic => `(tactic| refine $t)
macro "x5" p:Lean.Parser.Tactic.rcasesPatMed ":=" t:term : tactic => `(tactic| obtain $p := $t)
macro "~!" d:Lean.Parser.Command.declId s:Lean.Parser.Command.declSig v:Lean.Parser.Command.declVal : command => `(command| theorem $d $s $v)
def aj := @List.getElem?_eq_getElem
def ao := @List.length_map
def aq := @List.getElem?_eq_some_iff
def au := @List.getElem?_map
def aA := @List.getD_eq_getElem?_getD
def aB := @List.length_append
def aC := @List.mem_of_getElem?
def aD := @List.getElem?_append_right
def aF := @List.getElem?_append_left
def aG := @Nat.le_refl
def aH := @PySem.Heap.get?_push_of_some
def aJ := @List.mem_cons_of_mem
def aK := @PySem.Heap.lt_size
def aM := @List.take_of_length_le
def aN := @Nat.le_trans
def aO := @List.getElem?_eq_none
def aP := @List.length_replicate
def aQ := @List.mem_cons_self
def aR := @List.take_length
def aU := @List.mem_append_right
def aV := @Nat.ne_of_lt
def aW := @Nat.lt_of_lt_of_le
def aX := @List.getElem_mem
def aY := @List.getElem?_of_mem
def aZ := @Int.fmod_eq_emod_of_nonneg
def bh := @PySem.Heap.get?_push_size
def bw := @List.size_toArray
def bA := @List.length_take
def bC := @Nat.zero_le
def bD := @List.map_append
def bF := @Bool.false_ne_true
open PySem.W (Frag)
open Lean Elab Tactic Meta in
elab "om" : tactic=>withMainContext do
 let g <- getMainGoal
 let s <- saveState
 try
  evalTactic (<- `(tactic| first | assumption | qV aN (by assumption) (by decide) | qV Nat.lt_of_le_of_lt (by assumption) (by decide) | qV aW (by assumption) (by assumption) | qV Nat.le_of_lt (by assumption) | qV aN (by assumption) (by assumption) | qV Int.le_trans (by assumption) (by decide) | qV Int.lt_of_lt_of_le (by assumption) (by decide) | qV Int.lt_of_lt_of_le (by decide) (by assumption) | qV Int.le_of_lt (by assumption) | qV Int.ne_of_gt (by assumption) | qV Nat.le_succ_of_le (by assumption) | fail))
 catch _ =>
  s.restore
  evalTactic (<- `(tactic| omega))
  let u:=(collectFVars {} (<- instantiateMVars (.mvar g))).fvarSet
  s.restore
  replaceMainGoal [<- g.tryClearMany ((<- g.getDecl).lctx.getFVarIds.filter fun f=>!u.contains f)]
  evalTactic (<- `(tactic| omega))
set_option Elab.async false
set_option linter.all false
set_option maxRecDepth 100000
set_option maxHeartbeats 4000000
namespace L2.Once
open PySem PySem.W
def z:Pos:=⟨0,0,0,0⟩
noncomputable def tE:Obj:=⟨.type "tuple",none,.seq ⟨[]⟩ 0,⟨[]⟩⟩
noncomputable def fE:Obj:=⟨.none,none,.fields ⟨[]⟩,⟨[]⟩⟩
noncomputable def tN (t:Nat) (l:List Str):Obj:=⟨.type "tuple",none,.seq ⟨(l.zipIdx t).map fun x=>.str x.1 x.2⟩ 0,⟨[]⟩⟩
noncomputable def cO (n q:Str) (t:Nat) (l a f:Int) (r u:Nat):Obj:=⟨.type "code",none,.fields ⟨[.str n t,.str q (t+1),.str "/claim/cut.py" (t+2),.int l 0,.int a 0,.int 0 0,.int 0 0,.int f 0,.ref r,.bool true,.int 181 0,.ref (r+1),.none,.ref (r+2),.ref (r+3),.ref (r+4),.int u 0,.int l 0,.str "/claim/cut.py" (u+1)]⟩,⟨[]⟩⟩
def o11:Obj:={ cls:=.type "tuple",data:=.seq #[] }
def o12:Obj:={ cls:=.none,data:=.fields #[] }
def o13:Obj:={ cls:=.type "code",data:=.fields #[.str "<module>" 182,.str "<module>" 183,.str "/claim/cut.py" 184,.int 1 0,.int 0 0,.int 0 0,.int 0 0,.int 0 0,.ref 11,.bool false,.int 181 0,.ref 12,.none,.none,.none,.none,.int 185 0,.int 1 0,.str "/claim/cut.py" 186] }
def o14:Obj:={ cls:=.type "frame",slots:=#[some (.ref 13),some (.ref 3),some (.ref 3),none,some (.str "__main__" 164),none,some (.ref 0)] }
noncomputable def cP (n q:Str) (t:Nat) (l a f:Int) (r u:Nat):Obj:=⟨.type "code",none,.fields ⟨[.str n t,.str q (t+1),.str "/claim/cut.py" (t+2),.int l 0,.int a 0,.int 0 0,.int 0 0,.int f 0,.ref r,.bool true,.int 181 0,.ref (r+1),.none,.none,.none,.ref (r+2),.int u 0,.int l 0,.str "/claim/cut.py" (u+1)]⟩,⟨[]⟩⟩
noncomputable def dE (P:Params) (x:Str) (t:Nat) (v:Value):DictEntry:=⟨PyData.keyHash P x,.str x t,v⟩
abbrev lf (o:Obj):BT:=.node o .nil .nil
noncomputable def tr (P:Params):BT:=.node (boot_o_0 P)
 (.node (boot_o_1 P) (.node (boot_o_3 P) (lf (boot_o_7 P)) (lf o11)) (.node (boot_o_5 P) (lf (boot_o_9 P)) (lf o13)))
 (.node (boot_o_2 P) (.node (boot_o_4 P) (lf (boot_o_8 P)) (lf o12)) (.node (boot_o_6 P) (lf (boot_o_10 P)) (lf o14)))
noncomputable def S0 (w:World) (os:OsState):Shared:=⟨boot_heap w.params,Array.mk [],boot_drawn,boot_toks,os⟩
noncomputable def Sa (w:World) (os:OsState):Shared:=⟨⟨Array.mk [boot_o_0 w.params,boot_o_1 w.params,boot_o_2 w.params,boot_o_3 w.params,boot_o_4 w.params,boot_o_5 w.params,boot_o_6 w.params,boot_o_7 w.params,boot_o_8 w.params,boot_o_9 w.params,boot_o_10 w.params,o11,o12,o13,o14],{}⟩,Array.mk [],{},187,os⟩
noncomputable def Sb (w:World) (os:OsState):SharedT:=⟨tr w.params,15,{},⟨[]⟩,{},187,os⟩
def env (p:Program):Env:={ scope:=p.main.scope,locals:=mainNs,globals:=mainNs,cells:=[],code:=.ref 13,frame:=some 14 }
def cE (p:Program):Code:=.body (behindTheImports p) (env p)
abbrev ann:Option Value:=some (.ref 6)
abbrev B:List Frame:=[topFrame z]
~!size (w:World):((boot_heap w.params).isNs mainGlobals && (Array.mk [] : Array GenState).size == 0,(boot_heap w.params).objs.size,(boot_heap w.params).nsMap mainGlobals "__annotations__")=(true,11,ann):=by
 rw [Fast.te8920871248978507458]; kernel_rfl
def oG (p:Program) (w:World) (M:Nat) (S:SharedT) (l:List Stmt) (q:Pos) (G:Shared->Prop):Prop:=∃ s,topRun treeTable p w 11 ann M S.abs (restOf l (env p) (cE p) q B)=some s/\G s
~!oG.cut {p:Program}{w:World}{n M:Nat}{S S':SharedT}{l1 l2:List Stmt}{q q':Pos}{G:Shared->Prop} (h:segRunT treeTable p w 11 ann 1 n S (piecesOf l1 (env p) (cE p) q B)=some (.next,S',cE p,q')) (k:oG p w M S' l2 q' G):oG p w (n+M) S (l1++l2) q G :=
 let ⟨s,a,b⟩:=k
 ⟨s,piece_app (segRun_of h) a,b⟩
~!oG.cutAt {p:Program}{w:World}{n m M:Nat}{S S':SharedT}{l:List Stmt}{q q':Pos}{G:Shared->Prop} (h:segRunT treeTable p w 11 ann 1 n S (piecesOf (l.take m) (env p) (cE p) q B)=some (.next,S',cE p,q')) (k:oG p w M S' (l.drop m) q' G):oG p w (n+M) S l q G:=by
 have:=oG.cut h k
 rwa [List.take_append_drop] at this
def Good {α:Type} (p q:Program) (loose:List Str) (Xt:Shared->Bool) (Yf:Shared->α) (Ya:World->α) (g0:Bool) (w:World) (s:Shared):Prop :=
 (staticsOk (importedModules p.main.body) (boot_heap w.params) s.heap && namesBound p s.heap && gensDone s && laidKept (boot_heap w.params) s.heap,openSeen q loose (importedModules p.main.body) Xt g0 s,Yf s)=(true,openGood q loose,Ya w)
~!oG.last {p q:Program}{loose:List Str}{Xt:Shared->Bool}{α:Type}{Yf:Shared->α}{Ya:World->α}{g0:Bool}{w:World}{n k:Nat}{S:SharedT}{l:List Stmt}{q0 e:Pos}
  (big:(segRunT treeTable p w 11 ann 1 n S (piecesOf l (env p) (cE p) q0 B)).map (fun r =>
    (r.1,r.2.2.1,r.2.2.2,(topRun treeTable p w 11 ann k r.2.1.abs ⟨doneF .next,cE p,e,B⟩).map fun s =>
     (staticsOk (importedModules p.main.body) (boot_heap w.params) s.heap && namesBound p s.heap && gensDone s && laidKept (boot_heap w.params) s.heap,openSeen q loose (importedModules p.main.body) Xt g0 s,Yf s))) =
   some (.next,cE p,e,some (true,openGood q loose,Ya w))):oG p w (n+k) S l q0 (Good p q loose Xt Yf Ya g0 w):=by
 x5⟨⟨f,sT,c,ps⟩,r1,r2⟩:=Option.map_eq_some_iff.mp big
 obtain ⟨rfl,rfl,rfl,r3⟩ : f=.next/\c=cE p/\ps=e/\_:=by simpa only [Prod.mk.injEq] using r2
 x5⟨s,t1,t2⟩:=Option.map_eq_some_iff.mp r3
 have q1:=piece_app (rest:=[]) (segRun_of r1) (piece_nil t1)
 rw [List.append_nil] at q1
 qV⟨s,q1,t2⟩
~!Vf {p q:Program}{loose:List Str}{Xt:Shared->Bool}{α:Type}{Yf:Shared->α}{Ya:World->α}{N:Nat}{g0:Bool}{a b M:Nat}
  (open_:∀ w:World,(fencedOpening treeTable p w N).map (fun s=>(s.heap,s.gens,s.drawn,s.toks))=some (boot_heap w.params,Array.mk [],boot_drawn,boot_toks))
  (pre:∀ w:World,(fun os=>topGo treeTable p w 11 ann a (S0 w os) (topStub p))=fun os=>some (Sa w os,⟨denote treeTable (cE p),cE p,z,B⟩))
  (block:∀ w:World,(fun os=>segRun treeTable p w 11 ann 1 b (Sa w os) (blockOf (behindTheImports p) (env p) (cE p) z B))=fun os=>some (.next,(Sb w os).abs,cE p,z))
  (ends:∀ (w:World) (os:OsState),oG p w M (Sb w os) (behindTheImports p) z (Good p q loose Xt Yf Ya g0 w))
  (le:Nat.ble (a+(b+M)) N=true):LeftO p q loose Xt Yf Ya N g0:=fun w=>by
 x5⟨⟨h,gs,d,ks,os⟩,e1,e2⟩:=Option.map_eq_some_iff.mp (open_ w)
 obtain ⟨rfl,rfl,rfl,rfl⟩ : h=boot_heap w.params/\gs=Array.mk []/\d=boot_drawn/\ks=boot_toks:=by simpa using e2
 obtain ⟨z1,z2,z3⟩ : _/\_/\_:=by simpa only [Prod.mk.injEq] using size w
 x5⟨s,q1,t2⟩:=ends w os
 obtain ⟨l1,l2,l3⟩ : _/\_/\_:=by simpa only [Good,Prod.mk.injEq] using t2
 have q2:=go_top (congrFun (pre w) os) (piece_block (congrFun (block w) os) q1)
 have q3:=topRun_mono (N - (a+(b+M))) _ _ _ _ q2
 rw [show a+(b+M)+(N - (a+(b+M)))=N by have:=Nat.le_of_ble_eq_true le; om] at q3
 have t:topFrom treeTable p w N ⟨boot_heap w.params,Array.mk [],boot_drawn,boot_toks,os⟩=some s:=by
  unfold topFrom
  dsimp only
  rw [z1,z2,z3,show topRun treeTable p w 11 ann N ⟨boot_heap w.params,Array.mk [],boot_drawn,boot_toks,os⟩ (topStub p)=some s from q3]
  show (match staticsOk (importedModules p.main.body) (boot_heap w.params) s.heap && namesBound p s.heap && gensDone s && laidKept (boot_heap w.params) s.heap with | true=>_ | false=>_)=_
  rw [l1]
 unfold openEnds
 rw [e1]
 show (topFrom treeTable p w N _).map _=_
 rw [t]
 qV congrArg some (Prod.ext l2 l3)
end L2.Once
namespace L2
open PySem
def gQ (s:Stmt):Arguments:=match s with
 | .FunctionDef _ a _ _ _ _ _ _ _ _=>a
 | _=>{ posonlyargs:=[],args:=[],vararg:=none,kwonlyargs:=[],kw_defaults:=[],kwarg:=none,defaults:=[] }
def eZ (s:Stmt):List Stmt:=match s with
 | .FunctionDef _ _ b _ _ _ _ _ _ _=>b
 | _=>[]
def bO (s:Stmt):Scope:=match s with
 | .FunctionDef _ _ _ _ _ _ sc _ _ _=>sc
 | _=>{ kind:=.function,names:=[],isGenerator:=false,isCoroutine:=false }
end L2
namespace K52
open PySem L2
def top (i:Nat):Stmt:=PySem.Challenge.pw_chancehall_k52_goal_rounds.main.body.getD i (.Pass ⟨0,0,0,0⟩)
def fX (i j:Nat):Stmt:=match top i with | .ClassDef _ _ _ b _ _ _ _ _ _ _=>b.getD j (.Pass ⟨0,0,0,0⟩) | _=>.Pass ⟨0,0,0,0⟩
end K52
namespace H52
open PySem PySem.W L2 L2.Once K52
abbrev p:Program:=PySem.Challenge.pw_chancehall_k52_goal_rounds
noncomputable section
noncomputable def wA:Obj:=⟨.type "builtin_function_or_method",none,.fields ⟨[.builtin "type.__prepare__",.type "type"]⟩,⟨[]⟩⟩
noncomputable def wB (n:Nat):Obj:=⟨.type "builtin_function_or_method",none,.fields ⟨[.builtin "object.__init_subclass__",.ref n]⟩,⟨[]⟩⟩
noncomputable def wC (n:Str) (t l r u:Nat):Obj:=⟨.type "code",none,.fields ⟨[.str n t,.str n (t+1),.str "/claim/cut.py" (t+2),.int l 0,.int 0 0,.int 0 0,.int 0 0,.int 0 0,.ref r,.bool false,.int 181 0,.ref (r+1),.none,.none,.none,.none,.int u 0,.int l 0,.str "/claim/cut.py" (u+1)]⟩,⟨[]⟩⟩
noncomputable def wF (c d:Nat) (n:Str) (t:Nat):Obj:=⟨.type "frame",none,.plain,⟨[some (.ref c),some (.ref 3),some (.ref d),none,some (.str n t),none,some (.ref 0)]⟩⟩
noncomputable def wG (t n:Nat):Obj:=⟨.type "getset_descriptor",none,.fields ⟨[.str "__weakref__" t,.ref n,.builtin "ExceptionGroup.__weakref__",.none]⟩,⟨[]⟩⟩
noncomputable def wK (n:Str) (b m:List Value) (d:Nat) (s:List Value) (o:Option Value) (t u:Nat) (x:String):Obj:=⟨.type "type",none,.cls ⟨n,b,m,d,n,true,[],s,false,none,false⟩,⟨[o,none,some (.str n t),some (.str n u),some (.builtin x),some (.bool true)]⟩⟩
noncomputable def wS (n:Nat):Obj:=⟨.type "super",none,.fields ⟨[.ref n,.ref n,.ref n]⟩,⟨[]⟩⟩
noncomputable def wT (n:Nat):Obj:=⟨.type "tuple",none,.seq ⟨[.ref n]⟩ 0,⟨[]⟩⟩
noncomputable def fO (n q:Str) (s:Stmt) (m:Value) (c:Nat):Obj:=⟨.type "function",none,.func (fnOf n q (gQ s) (eZ s) (bO s) .none .none .none m none (.ref c) .none),⟨[]⟩⟩
noncomputable def fT (n q:Str) (s:Stmt):Obj:=⟨.none,none,.func { fnOf n q (gQ s) (eZ s) (bO s) .none .none .none .none none .none .none with globals:=0,builtins:=0 },⟨[]⟩⟩
def ahF (P:Params):Obj:=⟨(.type "dict"),none,(.dict ⟨dE P "__name__" 165 (.str "law_chancehall_k52_goal_rounds" 779)::dE P "__doc__" 166 .none::dE P "__package__" 167 .none::dE P "__loader__" 168 (.builtin "__main__.__loader__#opaque")::dE P "__spec__" 169 .none::dE P "__annotations__" 170 (.ref 6)::dE P "__builtins__" 171 (.ref 4)::dE P "__file__" 173 (.str "/claim/cut.py" 172)::dE P "__cached__" 174 .none::dE P "_wall" 193 (.ref 21)::dE P "HallError" 213 (.ref 31)::dE P "NoNumber" 229 (.ref 44)::dE P "NoName" 245 (.ref 56)::dE P "NoChance" 261 (.ref 68)::dE P "NoShare" 277 (.ref 80)::dE P "NoRoom" 302 (.ref 99)::dE P "is_whole" 311 (.ref 108)::dE P "divisor" 322 (.ref 115)::dE P "NOUGHT" 327 (.ref 116)::dE P "ONE" 330 (.ref 117)::dE P "ratio" 339 (.ref 124)::dE P "is_ratio" 348 (.ref 131)::dE P "plus" 356 (.ref 138)::dE P "minus" 364 (.ref 145)::dE P "over" 372 (.ref 152)::dE P "under" 380 (.ref 159)::dE P "level" 388 (.ref 164)::dE P "total" 396 (.ref 171)::dE P "greatest" 405 (.ref 178)::dE P "behind_door" 413 (.ref 183)::dE P "goal_marks" 425 (.ref 190)::dE P "MOST" 429 (.int 40 428)::dE P "check_many" 436 (.ref 197)::dE P "lowered" 444 (.ref 204)::dE P "goal_round" 450 (.ref 209)::dE P "rounds_behind" 460 (.ref 216)::dE P "goal_rounds" 466 (.ref 221)::dE P "LONGEST_WORD" 470 (.int 8 469)::dE P "is_word" 476 (.ref 226)::dE P "check_head" 486 (.ref 233)::dE P "check_room_name" 493 (.ref 240)::dE P "check_chance" 500 (.ref 247)::dE P "check_pairs" 506 (.ref 252)::dE P "joined_ways" 512 (.ref 257)::dE P "Door" 559 (.ref 288)::dE P "Sure" 586 (.ref 309)::dE P "Mixed" 613 (.ref 328)::dE P "Toss" 641 (.ref 347)::dE P "Even" 663 (.ref 364)::dE P "check_share" 672 (.ref 373)::dE P "numbers_of" 682 (.ref 380)::dE P "numbered_ways" 693 (.ref 387)::dE P "offers_of" 704 (.ref 394)::dE P "Hall" 778 (.ref 449)::dE P "_law_cell" 788 (.ref 460)::dE P "_law_stream" 800 (.ref 467)::dE P "_law_gcd" 810 (.ref 474)::dE P "_law_ratio" 819 (.ref 481)::dE P "_law_is_ratio" 827 (.ref 488)::dE P "_law_are_ratios" 833 (.ref 493)::dE P "_law_same" 841 (.ref 500)::dE P "_law_names" 847 (.ref 505)::dE P "_law_share" 857 (.ref 512)::dE P "_law_pay" 867 (.ref 519)::dE P "_law_door" 873 (.ref 524)::dE P "_law_doors" 879 (.ref 529)::dE P "_law_built" 885 (.ref 534)::dE P "_law_hall" 891 (.ref 539)::dE P "_law_chosen" 902 (.ref 546)::dE P "_law_mean" 915 (.ref 553)::dE P "_law_below" 923 (.ref 560)::dE P "_law_sizes" 931 (.ref 567)::dE P "_law_are_rounds" 937 (.ref 572)::dE P "_law_goals" 943 (.ref 577)::dE P "_law_right" 949 (.ref 582)::[]⟩ 75),⟨[]⟩⟩
noncomputable def agO:Obj:=⟨.none,none,(.fields ⟨(.int 1 0)::(.int 0 0)::(.ref 20)::(.int 5 0)::(.int 0 0)::(.ref 27)::(.int 7 0)::(.int 0 0)::(.ref 40)::(.int 9 0)::(.int 0 0)::(.ref 52)::(.int 11 0)::(.int 0 0)::(.ref 64)::(.int 13 0)::(.int 0 0)::(.ref 76)::(.int 15 0)::(.int 0 0)::(.ref 88)::(.int 21 0)::(.int 0 0)::(.ref 107)::(.int 23 0)::(.int 0 0)::(.ref 114)::(.int 34 0)::(.int 0 0)::(.ref 123)::(.int 43 0)::(.int 0 0)::(.ref 130)::(.int 51 0)::(.int 0 0)::(.ref 137)::(.int 53 0)::(.int 0 0)::(.ref 144)::(.int 55 0)::(.int 0 0)::(.ref 151)::(.int 57 0)::(.int 0 0)::(.ref 158)::(.int 60 0)::(.int 0 0)::(.ref 163)::(.int 65 0)::(.int 0 0)::(.ref 170)::(.int 68 0)::(.int 0 0)::(.ref 177)::(.int 75 0)::(.int 0 0)::(.ref 182)::(.int 79 0)::(.int 0 0)::(.ref 189)::(.int 87 0)::(.int 0 0)::(.ref 196)::(.int 90 0)::(.int 0 0)::(.ref 203)::(.int 92 0)::(.int 0 0)::(.ref 208)::(.int 100 0)::(.int 0 0)::(.ref 215)::(.int 105 0)::(.int 0 0)::(.ref 220)::(.int 112 0)::(.int 0 0)::(.ref 225)::(.int 117 0)::(.int 0 0)::(.ref 232)::(.int 122 0)::(.int 0 0)::(.ref 239)::(.int 125 0)::(.int 0 0)::(.ref 246)::(.int 128 0)::(.int 0 0)::(.ref 251)::(.int 134 0)::(.int 0 0)::(.ref 256)::(.int 139 0)::(.int 0 0)::(.ref 263)::(.int 152 0)::(.int 0 0)::(.ref 298)::(.int 158 0)::(.int 0 0)::(.ref 317)::(.int 164 0)::(.int 0 0)::(.ref 336)::(.int 170 0)::(.int 0 0)::(.ref 355)::(.int 175 0)::(.int 0 0)::(.ref 372)::(.int 178 0)::(.int 0 0)::(.ref 379)::(.int 186 0)::(.int 0 0)::(.ref 386)::(.int 193 0)::(.int 0 0)::(.ref 393)::(.int 202 0)::(.int 0 0)::(.ref 400)::(.int 232 0)::(.int 0 0)::(.ref 459)::(.int 234 0)::(.int 0 0)::(.ref 466)::(.int 245 0)::(.int 0 0)::(.ref 473)::(.int 250 0)::(.int 0 0)::(.ref 480)::(.int 253 0)::(.int 0 0)::(.ref 487)::(.int 260 0)::(.int 0 0)::(.ref 492)::(.int 264 0)::(.int 0 0)::(.ref 499)::(.int 266 0)::(.int 0 0)::(.ref 504)::(.int 275 0)::(.int 0 0)::(.ref 511)::(.int 279 0)::(.int 0 0)::(.ref 518)::(.int 287 0)::(.int 0 0)::(.ref 523)::(.int 304 0)::(.int 0 0)::(.ref 528)::(.int 314 0)::(.int 0 0)::(.ref 533)::(.int 324 0)::(.int 0 0)::(.ref 538)::(.int 331 0)::(.int 0 0)::(.ref 545)::(.int 340 0)::(.int 0 0)::(.ref 552)::(.int 348 0)::(.int 0 0)::(.ref 559)::(.int 350 0)::(.int 0 0)::(.ref 566)::(.int 361 0)::(.int 0 0)::(.ref 571)::(.int 365 0)::(.int 0 0)::(.ref 576)::(.int 370 0)::(.int 0 0)::(.ref 581)::[]⟩),⟨[]⟩⟩
def q21:Obj:=(fO "_wall" "_wall" (top 0) (.str "__main__" 164) 20)
noncomputable def q22:Obj:=⟨(.type "tuple"),none,(.seq ⟨(.type "ValueError")::[]⟩ 0),⟨[]⟩⟩
noncomputable def q23:Obj:=wA
def q24 (P:Params):Obj:=⟨(.type "dict"),none,(.dict ⟨dE P "__module__" 203 (.str "chancehall.errors" 194)::dE P "__qualname__" 205 (.str "HallError" 204)::dE P "__firstlineno__" 207 (.int 5 206)::dE P "__static_attributes__" 208 (.ref 29)::[]⟩ 4),⟨[]⟩⟩
noncomputable def q27:Obj:=(wC "HallError" 198 5 25 201)
noncomputable def q28:Obj:=(wF 27 24 "chancehall.errors" 194)
def q30 (P:Params):Obj:=⟨(.type "dict"),none,(.dict ⟨dE P "__module__" 203 (.str "chancehall.errors" 194)::dE P "__firstlineno__" 207 (.int 5 206)::dE P "__static_attributes__" 208 (.ref 29)::dE P "__weakref__" 210 (.ref 32)::dE P "__doc__" 211 .none::[]⟩ 3),⟨[]⟩⟩
noncomputable def q31:Obj:=(wK "HallError" [(.type "ValueError")] [(.ref 31),(.type "ValueError"),(.type "Exception"),(.type "BaseException"),(.type "object")] 30 [(.ref 44),(.ref 56),(.ref 68),(.ref 80),(.ref 99)] (some (.ref 22)) 196 204 "ValueError.__new__")
noncomputable def q32:Obj:=(wG 209 31)
noncomputable def q33:Obj:=(wS 31)
noncomputable def q34:Obj:=(wB 31)
noncomputable def q35:Obj:=(wT 31)
noncomputable def q36:Obj:=wA
def q37 (P:Params):Obj:=⟨(.type "dict"),none,(.dict ⟨dE P "__module__" 221 (.str "chancehall.errors" 194)::dE P "__qualname__" 223 (.str "NoNumber" 222)::dE P "__firstlineno__" 225 (.int 7 224)::dE P "__static_attributes__" 226 (.ref 42)::[]⟩ 4),⟨[]⟩⟩
noncomputable def q40:Obj:=(wC "NoNumber" 216 7 38 219)
noncomputable def q41:Obj:=(wF 40 37 "chancehall.errors" 194)
def q43 (P:Params):Obj:=⟨(.type "dict"),none,(.dict ⟨dE P "__module__" 221 (.str "chancehall.errors" 194)::dE P "__firstlineno__" 225 (.int 7 224)::dE P "__static_attributes__" 226 (.ref 42)::dE P "__doc__" 227 .none::[]⟩ 2),⟨[]⟩⟩
noncomputable def q44:Obj:=(wK "NoNumber" [(.ref 31)] [(.ref 44),(.ref 31),(.type "ValueError"),(.type "Exception"),(.type "BaseException"),(.type "object")] 43 [] (some (.ref 35)) 214 222 "ValueError.__new__")
noncomputable def q45:Obj:=(wS 44)
noncomputable def q46:Obj:=(wB 44)
noncomputable def q47:Obj:=(wT 31)
noncomputable def q48:Obj:=wA
def q49 (P:Params):Obj:=⟨(.type "dict"),none,(.dict ⟨dE P "__module__" 237 (.str "chancehall.errors" 194)::dE P "__qualname__" 239 (.str "NoName" 238)::dE P "__firstlineno__" 241 (.int 9 240)::dE P "__static_attributes__" 242 (.ref 54)::[]⟩ 4),⟨[]⟩⟩
noncomputable def q52:Obj:=(wC "NoName" 232 9 50 235)
noncomputable def q53:Obj:=(wF 52 49 "chancehall.errors" 194)
def q55 (P:Params):Obj:=⟨(.type "dict"),none,(.dict ⟨dE P "__module__" 237 (.str "chancehall.errors" 194)::dE P "__firstlineno__" 241 (.int 9 240)::dE P "__static_attributes__" 242 (.ref 54)::dE P "__doc__" 243 .none::[]⟩ 2),⟨[]⟩⟩
noncomputable def q56:Obj:=(wK "NoName" [(.ref 31)] [(.ref 56),(.ref 31),(.type "ValueError"),(.type "Exception"),(.type "BaseException"),(.type "object")] 55 [] (some (.ref 47)) 230 238 "ValueError.__new__")
noncomputable def q57:Obj:=(wS 56)
noncomputable def q58:Obj:=(wB 56)
noncomputable def q59:Obj:=(wT 31)
noncomputable def q60:Obj:=wA
def q61 (P:Params):Obj:=⟨(.type "dict"),none,(.dict ⟨dE P "__module__" 253 (.str "chancehall.errors" 194)::dE P "__qualname__" 255 (.str "NoChance" 254)::dE P "__firstlineno__" 257 (.int 11 256)::dE P "__static_attributes__" 258 (.ref 66)::[]⟩ 4),⟨[]⟩⟩
noncomputable def q64:Obj:=(wC "NoChance" 248 11 62 251)
noncomputable def q65:Obj:=(wF 64 61 "chancehall.errors" 194)
def q67 (P:Params):Obj:=⟨(.type "dict"),none,(.dict ⟨dE P "__module__" 253 (.str "chancehall.errors" 194)::dE P "__firstlineno__" 257 (.int 11 256)::dE P "__static_attributes__" 258 (.ref 66)::dE P "__doc__" 259 .none::[]⟩ 2),⟨[]⟩⟩
noncomputable def q68:Obj:=(wK "NoChance" [(.ref 31)] [(.ref 68),(.ref 31),(.type "ValueError"),(.type "Exception"),(.type "BaseException"),(.type "object")] 67 [] (some (.ref 59)) 246 254 "ValueError.__new__")
noncomputable def q69:Obj:=(wS 68)
noncomputable def q70:Obj:=(wB 68)
noncomputable def q71:Obj:=(wT 31)
noncomputable def q72:Obj:=wA
def q73 (P:Params):Obj:=⟨(.type "dict"),none,(.dict ⟨dE P "__module__" 269 (.str "chancehall.errors" 194)::dE P "__qualname__" 271 (.str "NoShare" 270)::dE P "__firstlineno__" 273 (.int 13 272)::dE P "__static_attributes__" 274 (.ref 78)::[]⟩ 4),⟨[]⟩⟩
noncomputable def q76:Obj:=(wC "NoShare" 264 13 74 267)
noncomputable def q77:Obj:=(wF 76 73 "chancehall.errors" 194)
def q79 (P:Params):Obj:=⟨(.type "dict"),none,(.dict ⟨dE P "__module__" 269 (.str "chancehall.errors" 194)::dE P "__firstlineno__" 273 (.int 13 272)::dE P "__static_attributes__" 274 (.ref 78)::dE P "__doc__" 275 .none::[]⟩ 2),⟨[]⟩⟩
noncomputable def q80:Obj:=(wK "NoShare" [(.ref 31)] [(.ref 80),(.ref 31),(.type "ValueError"),(.type "Exception"),(.type "BaseException"),(.type "object")] 79 [] (some (.ref 71)) 262 270 "ValueError.__new__")
noncomputable def q81:Obj:=(wS 80)
noncomputable def q82:Obj:=(wB 80)
noncomputable def q83:Obj:=(wT 31)
noncomputable def q84:Obj:=wA
def q85 (P:Params):Obj:=⟨(.type "dict"),none,(.dict ⟨dE P "__module__" 285 (.str "chancehall.errors" 194)::dE P "__qualname__" 287 (.str "NoRoom" 286)::dE P "__firstlineno__" 289 (.int 15 288)::dE P "__init__" 297 (.ref 96)::dE P "__static_attributes__" 299 (.ref 97)::[]⟩ 5),⟨[]⟩⟩
noncomputable def q87:Obj:=⟨.none,none,(.fields ⟨(.int 17 0)::(.int 4 0)::(.ref 95)::[]⟩),⟨[]⟩⟩
noncomputable def q88:Obj:=(wC "NoRoom" 280 15 86 283)
noncomputable def q89:Obj:=(wF 88 85 "chancehall.errors" 194)
def q95:Obj:=(cO "__init__" "NoRoom.__init__" 290 17 2 3 90 295)
def q96:Obj:=(fO "__init__" "NoRoom.__init__" (fX 7 0) (.str "chancehall.errors" 194) 95)
def q98 (P:Params):Obj:=⟨(.type "dict"),none,(.dict ⟨dE P "__module__" 285 (.str "chancehall.errors" 194)::dE P "__firstlineno__" 289 (.int 15 288)::dE P "__init__" 297 (.ref 96)::dE P "__static_attributes__" 299 (.ref 97)::dE P "__doc__" 300 .none::[]⟩ 2),⟨[]⟩⟩
noncomputable def q99:Obj:=(wK "NoRoom" [(.ref 31)] [(.ref 99),(.ref 31),(.type "ValueError"),(.type "Exception"),(.type "BaseException"),(.type "object")] 98 [] (some (.ref 83)) 278 286 "ValueError.__new__")
noncomputable def ahi:Obj:=(wS 99)
noncomputable def ahA:Obj:=(wB 99)
def agA:Obj:=(fO "is_whole" "is_whole" (top 9) (.str "chancehall.wholes" 303) 107)
def afX:Obj:=(tN 315 ["one", "other", "left", "right", "rest"])
def aev:Obj:=(fO "divisor" "divisor" (top 10) (.str "chancehall.wholes" 303) 114)
noncomputable def ae1:Obj:=⟨(.type "tuple"),none,(.seq ⟨(.int 0 325)::(.int 1 326)::[]⟩ 0),⟨[]⟩⟩
noncomputable def aeW:Obj:=⟨(.type "tuple"),none,(.seq ⟨(.int 1 328)::(.int 1 329)::[]⟩ 0),⟨[]⟩⟩
def afU:Obj:=(fO "ratio" "ratio" (top 14) (.str "chancehall.ratios" 323) 123)
def aeX:Obj:=(fO "is_ratio" "is_ratio" (top 15) (.str "chancehall.ratios" 323) 130)
def agy:Obj:=(fO "plus" "plus" (top 16) (.str "chancehall.ratios" 323) 137)
def ae3:Obj:=(fO "minus" "minus" (top 17) (.str "chancehall.ratios" 323) 144)
def aga:Obj:=(fO "over" "over" (top 18) (.str "chancehall.ratios" 323) 151)
def afr:Obj:=(fO "under" "under" (top 19) (.str "chancehall.ratios" 323) 158)
def ae4:Obj:=(fO "level" "level" (top 21) (.str "chancehall.levels" 381) 163)
def aeJ:Obj:=(fO "total" "total" (top 22) (.str "chancehall.levels" 381) 170)
def aep:Obj:=(fO "greatest" "greatest" (top 23) (.str "chancehall.levels" 381) 177)
def aeS:Obj:=(cP "behind_door" "behind_door" 408 75 2 3 179 411)
def afA:Obj:=(fO "behind_door" "behind_door" (top 25) (.str "chancehall.plans" 406) 182)
def agr:Obj:=(cO "goal_marks" "goal_marks" 416 79 2 3 184 423)
def agd:Obj:=(fO "goal_marks" "goal_marks" (top 27) (.str "chancehall.ways" 414) 189)
def afM:Obj:=(cO "check_many" "check_many" 430 87 1 3 191 434)
def af5:Obj:=(fO "check_many" "check_many" (top 30) (.str "chancehall.rounds" 426) 196)
def aeZ:Obj:=(fO "lowered" "lowered" (top 31) (.str "chancehall.rounds" 426) 203)
def afx:Obj:=(cP "goal_round" "goal_round" 445 92 3 3 205 448)
def afF:Obj:=(fO "goal_round" "goal_round" (top 32) (.str "chancehall.rounds" 426) 208)
def aeR:Obj:=(cO "rounds_behind" "rounds_behind" 451 100 3 3 210 458)
def afj:Obj:=(fO "rounds_behind" "rounds_behind" (top 33) (.str "chancehall.rounds" 426) 215)
def agI:Obj:=(cP "goal_rounds" "goal_rounds" 461 105 3 3 217 464)
def agP:Obj:=(fO "goal_rounds" "goal_rounds" (top 34) (.str "chancehall.rounds" 426) 220)
def agM:Obj:=(fO "is_word" "is_word" (top 37) (.str "chancehall.words" 467) 225)
def afb:Obj:=(cO "check_head" "check_head" 479 117 2 3 227 484)
def aft:Obj:=(fO "check_head" "check_head" (top 39) (.str "chancehall.doors" 477) 232)
def ahH:Obj:=(fT "check_room_name" "check_room_name" (top 40))
def ae0:Obj:=(cO "check_room_name" "check_room_name" 487 122 1 3 234 491)
def aeU:Obj:=(fO "check_room_name" "check_room_name" (top 40) (.str "chancehall.doors" 477) 239)
def afc:Obj:=(cO "check_chance" "check_chance" 494 125 1 3 241 498)
def ad8:Obj:=(fO "check_chance" "check_chance" (top 41) (.str "chancehall.doors" 477) 246)
def afk:Obj:=(cP "check_pairs" "check_pairs" 501 128 1 3 248 504)
def afu:Obj:=(fO "check_pairs" "check_pairs" (top 42) (.str "chancehall.doors" 477) 251)
def afd:Obj:=(cP "joined_ways" "joined_ways" 507 134 1 3 253 510)
def af6:Obj:=(fO "joined_ways" "joined_ways" (top 43) (.str "chancehall.doors" 477) 256)
noncomputable def ahO:Obj:=wA
def ahl (P:Params):Obj:=⟨(.type "dict"),none,(.dict ⟨dE P "__module__" 520 (.str "chancehall.doors" 477)::dE P "__qualname__" 522 (.str "Door" 521)::dE P "__firstlineno__" 524 (.int 139 523)::dE P "__init__" 533 (.ref 271)::dE P "ways" 540 (.ref 278)::dE P "chance_to" 548 (.ref 285)::dE P "__static_attributes__" 552 (.ref 286)::[]⟩ 7),⟨[]⟩⟩
noncomputable def ahr:Obj:=⟨.none,none,(.fields ⟨(.int 141 0)::(.int 4 0)::(.ref 270)::(.int 147 0)::(.int 4 0)::(.ref 277)::(.int 150 0)::(.int 4 0)::(.ref 284)::[]⟩),⟨[]⟩⟩
noncomputable def ag9:Obj:=(wC "Door" 515 139 261 518)
noncomputable def aht:Obj:=(wF 263 260 "chancehall.doors" 477)
def agC:Obj:=(cO "__init__" "Door.__init__" 525 141 3 3 265 531)
def agv:Obj:=(fO "__init__" "Door.__init__" (fX 44 0) (.str "chancehall.doors" 477) 270)
def afo:Obj:=(fO "ways" "Door.ways" (fX 44 1) (.str "chancehall.doors" 477) 277)
def agc:Obj:=(cO "chance_to" "Door.chance_to" 541 150 2 3 279 546)
def afa:Obj:=(fO "chance_to" "Door.chance_to" (fX 44 2) (.str "chancehall.doors" 477) 284)
def afn (P:Params):Obj:=⟨(.type "dict"),none,(.dict ⟨dE P "__module__" 520 (.str "chancehall.doors" 477)::dE P "__firstlineno__" 524 (.int 139 523)::dE P "__init__" 533 (.ref 271)::dE P "ways" 540 (.ref 278)::dE P "chance_to" 548 (.ref 285)::dE P "__static_attributes__" 552 (.ref 286)::dE P "__dict__" 554 (.ref 289)::dE P "__weakref__" 556 (.ref 290)::dE P "__doc__" 557 .none::[]⟩ 4),⟨[]⟩⟩
noncomputable def aed:Obj:=(wK "Door" [(.type "object")] [(.ref 288),(.type "object")] 287 [(.ref 309),(.ref 328)] none 513 521 "object.__new__")
noncomputable def aeE:Obj:=⟨(.type "getset_descriptor"),none,(.fields ⟨(.str "__dict__" 553)::(.ref 288)::(.builtin "function.__dict__")::(.builtin "function.__dict__#set")::[]⟩),⟨[]⟩⟩
noncomputable def afp:Obj:=(wG 555 288)
noncomputable def ahx:Obj:=(wS 288)
noncomputable def ag6:Obj:=(wB 288)
noncomputable def aeI:Obj:=(wT 288)
noncomputable def ahK:Obj:=wA
def aho (P:Params):Obj:=⟨(.type "dict"),none,(.dict ⟨dE P "__module__" 567 (.str "chancehall.doors" 477)::dE P "__qualname__" 569 (.str "Sure" 568)::dE P "__firstlineno__" 571 (.int 152 570)::dE P "__init__" 581 (.ref 306)::dE P "__static_attributes__" 583 (.ref 307)::[]⟩ 5),⟨[]⟩⟩
noncomputable def ahW:Obj:=⟨.none,none,(.fields ⟨(.int 154 0)::(.int 4 0)::(.ref 305)::[]⟩),⟨[]⟩⟩
noncomputable def ah0:Obj:=(wC "Sure" 562 152 296 565)
noncomputable def ahD:Obj:=(wF 298 295 "chancehall.doors" 477)
def ae5:Obj:=(cO "__init__" "Sure.__init__" 572 154 4 3 300 579)
def afQ:Obj:=(fO "__init__" "Sure.__init__" (fX 45 0) (.str "chancehall.doors" 477) 305)
def af7 (P:Params):Obj:=⟨(.type "dict"),none,(.dict ⟨dE P "__module__" 567 (.str "chancehall.doors" 477)::dE P "__firstlineno__" 571 (.int 152 570)::dE P "__init__" 581 (.ref 306)::dE P "__static_attributes__" 583 (.ref 307)::dE P "__doc__" 584 .none::[]⟩ 2),⟨[]⟩⟩
noncomputable def aej:Obj:=(wK "Sure" [(.ref 288)] [(.ref 309),(.ref 288),(.type "object")] 308 [] (some (.ref 293)) 560 568 "object.__new__")
noncomputable def ahj:Obj:=(wS 309)
noncomputable def ahP:Obj:=(wB 309)
noncomputable def afG:Obj:=(wT 288)
noncomputable def ahu:Obj:=wA
def ahk (P:Params):Obj:=⟨(.type "dict"),none,(.dict ⟨dE P "__module__" 594 (.str "chancehall.doors" 477)::dE P "__qualname__" 596 (.str "Mixed" 595)::dE P "__firstlineno__" 598 (.int 158 597)::dE P "__init__" 608 (.ref 325)::dE P "__static_attributes__" 610 (.ref 326)::[]⟩ 5),⟨[]⟩⟩
noncomputable def ahq:Obj:=⟨.none,none,(.fields ⟨(.int 160 0)::(.int 4 0)::(.ref 324)::[]⟩),⟨[]⟩⟩
noncomputable def ahn:Obj:=(wC "Mixed" 589 158 315 592)
noncomputable def ah4:Obj:=(wF 317 314 "chancehall.doors" 477)
def afq:Obj:=(cO "__init__" "Mixed.__init__" 599 160 4 3 319 606)
def agz:Obj:=(fO "__init__" "Mixed.__init__" (fX 46 0) (.str "chancehall.doors" 477) 324)
def af9 (P:Params):Obj:=⟨(.type "dict"),none,(.dict ⟨dE P "__module__" 594 (.str "chancehall.doors" 477)::dE P "__firstlineno__" 598 (.int 158 597)::dE P "__init__" 608 (.ref 325)::dE P "__static_attributes__" 610 (.ref 326)::dE P "__doc__" 611 .none::[]⟩ 2),⟨[]⟩⟩
noncomputable def agb:Obj:=(wK "Mixed" [(.ref 288)] [(.ref 328),(.ref 288),(.type "object")] 327 [(.ref 347),(.ref 364)] (some (.ref 312)) 587 595 "object.__new__")
noncomputable def ahV:Obj:=(wS 328)
noncomputable def ahy:Obj:=(wB 328)
noncomputable def agf:Obj:=(wT 328)
noncomputable def ah3:Obj:=wA
def ahs (P:Params):Obj:=⟨(.type "dict"),none,(.dict ⟨dE P "__module__" 621 (.str "chancehall.doors" 477)::dE P "__qualname__" 623 (.str "Toss" 622)::dE P "__firstlineno__" 625 (.int 164 624)::dE P "__init__" 637 (.ref 344)::dE P "__static_attributes__" 638 (.ref 345)::[]⟩ 5),⟨[]⟩⟩
noncomputable def ahX:Obj:=⟨.none,none,(.fields ⟨(.int 166 0)::(.int 4 0)::(.ref 343)::[]⟩),⟨[]⟩⟩
noncomputable def ahZ:Obj:=(wC "Toss" 616 164 334 619)
noncomputable def ahh:Obj:=(wF 336 333 "chancehall.doors" 477)
def afO:Obj:=(tN 629 ["self", "name", "pay", "chance", "room", "other"])
def aen:Obj:=(cO "__init__" "Toss.__init__" 626 166 6 3 338 635)
def aeb:Obj:=(fO "__init__" "Toss.__init__" (fX 47 0) (.str "chancehall.doors" 477) 343)
def afJ (P:Params):Obj:=⟨(.type "dict"),none,(.dict ⟨dE P "__module__" 621 (.str "chancehall.doors" 477)::dE P "__firstlineno__" 625 (.int 164 624)::dE P "__init__" 637 (.ref 344)::dE P "__static_attributes__" 638 (.ref 345)::dE P "__doc__" 639 .none::[]⟩ 2),⟨[]⟩⟩
noncomputable def agq:Obj:=(wK "Toss" [(.ref 328)] [(.ref 347),(.ref 328),(.ref 288),(.type "object")] 346 [] (some (.ref 331)) 614 622 "object.__new__")
noncomputable def ahC:Obj:=(wS 347)
noncomputable def ahf:Obj:=(wB 347)
noncomputable def agk:Obj:=(wT 328)
noncomputable def ag7:Obj:=wA
def ahM (P:Params):Obj:=⟨(.type "dict"),none,(.dict ⟨dE P "__module__" 649 (.str "chancehall.doors" 477)::dE P "__qualname__" 651 (.str "Even" 650)::dE P "__firstlineno__" 653 (.int 170 652)::dE P "__init__" 659 (.ref 361)::dE P "__static_attributes__" 660 (.ref 362)::[]⟩ 5),⟨[]⟩⟩
noncomputable def ahY:Obj:=⟨.none,none,(.fields ⟨(.int 172 0)::(.int 4 0)::(.ref 360)::[]⟩),⟨[]⟩⟩
noncomputable def ah5:Obj:=(wC "Even" 644 170 353 647)
noncomputable def ah9:Obj:=(wF 355 352 "chancehall.doors" 477)
def afN:Obj:=(cP "__init__" "Even.__init__" 654 172 4 3 357 657)
def aeF:Obj:=(fO "__init__" "Even.__init__" (fX 48 0) (.str "chancehall.doors" 477) 360)
def aea (P:Params):Obj:=⟨(.type "dict"),none,(.dict ⟨dE P "__module__" 649 (.str "chancehall.doors" 477)::dE P "__firstlineno__" 653 (.int 170 652)::dE P "__init__" 659 (.ref 361)::dE P "__static_attributes__" 660 (.ref 362)::dE P "__doc__" 661 .none::[]⟩ 2),⟨[]⟩⟩
noncomputable def afL:Obj:=(wK "Even" [(.ref 328)] [(.ref 364),(.ref 328),(.ref 288),(.type "object")] 363 [] (some (.ref 350)) 642 650 "object.__new__")
noncomputable def ag8:Obj:=(wS 364)
noncomputable def ahJ:Obj:=(wB 364)
def aes:Obj:=(cO "check_share" "check_share" 666 175 1 3 367 670)
def aer:Obj:=(fO "check_share" "check_share" (top 50) (.str "chancehall.halls" 664) 372)
def aeN:Obj:=(cO "numbers_of" "numbers_of" 673 178 1 3 374 680)
def agL:Obj:=(fO "numbers_of" "numbers_of" (top 51) (.str "chancehall.halls" 664) 379)
def aef:Obj:=(tN 686 ["door", "numbers", "numbered", "name", "chance"])
def af3:Obj:=(cO "numbered_ways" "numbered_ways" 683 186 2 3 381 691)
def ad7:Obj:=(fO "numbered_ways" "numbered_ways" (top 52) (.str "chancehall.halls" 664) 386)
def agV:Obj:=(tN 697 ["doors", "numbers", "taken", "told", "door"])
def aez:Obj:=(cO "offers_of" "offers_of" 694 193 2 3 388 702)
def aeC:Obj:=(fO "offers_of" "offers_of" (top 53) (.str "chancehall.halls" 664) 393)
noncomputable def ahN:Obj:=wA
def aha (P:Params):Obj:=⟨(.type "dict"),none,(.dict ⟨dE P "__module__" 712 (.str "chancehall.halls" 664)::dE P "__qualname__" 714 (.str "Hall" 713)::dE P "__firstlineno__" 716 (.int 202 715)::dE P "__init__" 722 (.ref 406)::dE P "size" 729 (.ref 413)::dE P "names" 736 (.ref 420)::dE P "place" 744 (.ref 427)::dE P "check_room" 752 (.ref 434)::dE P "door_at" 761 (.ref 441)::dE P "offers" 767 (.ref 446)::dE P "__static_attributes__" 771 (.ref 447)::[]⟩ 11),⟨[]⟩⟩
noncomputable def ahQ:Obj:=⟨.none,none,(.fields ⟨(.int 204 0)::(.int 4 0)::(.ref 405)::(.int 210 0)::(.int 4 0)::(.ref 412)::(.int 213 0)::(.int 4 0)::(.ref 419)::(.int 216 0)::(.int 4 0)::(.ref 426)::(.int 221 0)::(.int 4 0)::(.ref 433)::(.int 225 0)::(.int 4 0)::(.ref 440)::(.int 228 0)::(.int 4 0)::(.ref 445)::[]⟩),⟨[]⟩⟩
noncomputable def ahe:Obj:=(wC "Hall" 707 202 398 710)
noncomputable def ah6:Obj:=(wF 400 397 "chancehall.halls" 664)
def aem:Obj:=(cP "__init__" "Hall.__init__" 717 204 3 3 402 720)
def afH:Obj:=(fO "__init__" "Hall.__init__" (fX 54 0) (.str "chancehall.halls" 664) 405)
def aeV:Obj:=(fO "size" "Hall.size" (fX 54 1) (.str "chancehall.halls" 664) 412)
def agR:Obj:=(fO "names" "Hall.names" (fX 54 2) (.str "chancehall.halls" 664) 419)
def afI:Obj:=(fO "place" "Hall.place" (fX 54 3) (.str "chancehall.halls" 664) 426)
def ahz:Obj:=(fT "check_room" "Hall.check_room" (fX 54 4))
def afs:Obj:=(cO "check_room" "Hall.check_room" 745 221 2 3 428 750)
def afP:Obj:=(fO "check_room" "Hall.check_room" (fX 54 4) (.str "chancehall.halls" 664) 433)
def aeK:Obj:=(cO "door_at" "Hall.door_at" 753 225 3 3 435 759)
def agH:Obj:=(fO "door_at" "Hall.door_at" (fX 54 5) (.str "chancehall.halls" 664) 440)
def aeO:Obj:=(cP "offers" "Hall.offers" 762 228 2 3 442 765)
def aex:Obj:=(fO "offers" "Hall.offers" (fX 54 6) (.str "chancehall.halls" 664) 445)
def afe (P:Params):Obj:=⟨(.type "dict"),none,(.dict ⟨dE P "__module__" 712 (.str "chancehall.halls" 664)::dE P "__firstlineno__" 716 (.int 202 715)::dE P "__init__" 722 (.ref 406)::dE P "size" 729 (.ref 413)::dE P "names" 736 (.ref 420)::dE P "place" 744 (.ref 427)::dE P "check_room" 752 (.ref 434)::dE P "door_at" 761 (.ref 441)::dE P "offers" 767 (.ref 446)::dE P "__static_attributes__" 771 (.ref 447)::dE P "__dict__" 773 (.ref 450)::dE P "__weakref__" 775 (.ref 451)::dE P "__doc__" 776 .none::[]⟩ 4),⟨[]⟩⟩
noncomputable def afZ:Obj:=(wK "Hall" [(.type "object")] [(.ref 449),(.type "object")] 448 [] none 705 713 "object.__new__")
noncomputable def aec:Obj:=⟨(.type "getset_descriptor"),none,(.fields ⟨(.str "__dict__" 772)::(.ref 449)::(.builtin "function.__dict__")::(.builtin "function.__dict__#set")::[]⟩),⟨[]⟩⟩
noncomputable def aeh:Obj:=(wG 774 449)
noncomputable def ahB:Obj:=(wS 449)
noncomputable def ahT:Obj:=(wB 449)
def afh:Obj:=(cO "_law_cell" "_law_cell" 781 232 2 3 454 786)
def afy:Obj:=(fO "_law_cell" "_law_cell" (top 56) (.str "law_chancehall_k52_goal_rounds" 779) 459)
def ael:Obj:=(tN 792 ["_law_cell_here", "_law_many", "_law_found", "_law_number", "_law_digits", "_law_k"])
def aeG:Obj:=(cO "_law_stream" "_law_stream" 789 234 2 3 461 798)
def aeP:Obj:=(fO "_law_stream" "_law_stream" (top 57) (.str "law_chancehall_k52_goal_rounds" 779) 466)
def ae6:Obj:=(tN 804 ["_law_one", "_law_other", "_law_low", "_law_high"])
def aeQ:Obj:=(cO "_law_gcd" "_law_gcd" 801 245 2 3 468 808)
def afm:Obj:=(fO "_law_gcd" "_law_gcd" (top 58) (.str "law_chancehall_k52_goal_rounds" 779) 473)
def aeM:Obj:=(tN 814 ["_law_top", "_law_bottom", "_law_common"])
def agw:Obj:=(cO "_law_ratio" "_law_ratio" 811 250 2 3 475 817)
def aei:Obj:=(fO "_law_ratio" "_law_ratio" (top 59) (.str "law_chancehall_k52_goal_rounds" 779) 480)
def agx:Obj:=(cO "_law_is_ratio" "_law_is_ratio" 820 253 1 3 482 825)
def agi:Obj:=(fO "_law_is_ratio" "_law_is_ratio" (top 60) (.str "law_chancehall_k52_goal_rounds" 779) 487)
def ahL:Obj:=(fT "_law_are_ratios" "_law_are_ratios" (top 61))
def afw:Obj:=(cP "_law_are_ratios" "_law_are_ratios" 828 260 2 3 489 831)
def aeB:Obj:=(fO "_law_are_ratios" "_law_are_ratios" (top 61) (.str "law_chancehall_k52_goal_rounds" 779) 492)
def aeg:Obj:=(cO "_law_same" "_law_same" 834 264 2 3 494 839)
def agS:Obj:=(fO "_law_same" "_law_same" (top 62) (.str "law_chancehall_k52_goal_rounds" 779) 499)
def agt:Obj:=(cP "_law_names" "_law_names" 842 266 2 3 501 845)
def agW:Obj:=(fO "_law_names" "_law_names" (top 63) (.str "law_chancehall_k52_goal_rounds" 779) 504)
def agE:Obj:=(tN 851 ["_law_cell_here", "_law_small", "_law_xs", "_law_bottom"])
def aeH:Obj:=(cO "_law_share" "_law_share" 848 275 2 3 506 855)
def afY:Obj:=(fO "_law_share" "_law_share" (top 64) (.str "law_chancehall_k52_goal_rounds" 779) 511)
def aeL:Obj:=(tN 861 ["_law_cell_here", "_law_x", "_law_y", "_law_small"])
def agX:Obj:=(cO "_law_pay" "_law_pay" 858 279 4 3 513 865)
def aey:Obj:=(fO "_law_pay" "_law_pay" (top 65) (.str "law_chancehall_k52_goal_rounds" 779) 518)
def agG:Obj:=(cP "_law_door" "_law_door" 868 287 3 3 520 871)
def agQ:Obj:=(fO "_law_door" "_law_door" (top 66) (.str "law_chancehall_k52_goal_rounds" 779) 523)
def afV:Obj:=(cP "_law_doors" "_law_doors" 874 304 4 3 525 877)
def afB:Obj:=(fO "_law_doors" "_law_doors" (top 67) (.str "law_chancehall_k52_goal_rounds" 779) 528)
def afK:Obj:=(cP "_law_built" "_law_built" 880 314 3 3 530 883)
def af0:Obj:=(fO "_law_built" "_law_built" (top 68) (.str "law_chancehall_k52_goal_rounds" 779) 533)
def af2:Obj:=(cP "_law_hall" "_law_hall" 886 324 3 3 535 889)
def aeD:Obj:=(fO "_law_hall" "_law_hall" (top 69) (.str "law_chancehall_k52_goal_rounds" 779) 538)
def ahU:Obj:=(tN 895 ["_law_cell_here", "_law_rooms", "_law_xs", "_law_found", "_law_k"])
def ahg:Obj:=(cO "_law_chosen" "_law_chosen" 892 331 2 3 540 900)
def ah2:Obj:=(fO "_law_chosen" "_law_chosen" (top 70) (.str "law_chancehall_k52_goal_rounds" 779) 545)
def agu:Obj:=(tN 906 ["_law_door_here", "_law_numbers", "_law_top", "_law_bottom", "_law_room", "_law_chance", "_law_part"])
def agF:Obj:=(cO "_law_mean" "_law_mean" 903 340 2 3 547 913)
def aew:Obj:=(fO "_law_mean" "_law_mean" (top 71) (.str "law_chancehall_k52_goal_rounds" 779) 552)
def afD:Obj:=(cO "_law_below" "_law_below" 916 348 2 3 554 921)
def aek:Obj:=(fO "_law_below" "_law_below" (top 72) (.str "law_chancehall_k52_goal_rounds" 779) 559)
def agh:Obj:=(cO "_law_sizes" "_law_sizes" 924 350 1 3 561 929)
def ae7:Obj:=(fO "_law_sizes" "_law_sizes" (top 73) (.str "law_chancehall_k52_goal_rounds" 779) 566)
def ahI:Obj:=(fT "_law_are_rounds" "_law_are_rounds" (top 74))
def agD:Obj:=(cP "_law_are_rounds" "_law_are_rounds" 932 361 3 3 568 935)
def aeu:Obj:=(fO "_law_are_rounds" "_law_are_rounds" (top 74) (.str "law_chancehall_k52_goal_rounds" 779) 571)
def afR:Obj:=(cP "_law_goals" "_law_goals" 938 365 2 3 573 941)
def afi:Obj:=(fO "_law_goals" "_law_goals" (top 75) (.str "law_chancehall_k52_goal_rounds" 779) 576)
def agm:Obj:=(cP "_law_right" "_law_right" 944 370 4 3 578 947)
def ad9:Obj:=(fO "_law_right" "_law_right" (top 76) (.str "law_chancehall_k52_goal_rounds" 779) 581)
def tr1 (P:Params):BT:=(.node (boot_o_0 P) (.node (boot_o_1 P) (.node (ahF P) (.node (boot_o_7 P) (.node tE (.node q31 (.node fE (.node (tN 343 ["thing", "top", "bottom"]) (.node (fT "joined_ways" "joined_ways" (top 43)) (lf aeH) .nil) (lf aef)) (.node tE (.node tE (lf (fT "_law_goals" "_law_goals" (top 75))) .nil) (lf (tN 768 ["numbers", "offered", "share"])))) (.node q95 (.node afr (.node (afn P) (lf tE) .nil) (lf fE)) (.node fE (lf ag7) (lf (fT "_law_ratio" "_law_ratio" (top 59)))))) (.node q47 (.node (q79 P) (.node (fT "minus" "minus" (top 17)) (.node agv (lf (fT "_law_doors" "_law_doors" (top 67))) .nil) (lf ahQ)) (.node (fT "goal_round" "goal_round" (top 32)) (lf ahX) (lf ael))) (.node afX (.node tE (.node tE (lf afD) .nil) (lf tE)) (.node ae0 (lf tE) (lf fE))))) (.node q23 (.node fE (.node q71 (.node tE (.node ag9 (lf aey) .nil) (lf tE)) (.node fE (lf (af9 P)) (lf fE))) (.node fE (.node (tN 392 ["fractions", "leveled"]) (.node (aho P) (lf (fT "_law_mean" "_law_mean" (top 71))) .nil) (lf (tN 740 ["self", "name"]))) (.node (fT "check_head" "check_head" (top 39)) (lf (fT "__init__" "Even.__init__" (fX 48 0))) (lf agx)))) (.node (q55 P) (.node q87 (.node (cO "over" "over" 365 55 2 3 146 370) (.node tE (lf tE) .nil) (lf tE)) (.node aeR (lf aen) (lf tE))) (.node fE (.node afA (.node ahP (lf ae7) .nil) (lf (fT "door_at" "Hall.door_at" (fX 54 5)))) (.node ad8 (lf fE) (lf (fT "_law_names" "_law_names" (top 63)))))))) (.node o11 (.node (fT "_wall" "_wall" (top 0)) (.node q35 (.node (q67 P) (.node aeX (.node ahO (lf aeL) .nil) (lf ad7)) (.node (fT "check_many" "check_many" (top 30)) (.node (fT "__init__" "Mixed.__init__" (fX 46 0)) (lf fE) .nil) (lf aeh))) (.node q99 (.node (cP "level" "level" 383 60 1 3 160 386) (.node ahx (lf tE) .nil) (lf (cO "names" "Hall.names" 730 213 1 3 414 734))) (.node tE (lf ah5) (lf fE)))) (.node fE (.node q83 (.node fE (.node tE (lf fE) .nil) (lf fE)) (.node fE (lf fE) (lf aeP))) (.node aev (.node tE (.node (tN 582 ["leads"]) (lf (tN 927 ["_law_cell_here", "_law_xs"])) .nil) (lf tE)) (.node (tN 497 ["chance"]) (lf (fT "check_share" "check_share" (top 50))) (lf aeg))))) (.node q27 (.node (q43 P) (.node fE (.node tE (.node (tN 528 ["self", "name", "pay"]) (lf agG) .nil) (lf tE)) (.node (cO "lowered" "lowered" 437 90 2 3 198 442) (lf agf) (lf afh))) (.node (cO "is_whole" "is_whole" 305 21 1 3 102 309) (.node aeJ (.node ahD (lf fE) .nil) (lf afI)) (.node fE (lf (aea P)) (lf ahL)))) (.node q59 (.node fE (.node (tN 376 ["one", "other"]) (.node (fT "chance_to" "Door.chance_to" (fX 44 2)) (lf aeD) .nil) (lf (fT "size" "Hall.size" (fX 54 1)))) (.node (fT "goal_rounds" "goal_rounds" (top 34)) (lf agq) (lf tE))) (.node (cO "ratio" "ratio" 331 34 2 3 118 337) (.node tE (.node tE (lf agD) .nil) (lf fE)) (.node afk (lf aeN) (lf fE))))))) (.node (boot_o_5 P) (.node (boot_o_9 P) (.node (tN 190 ["k"]) (.node q33 (.node q65 (.node (fT "is_ratio" "is_ratio" (top 15)) (.node af6 (lf tE) .nil) (lf (fT "numbered_ways" "numbered_ways" (top 52)))) (.node (tN 433 ["many"]) (.node (tN 602 ["self", "name", "pay", "pairs"]) (lf afi) .nil) (lf afZ))) (.node (tN 298 ["room"]) (.node fE (.node aeE (lf ahg) .nil) (lf tE)) (.node (cP "is_word" "is_word" 471 112 1 3 222 474) (lf tE) (lf aei)))) (.node (q49 P) (.node q81 (.node ae3 (.node fE (lf afB) .nil) (lf ah6)) (.node afF (lf ahh) (lf (fT "_law_stream" "_law_stream" (top 57))))) (.node (fT "divisor" "divisor" (top 10)) (.node (cO "greatest" "greatest" 397 68 1 3 172 403) (.node ae5 (lf tE) .nil) (lf afs)) (.node tE (lf (tN 669 ["share"])) (lf tE))))) (.node tE (.node q41 (.node (q73 P) (.node (cO "plus" "plus" 349 51 2 3 132 354) (.node tE (lf fE) .nil) (lf aez)) (.node tE (lf ahV) (lf tE))) (.node tE (.node (fT "total" "total" (top 22)) (.node ahW (lf aew) .nil) (lf (fT "place" "Hall.place" (fX 54 3)))) (.node aft (lf aeF) (lf tE)))) (.node q57 (.node q89 (.node tE (.node (tN 544 ["self", "room"]) (lf (fT "_law_hall" "_law_hall" (top 69))) .nil) (lf (tN 726 ["self"]))) (.node tE (lf tE) (lf aeQ))) (.node tE (.node fE (.node ahu (lf fE) .nil) (lf agH)) (.node fE (lf tE) (lf agW)))))) (.node o13 (.node q21 (.node (q37 P) (.node q69 (.node fE (.node tE (lf (fT "_law_pay" "_law_pay" (top 65))) .nil) (lf fE)) (.node af5 (.node agz (lf agm) .nil) (lf ahT))) (.node ahA (.node tE (.node aeI (lf agu) .nil) (lf tE)) (.node (tN 482 ["name", "pay"]) (lf tE) (lf tE)))) (.node q53 (.node (q85 P) (.node tE (.node (cO "ways" "Door.ways" 534 147 1 3 272 538) (lf afK) .nil) (lf aem)) (.node tE (lf tE) (lf fE))) (.node aeW (.node (fT "behind_door" "behind_door" (top 25)) (.node aej (lf (fT "_law_sizes" "_law_sizes" (top 73))) .nil) (lf (tN 756 ["self", "room", "name"]))) (.node (fT "check_chance" "check_chance" (top 41)) (lf aer) (lf tE))))) (.node tE (.node q45 (.node q77 (.node (tN 360 ["one", "other"]) (.node (fT "__init__" "Door.__init__" (fX 44 0)) (lf tE) .nil) (lf (aha P))) (.node tE (lf (ahs P)) (lf tE))) (.node tE (.node fE (.node fE (lf tE) .nil) (lf fE)) (.node tE (lf ag8) (lf aeB)))) (.node (q61 P) (.node tE (.node (fT "under" "under" (top 19)) (.node afa (lf fE) .nil) (lf aeV)) (.node agP (lf ahf) (lf aeM))) (.node tE (.node agr (.node ahn (lf tE) .nil) (lf aeO)) (.node tE (lf tE) (lf tE)))))))) (.node (boot_o_2 P) (.node (boot_o_4 P) (.node (boot_o_8 P) (.node fE (.node q32 (.node q64 (.node tE (.node afd (lf afY) .nil) (lf tE)) (.node fE (.node fE (lf afR) .nil) (lf (afe P)))) (.node q96 (.node tE (.node aed (lf (fT "_law_chosen" "_law_chosen" (top 70))) .nil) (lf (tN 733 ["self"]))) (.node (fT "is_word" "is_word" (top 37)) (lf (ahM P)) (lf agw)))) (.node q48 (.node q80 (.node (cO "minus" "minus" 357 53 2 3 139 362) (.node tE (lf afV) .nil) (lf ahe)) (.node afx (lf ahZ) (lf tE))) (.node tE (.node (fT "greatest" "greatest" (top 23)) (.node (fT "__init__" "Sure.__init__" (fX 45 0)) (lf aek) .nil) (lf ahz)) (.node aeU (lf fE) (lf (tN 837 ["_law_one", "_law_other"])))))) (.node (q24 P) (.node q40 (.node q72 (.node (fT "plus" "plus" (top 16)) (.node aht (lf tE) .nil) (lf (fT "offers_of" "offers_of" (top 53)))) (.node (tN 440 ["raised", "bottom"]) (lf agb) (lf (tN 784 ["_law_script", "_law_k"])))) (.node (tN 308 ["thing"]) (.node tE (.node tE (lf agF) .nil) (lf tE)) (.node afb (lf afN) (lf agi)))) (.node q56 (.node q88 (.node aga (.node fE (lf fE) .nil) (lf fE)) (.node afj (lf aeb) (lf (fT "_law_gcd" "_law_gcd" (top 58))))) (.node (tN 334 ["top", "bottom", "common"]) (.node tE (.node afG (lf tE) .nil) (lf aeK)) (.node tE (lf (tN 676 ["rooms", "numbers", "room", "name"])) (lf agt)))))) (.node agO (.node (cO "_wall" "_wall" 187 1 1 3 15 191) (.node q36 (.node q68 (.node tE (.node (ahl P) (lf tE) .nil) (lf tE)) (.node afM (.node afq (lf (fT "_law_right" "_law_right" (top 76))) .nil) (lf ahB))) (.node ahi (.node ae4 (.node ag6 (lf fE) .nil) (lf agR)) (.node fE (lf ah9) (lf (tN 823 ["_law_found", "_law_number"]))))) (.node q52 (.node q84 (.node (tN 368 ["one", "other"]) (.node (fT "ways" "Door.ways" (fX 44 1)) (lf (fT "_law_built" "_law_built" (top 68))) .nil) (lf (fT "__init__" "Hall.__init__" (fX 54 0)))) (.node (tN 454 ["first", "many", "follow", "told"]) (lf afO) (lf tE))) (.node ae1 (.node fE (.node (af7 P) (lf tE) .nil) (lf fE)) (.node tE (lf aes) (lf agS))))) (.node q28 (.node q44 (.node q76 (.node fE (.node tE (lf agQ) .nil) (lf ahN)) (.node aeZ (lf ah3) (lf afy))) (.node agA (.node tE (.node tE (lf (tN 919 ["_law_one", "_law_other"])) .nil) (lf tE)) (.node (tN 490 ["room"]) (lf afL) (lf afw)))) (.node q60 (.node (tN 293 ["self", "room"]) (.node tE (.node agc (lf tE) .nil) (lf (cO "size" "Hall.size" 723 210 1 3 407 727))) (.node agI (lf ahC) (lf fE))) (.node afU (.node (fT "goal_marks" "goal_marks" (top 27)) (.node ahq (lf aeu) .nil) (lf (fT "offers" "Hall.offers" (fX 54 6)))) (.node afu (lf agL) (lf agE))))))) (.node (boot_o_6 P) (.node (boot_o_10 P) (.node tE (.node q34 (.node tE (.node (cO "is_ratio" "is_ratio" 340 43 1 3 125 346) (.node tE (lf fE) .nil) (lf af3)) (.node tE (.node tE (lf tE) .nil) (lf aec))) (.node (q98 P) (.node (fT "level" "level" (top 21)) (.node afp (lf ah2) .nil) (lf (fT "names" "Hall.names" (fX 54 2)))) (.node agM (lf ahY) (lf tE)))) (.node tE (.node q82 (.node tE (.node (tN 537 ["self"]) (lf tE) .nil) (lf tE)) (.node tE (lf tE) (lf aeG))) (.node (cO "divisor" "divisor" 312 23 2 3 109 320) (.node aep (.node afQ (lf fE) .nil) (lf afP)) (.node fE (lf tE) (lf (fT "_law_same" "_law_same" (top 62))))))) (.node fE (.node tE (.node tE (.node agy (.node fE (lf (fT "_law_door" "_law_door" (top 66))) .nil) (lf aeC)) (.node (fT "lowered" "lowered" (top 31)) (lf ahy) (lf (fT "_law_cell" "_law_cell" (top 56))))) (.node (fT "is_whole" "is_whole" (top 9)) (.node (cO "total" "total" 389 65 1 3 165 394) (.node ah0 (lf tE) .nil) (lf (cO "place" "Hall.place" 737 216 2 3 421 742))) (.node tE (lf tE) (lf fE)))) (.node q58 (.node tE (.node fE (.node tE (lf af2) .nil) (lf tE)) (.node fE (lf (afJ P)) (lf afm))) (.node (fT "ratio" "ratio" (top 14)) (.node (tN 419 ["hall", "goals", "marks", "goal"]) (.node (ahk P) (lf ahI) .nil) (lf tE)) (.node (fT "check_pairs" "check_pairs" (top 42)) (lf (fT "numbers_of" "numbers_of" (top 51))) (lf tE)))))) (.node o14 (.node q22 (.node tE (.node q70 (.node (tN 352 ["one", "other"]) (.node ahr (lf agX) .nil) (lf agV)) (.node tE (.node (tN 609 ["leads"]) (lf ad9) .nil) (lf tE))) (.node tE (.node fE (.node ahK (lf tE) .nil) (lf fE)) (.node tE (lf fE) (lf (fT "_law_is_ratio" "_law_is_ratio" (top 60)))))) (.node tE (.node tE (.node (fT "over" "over" (top 18)) (.node afo (lf af0) .nil) (lf afH)) (.node (fT "rounds_behind" "rounds_behind" (top 33)) (lf (fT "__init__" "Toss.__init__" (fX 47 0))) (lf ae6))) (.node tE (.node aeS (.node ahj (lf agh) .nil) (lf tE)) (.node afc (lf tE) (lf fE))))) (.node (q30 P) (.node q46 (.node tE (.node tE (.node agC (lf fE) .nil) (lf tE)) (.node fE (lf tE) (lf fE))) (.node fE (.node (tN 400 ["fractions", "found", "one"]) (.node (tN 575 ["self", "name", "pay", "room"]) (lf (fT "_law_below" "_law_below" (top 72))) .nil) (lf (tN 748 ["self", "room"]))) (.node ahH (lf ahJ) (lf tE)))) (.node tE (.node (fT "__init__" "NoRoom.__init__" (fX 7 0)) (.node (cO "under" "under" 373 57 2 3 153 378) (.node (tN 549 ["leads", "name", "pay"]) (lf ahU) .nil) (lf tE)) (.node tE (lf agk) (lf tE))) (.node fE (.node agd (.node ah4 (lf fE) .nil) (lf aex)) (.node fE (lf fE) (lf (fT "_law_share" "_law_share" (top 64)))))))))))
noncomputable def S1 (w:World) (os:OsState):SharedT:=⟨tr1 w.params,583,{},⟨[]⟩,{},950,os⟩
def e1:Pos:=⟨370,0,382,15⟩
noncomputable def KH:Params->Frag:=fun P=>(
 (nat_lit 2,(boot_o_2 P)) ::
 (nat_lit 3,⟨(.type "dict"),none,(.dict ⟨dE P "__name__" 165 (.str "law_chancehall_k52_goal_rounds" 779)::dE P "__doc__" 166 .none::dE P "__package__" 167 .none::dE P "__loader__" 168 (.builtin "__main__.__loader__#opaque")::dE P "__spec__" 169 .none::dE P "__annotations__" 170 (.ref 6)::dE P "__builtins__" 171 (.ref 4)::dE P "__file__" 173 (.str "/claim/cut.py" 172)::dE P "__cached__" 174 .none::dE P "_wall" 193 (.ref 21)::dE P "HallError" 213 (.ref 31)::dE P "NoNumber" 229 (.ref 44)::dE P "NoName" 245 (.ref 56)::dE P "NoChance" 261 (.ref 68)::dE P "NoShare" 277 (.ref 80)::dE P "NoRoom" 302 (.ref 99)::dE P "is_whole" 311 (.ref 108)::dE P "divisor" 322 (.ref 115)::dE P "NOUGHT" 327 (.ref 116)::dE P "ONE" 330 (.ref 117)::dE P "ratio" 339 (.ref 124)::dE P "is_ratio" 348 (.ref 131)::dE P "plus" 356 (.ref 138)::dE P "minus" 364 (.ref 145)::dE P "over" 372 (.ref 152)::dE P "under" 380 (.ref 159)::dE P "level" 388 (.ref 164)::dE P "total" 396 (.ref 171)::dE P "greatest" 405 (.ref 178)::dE P "behind_door" 413 (.ref 183)::dE P "goal_marks" 425 (.ref 190)::dE P "MOST" 429 (.int 40 428)::dE P "check_many" 436 (.ref 197)::dE P "lowered" 444 (.ref 204)::dE P "goal_round" 450 (.ref 209)::dE P "rounds_behind" 460 (.ref 216)::dE P "goal_rounds" 466 (.ref 221)::dE P "LONGEST_WORD" 470 (.int 8 469)::dE P "is_word" 476 (.ref 226)::dE P "check_head" 486 (.ref 233)::dE P "check_room_name" 493 (.ref 240)::dE P "check_chance" 500 (.ref 247)::dE P "check_pairs" 506 (.ref 252)::dE P "joined_ways" 512 (.ref 257)::dE P "Door" 559 (.ref 288)::dE P "Sure" 586 (.ref 309)::dE P "Mixed" 613 (.ref 328)::dE P "Toss" 641 (.ref 347)::dE P "Even" 663 (.ref 364)::dE P "check_share" 672 (.ref 373)::dE P "numbers_of" 682 (.ref 380)::dE P "numbered_ways" 693 (.ref 387)::dE P "offers_of" 704 (.ref 394)::dE P "Hall" 778 (.ref 449)::dE P "_law_cell" 788 (.ref 460)::dE P "_law_stream" 800 (.ref 467)::dE P "_law_gcd" 810 (.ref 474)::dE P "_law_ratio" 819 (.ref 481)::dE P "_law_is_ratio" 827 (.ref 488)::dE P "_law_are_ratios" 833 (.ref 493)::dE P "_law_same" 841 (.ref 500)::dE P "_law_names" 847 (.ref 505)::dE P "_law_share" 857 (.ref 512)::dE P "_law_pay" 867 (.ref 519)::dE P "_law_door" 873 (.ref 524)::dE P "_law_doors" 879 (.ref 529)::dE P "_law_built" 885 (.ref 534)::dE P "_law_hall" 891 (.ref 539)::dE P "_law_chosen" 902 (.ref 546)::dE P "_law_mean" 915 (.ref 553)::dE P "_law_below" 923 (.ref 560)::dE P "_law_sizes" 931 (.ref 567)::dE P "_law_are_rounds" 937 (.ref 572)::dE P "_law_goals" 943 (.ref 577)::dE P "_law_right" 949 (.ref 582)::dE P "_law_refused" 959 (.ref 589)::dE P "law" 965 (.ref 594)::[]⟩ 77),⟨[]⟩⟩) ::
 (nat_lit 15,tE) ::
 (nat_lit 17,(tN 190 ["k"])) ::
 (nat_lit 18,tE) ::
 (nat_lit 20,(cO "_wall" "_wall" 187 1 1 3 15 191)) ::
 (nat_lit 21,q21) ::
 (nat_lit 22,q22) ::
 (nat_lit 29,tE) ::
 (nat_lit 30,(q30 P)) ::
 (nat_lit 31,q31) ::
 (nat_lit 32,q32) ::
 (nat_lit 35,q35) ::
 (nat_lit 42,tE) ::
 (nat_lit 43,(q43 P)) ::
 (nat_lit 44,q44) ::
 (nat_lit 47,q47) ::
 (nat_lit 54,tE) ::
 (nat_lit 55,(q55 P)) ::
 (nat_lit 56,q56) ::
 (nat_lit 59,q59) ::
 (nat_lit 66,tE) ::
 (nat_lit 67,(q67 P)) ::
 (nat_lit 68,q68) ::
 (nat_lit 71,q71) ::
 (nat_lit 78,tE) ::
 (nat_lit 79,(q79 P)) ::
 (nat_lit 80,q80) ::
 (nat_lit 83,q83) ::
 (nat_lit 90,tE) ::
 (nat_lit 92,(tN 293 ["self", "room"])) ::
 (nat_lit 93,tE) ::
 (nat_lit 95,q95) ::
 (nat_lit 96,q96) ::
 (nat_lit 97,(tN 298 ["room"])) ::
 (nat_lit 98,(q98 P)) ::
 (nat_lit 99,q99) ::
 (nat_lit 102,tE) ::
 (nat_lit 104,(tN 308 ["thing"])) ::
 (nat_lit 105,tE) ::
 (nat_lit 107,(cO "is_whole" "is_whole" 305 21 1 3 102 309)) ::
 (nat_lit 108,agA) ::
 (nat_lit 109,tE) ::
 (nat_lit 111,afX) ::
 (nat_lit 112,tE) ::
 (nat_lit 114,(cO "divisor" "divisor" 312 23 2 3 109 320)) ::
 (nat_lit 115,aev) ::
 (nat_lit 116,ae1) ::
 (nat_lit 117,aeW) ::
 (nat_lit 118,tE) ::
 (nat_lit 120,(tN 334 ["top", "bottom", "common"])) ::
 (nat_lit 121,tE) ::
 (nat_lit 123,(cO "ratio" "ratio" 331 34 2 3 118 337)) ::
 (nat_lit 124,afU) ::
 (nat_lit 125,tE) ::
 (nat_lit 127,(tN 343 ["thing", "top", "bottom"])) ::
 (nat_lit 128,tE) ::
 (nat_lit 130,(cO "is_ratio" "is_ratio" 340 43 1 3 125 346)) ::
 (nat_lit 131,aeX) ::
 (nat_lit 132,tE) ::
 (nat_lit 134,(tN 352 ["one", "other"])) ::
 (nat_lit 135,tE) ::
 (nat_lit 137,(cO "plus" "plus" 349 51 2 3 132 354)) ::
 (nat_lit 138,agy) ::
 (nat_lit 139,tE) ::
 (nat_lit 141,(tN 360 ["one", "other"])) ::
 (nat_lit 142,tE) ::
 (nat_lit 144,(cO "minus" "minus" 357 53 2 3 139 362)) ::
 (nat_lit 145,ae3) ::
 (nat_lit 146,tE) ::
 (nat_lit 148,(tN 368 ["one", "other"])) ::
 (nat_lit 149,tE) ::
 (nat_lit 151,(cO "over" "over" 365 55 2 3 146 370)) ::
 (nat_lit 152,aga) ::
 (nat_lit 153,tE) ::
 (nat_lit 155,(tN 376 ["one", "other"])) ::
 (nat_lit 156,tE) ::
 (nat_lit 158,(cO "under" "under" 373 57 2 3 153 378)) ::
 (nat_lit 159,afr) ::
 (nat_lit 160,tE) ::
 (nat_lit 163,(cP "level" "level" 383 60 1 3 160 386)) ::
 (nat_lit 164,ae4) ::
 (nat_lit 165,tE) ::
 (nat_lit 167,(tN 392 ["fractions", "leveled"])) ::
 (nat_lit 168,tE) ::
 (nat_lit 170,(cO "total" "total" 389 65 1 3 165 394)) ::
 (nat_lit 171,aeJ) ::
 (nat_lit 172,tE) ::
 (nat_lit 174,(tN 400 ["fractions", "found", "one"])) ::
 (nat_lit 175,tE) ::
 (nat_lit 177,(cO "greatest" "greatest" 397 68 1 3 172 403)) ::
 (nat_lit 178,aep) ::
 (nat_lit 179,tE) ::
 (nat_lit 182,aeS) ::
 (nat_lit 183,afA) ::
 (nat_lit 184,tE) ::
 (nat_lit 186,(tN 419 ["hall", "goals", "marks", "goal"])) ::
 (nat_lit 187,tE) ::
 (nat_lit 189,agr) ::
 (nat_lit 190,agd) ::
 (nat_lit 191,tE) ::
 (nat_lit 193,(tN 433 ["many"])) ::
 (nat_lit 194,tE) ::
 (nat_lit 196,afM) ::
 (nat_lit 197,af5) ::
 (nat_lit 198,tE) ::
 (nat_lit 200,(tN 440 ["raised", "bottom"])) ::
 (nat_lit 201,tE) ::
 (nat_lit 203,(cO "lowered" "lowered" 437 90 2 3 198 442)) ::
 (nat_lit 204,aeZ) ::
 (nat_lit 205,tE) ::
 (nat_lit 208,afx) ::
 (nat_lit 209,afF) ::
 (nat_lit 210,tE) ::
 (nat_lit 212,(tN 454 ["first", "many", "follow", "told"])) ::
 (nat_lit 213,tE) ::
 (nat_lit 215,aeR) ::
 (nat_lit 216,afj) ::
 (nat_lit 217,tE) ::
 (nat_lit 220,agI) ::
 (nat_lit 221,agP) ::
 (nat_lit 222,tE) ::
 (nat_lit 225,(cP "is_word" "is_word" 471 112 1 3 222 474)) ::
 (nat_lit 226,agM) ::
 (nat_lit 227,tE) ::
 (nat_lit 229,(tN 482 ["name", "pay"])) ::
 (nat_lit 230,tE) ::
 (nat_lit 232,afb) ::
 (nat_lit 233,aft) ::
 (nat_lit 234,tE) ::
 (nat_lit 236,(tN 490 ["room"])) ::
 (nat_lit 237,tE) ::
 (nat_lit 239,ae0) ::
 (nat_lit 240,aeU) ::
 (nat_lit 241,tE) ::
 (nat_lit 243,(tN 497 ["chance"])) ::
 (nat_lit 244,tE) ::
 (nat_lit 246,afc) ::
 (nat_lit 247,ad8) ::
 (nat_lit 248,tE) ::
 (nat_lit 251,afk) ::
 (nat_lit 252,afu) ::
 (nat_lit 253,tE) ::
 (nat_lit 256,afd) ::
 (nat_lit 257,af6) ::
 (nat_lit 265,tE) ::
 (nat_lit 267,(tN 528 ["self", "name", "pay"])) ::
 (nat_lit 268,tE) ::
 (nat_lit 270,agC) ::
 (nat_lit 271,agv) ::
 (nat_lit 272,tE) ::
 (nat_lit 274,(tN 537 ["self"])) ::
 (nat_lit 275,tE) ::
 (nat_lit 277,(cO "ways" "Door.ways" 534 147 1 3 272 538)) ::
 (nat_lit 278,afo) ::
 (nat_lit 279,tE) ::
 (nat_lit 281,(tN 544 ["self", "room"])) ::
 (nat_lit 282,tE) ::
 (nat_lit 284,agc) ::
 (nat_lit 285,afa) ::
 (nat_lit 286,(tN 549 ["leads", "name", "pay"])) ::
 (nat_lit 287,(afn P)) ::
 (nat_lit 288,aed) ::
 (nat_lit 289,aeE) ::
 (nat_lit 290,afp) ::
 (nat_lit 293,aeI) ::
 (nat_lit 300,tE) ::
 (nat_lit 302,(tN 575 ["self", "name", "pay", "room"])) ::
 (nat_lit 303,tE) ::
 (nat_lit 305,ae5) ::
 (nat_lit 306,afQ) ::
 (nat_lit 307,(tN 582 ["leads"])) ::
 (nat_lit 308,(af7 P)) ::
 (nat_lit 309,aej) ::
 (nat_lit 312,afG) ::
 (nat_lit 319,tE) ::
 (nat_lit 321,(tN 602 ["self", "name", "pay", "pairs"])) ::
 (nat_lit 322,tE) ::
 (nat_lit 324,afq) ::
 (nat_lit 325,agz) ::
 (nat_lit 326,(tN 609 ["leads"])) ::
 (nat_lit 327,(af9 P)) ::
 (nat_lit 328,agb) ::
 (nat_lit 331,agf) ::
 (nat_lit 338,tE) ::
 (nat_lit 340,afO) ::
 (nat_lit 341,tE) ::
 (nat_lit 343,aen) ::
 (nat_lit 344,aeb) ::
 (nat_lit 345,tE) ::
 (nat_lit 346,(afJ P)) ::
 (nat_lit 347,agq) ::
 (nat_lit 350,agk) ::
 (nat_lit 357,tE) ::
 (nat_lit 360,afN) ::
 (nat_lit 361,aeF) ::
 (nat_lit 362,tE) ::
 (nat_lit 363,(aea P)) ::
 (nat_lit 364,afL) ::
 (nat_lit 367,tE) ::
 (nat_lit 369,(tN 669 ["share"])) ::
 (nat_lit 370,tE) ::
 (nat_lit 372,aes) ::
 (nat_lit 373,aer) ::
 (nat_lit 374,tE) ::
 (nat_lit 376,(tN 676 ["rooms", "numbers", "room", "name"])) ::
 (nat_lit 377,tE) ::
 (nat_lit 379,aeN) ::
 (nat_lit 380,agL) ::
 (nat_lit 381,tE) ::
 (nat_lit 383,aef) ::
 (nat_lit 384,tE) ::
 (nat_lit 386,af3) ::
 (nat_lit 387,ad7) ::
 (nat_lit 388,tE) ::
 (nat_lit 390,agV) ::
 (nat_lit 391,tE) ::
 (nat_lit 393,aez) ::
 (nat_lit 394,aeC) ::
 (nat_lit 402,tE) ::
 (nat_lit 405,aem) ::
 (nat_lit 406,afH) ::
 (nat_lit 407,tE) ::
 (nat_lit 409,(tN 726 ["self"])) ::
 (nat_lit 410,tE) ::
 (nat_lit 412,(cO "size" "Hall.size" 723 210 1 3 407 727)) ::
 (nat_lit 413,aeV) ::
 (nat_lit 414,tE) ::
 (nat_lit 416,(tN 733 ["self"])) ::
 (nat_lit 417,tE) ::
 (nat_lit 419,(cO "names" "Hall.names" 730 213 1 3 414 734)) ::
 (nat_lit 420,agR) ::
 (nat_lit 421,tE) ::
 (nat_lit 423,(tN 740 ["self", "name"])) ::
 (nat_lit 424,tE) ::
 (nat_lit 426,(cO "place" "Hall.place" 737 216 2 3 421 742)) ::
 (nat_lit 427,afI) ::
 (nat_lit 428,tE) ::
 (nat_lit 430,(tN 748 ["self", "room"])) ::
 (nat_lit 431,tE) ::
 (nat_lit 433,afs) ::
 (nat_lit 434,afP) ::
 (nat_lit 435,tE) ::
 (nat_lit 437,(tN 756 ["self", "room", "name"])) ::
 (nat_lit 438,tE) ::
 (nat_lit 440,aeK) ::
 (nat_lit 441,agH) ::
 (nat_lit 442,tE) ::
 (nat_lit 445,aeO) ::
 (nat_lit 446,aex) ::
 (nat_lit 447,(tN 768 ["numbers", "offered", "share"])) ::
 (nat_lit 448,(afe P)) ::
 (nat_lit 449,afZ) ::
 (nat_lit 450,aec) ::
 (nat_lit 451,aeh) ::
 (nat_lit 454,tE) ::
 (nat_lit 456,(tN 784 ["_law_script", "_law_k"])) ::
 (nat_lit 457,tE) ::
 (nat_lit 459,afh) ::
 (nat_lit 460,afy) ::
 (nat_lit 461,tE) ::
 (nat_lit 463,ael) ::
 (nat_lit 464,tE) ::
 (nat_lit 466,aeG) ::
 (nat_lit 467,aeP) ::
 (nat_lit 468,tE) ::
 (nat_lit 470,ae6) ::
 (nat_lit 471,tE) ::
 (nat_lit 473,aeQ) ::
 (nat_lit 474,afm) ::
 (nat_lit 475,tE) ::
 (nat_lit 477,aeM) ::
 (nat_lit 478,tE) ::
 (nat_lit 480,agw) ::
 (nat_lit 481,aei) ::
 (nat_lit 482,tE) ::
 (nat_lit 484,(tN 823 ["_law_found", "_law_number"])) ::
 (nat_lit 485,tE) ::
 (nat_lit 487,agx) ::
 (nat_lit 488,agi) ::
 (nat_lit 489,tE) ::
 (nat_lit 492,afw) ::
 (nat_lit 493,aeB) ::
 (nat_lit 494,tE) ::
 (nat_lit 496,(tN 837 ["_law_one", "_law_other"])) ::
 (nat_lit 497,tE) ::
 (nat_lit 499,aeg) ::
 (nat_lit 500,agS) ::
 (nat_lit 501,tE) ::
 (nat_lit 504,agt) ::
 (nat_lit 505,agW) ::
 (nat_lit 506,tE) ::
 (nat_lit 508,agE) ::
 (nat_lit 509,tE) ::
 (nat_lit 511,aeH) ::
 (nat_lit 512,afY) ::
 (nat_lit 513,tE) ::
 (nat_lit 515,aeL) ::
 (nat_lit 516,tE) ::
 (nat_lit 518,agX) ::
 (nat_lit 519,aey) ::
 (nat_lit 520,tE) ::
 (nat_lit 523,agG) ::
 (nat_lit 524,agQ) ::
 (nat_lit 525,tE) ::
 (nat_lit 528,afV) ::
 (nat_lit 529,afB) ::
 (nat_lit 530,tE) ::
 (nat_lit 533,afK) ::
 (nat_lit 534,af0) ::
 (nat_lit 535,tE) ::
 (nat_lit 538,af2) ::
 (nat_lit 539,aeD) ::
 (nat_lit 547,tE) ::
 (nat_lit 549,agu) ::
 (nat_lit 550,tE) ::
 (nat_lit 552,agF) ::
 (nat_lit 553,aew) ::
 (nat_lit 554,tE) ::
 (nat_lit 556,(tN 919 ["_law_one", "_law_other"])) ::
 (nat_lit 557,tE) ::
 (nat_lit 559,afD) ::
 (nat_lit 560,aek) ::
 (nat_lit 561,tE) ::
 (nat_lit 563,(tN 927 ["_law_cell_here", "_law_xs"])) ::
 (nat_lit 564,tE) ::
 (nat_lit 566,agh) ::
 (nat_lit 567,ae7) ::
 (nat_lit 568,tE) ::
 (nat_lit 571,agD) ::
 (nat_lit 572,aeu) ::
 (nat_lit 573,tE) ::
 (nat_lit 576,afR) ::
 (nat_lit 577,afi) ::
 (nat_lit 578,tE) ::
 (nat_lit 581,agm) ::
 (nat_lit 582,ad9) ::
 (nat_lit 583,tE) ::
 (nat_lit 585,(tN 953 ["_law_hall_here", "_law_goals_here", "_law_many", "e"])) ::
 (nat_lit 586,tE) ::
 (nat_lit 588,(cO "_law_refused" "_law_refused" 950 383 3 3 583 957)) ::
 (nat_lit 589,(fO "_law_refused" "_law_refused" (top 77) (.str "law_chancehall_k52_goal_rounds" 779) 588)) ::
 (nat_lit 590,tE) ::
 (nat_lit 593,(cP "law" "law" 960 391 1 3 590 963)) ::
 (nat_lit 594,(fO "law" "law" (top 78) (.str "law_chancehall_k52_goal_rounds" 779) 593)) ::
 ([] : List (Nat×Obj)))
abbrev asH:List Nat:=[2,3,15,17,18,20,21,22,29,30,31,32,35,42,43,44,47,54,55,56,59,66,67,68,71,78,79,80,83,90,92,93,95,96,97,98,99,102,104,105,107,108,109,111,112,114,115,116,117,118,120,121,123,124,125,127,128,130,131,132,134,135,137,138,139,141,142,144,145,146,148,149,151,152,153,155,156,158,159,160,163,164,165,167,168,170,171,172,174,175,177,178,179,182,183,184,186,187,189,190,191,193,194,196,197,198,200,201,203,204,205,208,209,210,212,213,215,216,217,220,221,222,225,226,227,229,230,232,233,234,236,237,239,240,241,243,244,246,247,248,251,252,253,256,257,265,267,268,270,271,272,274,275,277,278,279,281,282,284,285,286,287,288,289,290,293,300,302,303,305,306,307,308,309,312,319,321,322,324,325,326,327,328,331,338,340,341,343,344,345,346,347,350,357,360,361,362,363,364,367,369,370,372,373,374,376,377,379,380,381,383,384,386,387,388,390,391,393,394,402,405,406,407,409,410,412,413,414,416,417,419,420,421,423,424,426,427,428,430,431,433,434,435,437,438,440,441,442,445,446,447,448,449,450,451,454,456,457,459,460,461,463,464,466,467,468,470,471,473,474,475,477,478,480,481,482,484,485,487,488,489,492,493,494,496,497,499,500,501,504,505,506,508,509,511,512,513,515,516,518,519,520,523,524,525,528,529,530,533,534,535,538,539,547,549,550,552,553,554,556,557,559,560,561,563,564,566,567,568,571,572,573,576,577,578,581,582,583,585,586,588,589,590,593,594]
def KHT (P:Params):Frag:=KH P++[(nat_lit 218,fE)]
abbrev asT:List Nat:=asH++[218]
end
noncomputable def qv:Program:=view p [0,2,3,4,5,6,7,9,10,12,13,14,15,16,17,18,19,21,22,23,25,27,29,30,31,32,33,34,36,37,39,40,41,42,43,44,45,46,47,48,50,51,52,53,54,56,57,58,59,60,61,62,63,64,65,66,67,68,69,70,71,72,73,74,75,76,77,78]
abbrev R:RowW:=PySem.Challenge.rw_chancehall_k52_goal_rounds.row.toRowW
noncomputable def Xt (s:Shared):Bool:=xlAt qv [] s && recOk R.records s
def e:Pos:=⟨391,0,416,149⟩
set_option maxHeartbeats 0
~!wsd:PySem.Challenge.rw_chancehall_k52_goal_rounds.wellSaid=true:=by kernel_rfl
~!asK:∀ P,asT=(KHT P).map (·.1):=fun _=>by kernel_rfl
~!pre (w:World):(fun os=>topGo treeTable p w 11 ann 12 (S0 w os) (topStub p))=fun os=>some (Sa w os,⟨denote treeTable (cE p),cE p,z,B⟩):=by
 rw [Fast.te15667345088766844465,Fast.te14364793385576792824,Fast.te11892475500146522536]; kernel_rfl
~!block (w:World):(fun os=>segRun treeTable p w 11 ann 1 1 (Sa w os) (blockOf (behindTheImports p) (env p) (cE p) z B))=fun os=>some (.next,(Sb w os).abs,cE p,z):=by
 rw [Fast.te14374325043358763698,Fast.te14364793385576792824]; kernel_rfl
~!afv (w:World):(fun os=>segRunT treeTable p w 11 ann 1 30000 (Sb w os) (piecesOf ((behindTheImports p).take 77) (env p) (cE p) z B))=fun os=>some (.next,S1 w os,cE p,e1):=by
 rw [Fast.te10110043849684766642,Fast.te14364793385576792824]; kernel_rfl
~!big (w:World):(fun os=>(segRunT treeTable p w 11 ann 1 50000 (S1 w os) (piecesOf ((behindTheImports p).drop 77) (env p) (cE p) e1 B)).map fun r =>
  (r.1,r.2.2.1,r.2.2.2,(topRun treeTable p w 11 ann 2 r.2.1.abs ⟨doneF .next,cE p,e,B⟩).map fun s =>
   (staticsOk (importedModules p.main.body) (boot_heap w.params) s.heap && namesBound p s.heap && gensDone s && laidKept (boot_heap w.params) s.heap,openSeen qv [] (importedModules p.main.body) Xt true s,asT.map s.heap.get?))) =
  fun _=>some (.next,cE p,e,some (true,openGood qv [],(KHT w.params).map fun p=>some p.2)):=by
 rw [Fast.te10110043849684766642,Fast.te14364793385576792824,Fast.te14082659384304107361,Fast.te4187177175401517315,Fast.te5923862056798008813]; kernel_rfl
~!left:LeftO p qv [] Xt (fun s=>asT.map s.heap.get?) (fun w=>(KHT w.params).map fun p=>some p.2) 200000 :=
 Vf (boot_open rfl rfl fun _=>rfl) pre block (fun w os=>oG.cutAt (congrFun (afv w) os) (oG.last (congrFun (big w) os))) rfl
~!hX (s:Shared) (h:Xt s=true):XL qv [] (s.heap.nsMap mainGlobals) s.heap:=xl_of s (Bool.and_eq_true_iff.mp h).1
~!hR (s:Shared) (h:Xt s=true):RecFacts R.records s.heap:=recFacts_of (Bool.and_eq_true_iff.mp h).2
end H52
namespace L2
open PySem PySem.Spec PyProof.Rows
abbrev Key:=Sum Int Str
def yH:Key->Value->Bool
 | .inl k,v=>Value.isInt k v
 | .inr x,v=>Value.isStrOf x v
def ahw (w:World):Key->Int
 | .inl k=>hashInt k
 | .inr x=>hashStr w x
~!gq:∀ {k:Key}{v:Value},yH k v=true->(∃ i t,k=Sum.inl i/\v=Value.int i t)\/(∃ x t,k=Sum.inr x/\v=Value.str x t)
 | .inl i,v,h=>by
  x5⟨t,e⟩:=Value.isInt_shape (k:=i) (v:=v) h
  qV .inl ⟨i,t,rfl,e⟩
 | .inr x,v,h=>by
  x5⟨t,e⟩:=Value.isStrOf_shape (x:=x) (v:=v) h
  qV .inr ⟨x,t,rfl,e⟩
~!U9 (i:Int) (t:Tok):yH (.inl i) (.int i t)=true:=by simp [yH,Value.isInt]
~!Vj (x:Str) (t:Tok):yH (.inr x) (.str x t)=true:=by simp [yH,Value.isStrOf]
~!ac0 (a b:Int):decide ((Sum.inl a:Key)=Sum.inl b)=(a == b):=by
 by_cases e:a=b
 .subst e; simp
 .have h:¬ (Sum.inl a:Key)=Sum.inl b:=fun q=>e (Sum.inl.inj q)
  rw [decide_eq_false h]
  qV(beq_eq_false_iff_ne.mpr e).symm
~!adq (a b:Str):decide ((Sum.inr a:Key)=Sum.inr b)=decide (a=b):=by
 by_cases e:a=b
 .subst e; simp
 .have h:¬ (Sum.inr a:Key)=Sum.inr b:=fun q=>e (Sum.inr.inj q)
  rw [decide_eq_false h,decide_eq_false e]
~!adw (a:Int) (b:Str):decide ((Sum.inl a:Key)=Sum.inr b)=false:=decide_eq_false (fun q=>nomatch q)
~!adO (a:Str) (b:Int):decide ((Sum.inr a:Key)=Sum.inl b)=false:=decide_eq_false (fun q=>nomatch q)
def kj (prog:Program) (w:World):PySem.KeyKind prog w Key where
 is:=yH
 hash:=ahw w
 inj:=fun v a b ha hb=>by
  rcases gq ha with ⟨i,t,rfl,rfl⟩ | ⟨x,t,rfl,rfl⟩
  .rcases gq hb with ⟨j,u,rfl,e⟩ | ⟨y,u,rfl,e⟩
   .injection e with e1 _; rw [e1]
   .exact nomatch e
  .rcases gq hb with ⟨j,u,rfl,e⟩ | ⟨y,u,rfl,e⟩
   .exact nomatch e
   .injection e with e1 _; rw [e1]
 byValue:=fun k v h=>by
  rcases gq h with ⟨i,t,rfl,rfl⟩ | ⟨x,t,rfl,rfl⟩ <;> rfl
 pyHash:=fun hv h=>by
  rcases gq hv with ⟨i,t,rfl,rfl⟩ | ⟨x,t,rfl,rfl⟩
  .exact wpAny_pyHash_int h
  .exact wpAny_pyHash_str h
 eqBool:=fun hu hv h=>by
  rcases gq hu with ⟨i,t,rfl,rfl⟩ | ⟨x,t,rfl,rfl⟩
  .rcases gq hv with ⟨j,u,rfl,rfl⟩ | ⟨y,u,rfl,rfl⟩
   .rw [ac0] at h; qV wpAny_eqBool_int h
   .rw [adw] at h; qV SeqAt.EqAt.int_str i t y u _ _ _ _ h
  .rcases gq hv with ⟨j,u,rfl,rfl⟩ | ⟨y,u,rfl,rfl⟩
   .rw [adO] at h; qV SeqAt.EqAt.str_int x t j u _ _ _ _ h
   .rw [adq] at h; qV wpAny_eqBool_str h
 «strs»:=fun k x t v h=>by
  rcases gq h with ⟨i,u,rfl,e⟩ | ⟨y,u,rfl,e⟩
  .exact nomatch e
  .injection e with e1 _
   subst e1
   cases v <;> rfl
~!Ow (prog:Program) (w:World) (i:Int) (t:Tok):(kj prog w).is (.inl i) (.int i t)=true:=U9 i t
~!Oe (prog:Program) (w:World) (x:Str) (t:Tok):(kj prog w).is (.inr x) (.str x t)=true:=Vj x t
inductive V where
 | non | bl (b:Bool) | int (i:Int) | str (x:Str) | byt (b:Array UInt8) | flt (b:UInt64) | ref (a:Addr) | ty (n:String)
 deriving DecidableEq
def RelV:V->Value->Prop
 | .non,u=>u=Value.none
 | .bl b,u=>u=Value.bool b
 | .int i,u=>∃ t,u=Value.int i t
 | .str x,u=>∃ t,u=Value.str x t
 | .byt b,u=>∃ t,u=Value.bytes b t
 | .flt b,u=>∃ t,u=Value.float b t
 | .ref a,u=>u=Value.ref a
 | .ty n,u=>u=Value.type n
abbrev Vals:List V->List Value->Prop:=Paired RelV
~!Vals.length {xs:List V}{us:List Value} (r:Vals xs us):xs.length=us.length:=Paired.length r
~!Vals.get:∀ {xs:List V}{us:List Value}{i:Nat}{x:V},Vals xs us->xs[i]?=some x->∃ u,us[i]?=some u/\RelV x u
 | _,_,_,_,.nil,e=>by simp at e
 | _,_,0,_,.cons r _,e=>by simp at e; subst e; qV⟨_,rfl,r⟩
 | _,_,i+1,x,.cons _ t,e=>by
  x5⟨u,h1,h2⟩:=Vals.get (i:=i) (x:=x) t (by simpa using e)
  qV⟨u,by simpa using h1,h2⟩
~!Vals.set {x:V}{u:Value} (r:RelV x u):∀ {xs:List V}{us:List Value} (i:Nat),Vals xs us->Vals (xs.set i x) (us.set i u)
 | _,_,_,.nil=>.nil
 | _,_,0,.cons _ t=>.cons r t
 | _,_,i+1,.cons q t=>.cons q (Vals.set r i t)
~!Vals.append:∀ {xs ys:List V}{us ws:List Value},Vals xs us->Vals ys ws->Vals (xs++ys) (us++ws)
 | _,_,_,_,.nil,s=>s
 | _,_,_,_,.cons r t,s=>.cons r (Vals.append t s)
~!Vals.take:∀ {xs:List V}{us:List Value} (n:Nat),Vals xs us->Vals (xs.take n) (us.take n)
 | _,_,0,_=>.nil
 | _,_,_+1,.nil=>.nil
 | _,_,n+1,.cons r t=>.cons r (Vals.take n t)
~!Vals.drop:∀ {xs:List V}{us:List Value} (n:Nat),Vals xs us->Vals (xs.drop n) (us.drop n)
 | _,_,0,r=>r
 | _,_,_+1,.nil=>.nil
 | _,_,n+1,.cons _ t=>Vals.drop n t
def uh:Option V->Option Value->Prop
 | some v,some u=>RelV v u
 | none,none=>True
 | _,_=>False
def KV {κ:Type} : List (κ×V)->List (κ×Value)->Prop:=Paired fun (p:κ×V) (q:κ×Value)=>p.1=q.1/\RelV p.2 q.2
def kV:Key->V
 | .inl i=>.int i
 | .inr x=>.str x
inductive HO where
  | lst (xs:List V)
  | tup (xs:List V)
  | dK (kvs:List (Key×V))
  | set (S:Int->Bool) (n:Nat)
  | ins (C dx:Addr) (fs:List (Str×V))
  | own (x:Addr)
  | xd (fs:List (Str×V))
  | met (f x:Addr)
  | rng (lo hi:Int)
  | frz (o:Obj) (u:HO)
  | tbl (ps:Array Value)
  | ext (φ:Heap->Prop)
abbrev Hp:=Addr->Option HO
def upd (H:Hp) (a:Addr) (o:HO):Hp:=fun b=>if b=a then some o else H b
~!bK {H:Hp}{a:Addr}{o:HO} : upd H a o a=some o:=by unfold upd; rw [if_pos rfl]
~!bM {H:Hp}{a b:Addr}{o:HO} (h:b≠a):upd H a o b=H b:=by unfold upd; rw [if_neg h]
~!wg {H:Hp}{a:Addr}{o u:HO} : upd (upd H a o) a u=upd H a u:=by
 funext b; unfold upd; split <;> rfl
~!fM {H:Hp}{a b:Addr}{o u:HO} (h:H a=some o) (h':H b=some u) (d:o≠u):a≠b:=by
 intro e; subst e; rw [h] at h'; qV d (Option.some.inj h')
~!bL {H:Hp}{a b:Addr}{o:HO} (h:H a=some o) (h':H b=none):a≠b:=by
 intro e; subst e; rw [h] at h'; cases h'
section
variable (P:Program) (w:World)
def dU (H:Hp) (h:Heap) (a:Addr):HO->Prop
 | .lst xs=>xs.length <= sizeLine/\∃ (its:List Value) (n:Nat),Vals xs its/\h.get? a=some { cls:=.type "list",data:=.seq its.toArray n }
 | .tup xs=>xs.length <= sizeLine/\∃ its:List Value,Vals xs its/\IsTup h a its.toArray
 | .dK kvs=>kvs.length <= sizeLine/\(a == sysModules)=false/\∃ vs,KV kvs vs/\h.DictOf (kj P w) a vs
 | .set S n=>h.SetOf (intKind P w) a S n
 | .ins C dx fs=>H dx=some (.own a)/\fs.length <= 1000/\dx≠a/\h.get? a=some (PySem.W.instObj C dx) /\
   ∃ mA,h.Ns1 dx mA/\(∀ f,uh (fs.lookup f) (mA f))/\PySem.Within mA (fs.map (·.1))
 | .own _=>∃ o,h.get? a=some o
 | .xd fs=>∃ mA,h.Ns1 a mA/\∀ f,uh (fs.lookup f) (mA f)
 | .rng lo hi=>∃ t u v,h.get? a=some { cls:=.type "range",data:=.fields #[.int lo t,.int hi u,.int 1 v] }
 | .frz o u=>h.get? a=some o/\dU H h a u
 | .tbl ps=>h.get? a=some { cls:=.none,data:=.fields ps }
 | .met f x=>h.get? a=some (PySem.W.methodObj (.ref f) (.ref x))
 | .ext φ=>φ h/\(∃ o,h.get? a=some o)/\∀ h1 h2:Heap,φ h1->(∀ o,h1.get? a=some o->h2.get? a=some o)->φ h2
def HOk (H:Hp) (h:Heap):Prop:=∀ a o,H a=some o->dU P w H h a o
end
section
variable {P:Program}{w:World}{H H':Hp}{h h':Heap}{a:Addr}{o:HO}
~!dU.lt (x:dU P w H h a o):a<h.objs.size:=by
 cases o with
 | lst xs=>x5⟨_,_,_,_,e⟩:=x; qV aK e
 | tup xs=>x5⟨_,_,_,p⟩:=x; qV p.lt
 | dK kvs=>x5⟨_,_,_,_,o,_,_,e,_⟩:=x; qV aK e
 | set S n=>x5⟨o,_,_,_,e,_⟩:=x; qV aK e
 | ins C dx fs=>x5⟨_,_,_,e,_⟩:=x; qV aK e
 | own y=>x5⟨_,e⟩:=x; qV aK e
 | xd fs=>x5⟨_,⟨_,_,_,e,_⟩,_⟩:=x; qV aK e
 | rng lo hi=>x5⟨_,_,_,e⟩:=x; qV aK e
 | frz ob u=>x5⟨e,_⟩:=x; qV aK e
 | tbl ps=>qV aK (show h.get? a=some _ from x)
 | met f y=>qV aK (show h.get? a=some _ from x)
 | ext φ=>x5⟨_,⟨_,e⟩,_⟩:=x; qV aK e
~!dU.stay (x:dU P w H h a o) (k:∀ b u,(b=a\/H b=some (.own a))->h.get? b=some u->h'.get? b=some u)
  (ho:∀ b,H b=some (.own a)->H' b=some (.own a)) (ht:∀ b xs,H b=some (.tup xs)->H' b=some (.tup xs)):dU P w H' h' a o:=by
 induction o with
 | lst xs=>x5⟨z,its,n,r,e⟩:=x; qV⟨z,its,n,r,k _ _ (.inl rfl) e⟩
 | tup xs=>x5⟨z,its,r,ob,e,c⟩:=x; qV⟨z,its,r,ob,k _ _ (.inl rfl) e,c⟩
 | dK kvs=>x5⟨z,y,vs,r,ob,es,ep,e,c⟩:=x; qV⟨z,y,vs,r,ob,es,ep,k _ _ (.inl rfl) e,c⟩
 | set S n=>x5⟨ob,es,ep,t,e,c⟩:=x; qV⟨ob,es,ep,t,k _ _ (.inl rfl) e,c⟩
 | ins C dx fs =>
  x5⟨d,z,ne,e,mA,⟨od,es,ep,e2,c⟩,r⟩:=x
  qV⟨ho _ d,z,ne,k _ _ (.inl rfl) e,mA,⟨od,es,ep,k _ _ (.inr d) e2,c⟩,r⟩
 | own y=>x5⟨ob,e⟩:=x; qV⟨ob,k _ _ (.inl rfl) e⟩
 | xd fs=>x5⟨mA,⟨od,es,ep,e,c⟩,r⟩:=x; qV⟨mA,⟨od,es,ep,k _ _ (.inl rfl) e,c⟩,r⟩
 | rng lo hi=>x5⟨t,u,v,e⟩:=x; qV⟨t,u,v,k _ _ (.inl rfl) e⟩
 | frz ob u ih=>x5⟨e,q⟩:=x; qV⟨k _ _ (.inl rfl) e,ih q⟩
 | tbl ps =>
  have e:h.get? a=some { cls:=.none,data:=.fields ps }:=x
  show h'.get? a=some { cls:=.none,data:=.fields ps }
  qV k a _ (.inl rfl) e
 | met f y =>
  have e:h.get? a=some (PySem.W.methodObj (.ref f) (.ref y)):=x
  show h'.get? a=some (PySem.W.methodObj (.ref f) (.ref y))
  qV k a _ (.inl rfl) e
 | ext φ=>x5⟨p,⟨o,e⟩,st⟩:=x; qV⟨st _ _ p fun o q=>k _ _ (.inl rfl) q,⟨o,k _ _ (.inl rfl) e⟩,st⟩
~!HOk.lt (x:HOk P w H h) (e:H a=some o):a<h.objs.size:=(x a o e).lt
~!HOk.fresh (x:HOk P w H h) (e:h.objs.size <= a):H a=none:=by
 cases q:H a with
 | none=>rfl
 | some u=>qV absurd (aW (x.lt q) e) (Nat.lt_irrefl _)
~!HOk.kept (x:HOk P w H h) (k:∀ b u,h.get? b=some u->h'.get? b=some u):HOk P w H h':=fun a o e =>
 (x a o e).stay (fun b u _ q=>k b u q) (fun _ q=>q) fun _ _ q=>q
~!HOk.laid (x:HOk P w H h) (k:∀ b u,h.get? b=some u->h'.get? b=some u) (hp:h.objs.size <= a) (new:dU P w (upd H a o) h' a o):HOk P w (upd H a o) h':=fun b u e=>by
 have hn:=x.fresh hp
 by_cases hb:b=a
 .subst hb; rw [bK] at e; cases e; qV new
 .rw [bM hb] at e
  qV(x b u e).stay (fun c v _ q=>k c v q) (fun c q=>by rw [bM (bL q hn)]; qV q) fun c xs q=>by rw [bM (bL q hn)]; qV q
end
def Rd (H:Hp) (a:Addr) (u:HO):Prop:=H a=some u\/∃ o,H a=some (.frz o u)
~!Rd.ok {P:Program}{w:World}{H:Hp}{h:Heap}{a:Addr}{u:HO} (r:Rd H a u) (x:HOk P w H h):dU P w H h a u:=by
 rcases r with r | ⟨o,r⟩
 .exact x a u r
 .obtain ⟨_,q⟩:=x a _ r
  qV q
def Mut:Option HO->Prop
 | some (.lst _)=>True
 | some (.dK _)=>True
 | some (.set _ _)=>True
 | some (.ins _ _ _)=>True
 | some (.ext _)=>True
 | _=>False
section
variable {P:Program}{w:World}{H:Hp}{h h':Heap}{x e:Addr}{o':HO}
~!HOk.write (ok:HOk P w H h) (mu:Mut (H x)) (he:e=x\/H e=some (.own x)) (k:∀ b u,b≠e->h.get? b=some u->h'.get? b=some u) (heo:∃ u,h'.get? e=some u)
  (new:dU P w (upd H x o') h' x o'):HOk P w (upd H x o') h':=fun b u q=>by
 have nown:∀ c y,H c=some (.own y)->c≠x:=fun c y r z=>by subst z; rw [r] at mu; qV mu
 have ntup:∀ c xs,H c=some (.tup xs)->c≠x:=fun c xs r z=>by subst z; rw [r] at mu; qV mu
 by_cases hb:b=x
 .subst hb; rw [bK] at q; cases q; qV new
 .rw [bM hb] at q
  by_cases hbe:b=e
  .have q':H b=some (.own x):=by
    rcases he with z | z
    .exact absurd (hbe.trans z) hb
    .rw [hbe]; qV z
   rw [q] at q'; cases q'
   x5⟨v,hv⟩:=heo
   qV⟨v,by rw [hbe]; qV hv⟩
  .refine (ok b u q).stay (fun c v hc r=>k c v ?_ r) (fun c r=>by rw [bM (nown c b r)]; qV r) fun c xs r=>by rw [bM (ntup c xs r)]; qV r
   rcases hc with rfl | hc
   .exact hbe
   .rintro rfl
    rcases he with z | z
    .exact nown c b hc z
    .rw [hc] at z; cases z; qV hb rfl
end
structure Un (fs ex:List Addr) (H H':Hp) (h h':Heap):Prop where
 keep:∀ b o,h.get? b=some o->H b=none->b ∉ fs->b ∉ ex->h'.get? b=some o
 slot:∀ b o,h.get? b=some o->H b=none->b∈fs->b ∉ ex->∃ sl,h'.get? b=some { o with slots:=sl }
 free:∀ b o,h.get? b=some o->H b=none->b ∉ ex->H' b=none
 there:∀ b o,h.get? b=some o->b ∉ ex->∃ o',h'.get? b=some o'
 tups:∀ b xs,H b=some (.tup xs)->H' b=some (.tup xs)
 frzs:∀ b o u,H b=some (.frz o u)->H' b=some (.frz o u)
 tbls:∀ b ps,H b=some (.tbl ps)->∃ more,H' b=some (.tbl (ps++more))
section
variable {fs fs' ex ex':List Addr}{H H1 H2:Hp}{h h1 h2 h':Heap}{a x e:Addr}{o:HO}
~!Un.any (u:Un fs ex H H1 h h1) {b:Addr}{ob:Obj} (q:h.get? b=some ob) (n:H b=none) (hx:b ∉ ex):∃ sl,h1.get? b=some { ob with slots:=sl }:=by
 by_cases hb:b∈fs
 .exact u.slot b ob q n hb hx
 .exact ⟨ob.slots,u.keep b ob q n hb hx⟩
~!Un.kept (k:∀ b u,h.get? b=some u->h'.get? b=some u):Un fs ex H H h h' :=
 ⟨fun b ob q _ _ _=>k b ob q,fun b ob q _ _ _=>⟨ob.slots,k b ob q⟩,fun _ _ _ n _=>n,fun b ob q _=>⟨ob,k b ob q⟩,fun _ _ q=>q,fun _ _ _ q=>q,fun _ ps q=>⟨#[],by rw [q]; simp⟩⟩
~!Un.refl:Un fs ex H H h h:=Un.kept fun _ _ q=>q
~!Un.laid (k:∀ b u,h.get? b=some u->h'.get? b=some u) (hp:h.objs.size <= a) (hn:H a=none):Un fs ex H (upd H a o) h h' where
 keep:=fun b u q _ _ _=>k b u q
 slot:=fun b u q _ _ _=>⟨u.slots,k b u q⟩
 free:=fun b u q n _=>by rw [bM (aV (aW (aK q) hp))]; qV n
 there:=fun b u q _=>⟨u,k b u q⟩
 tups:=fun b xs q=>by rw [bM (bL q hn)]; qV q
 frzs:=fun b u xs q=>by rw [bM (bL q hn)]; qV q
 tbls:=fun b ps q=>⟨#[],by rw [bM (bL q hn),q]; simp⟩
~!Un.write (mu:Mut (H x)) (he:e=x\/H e=some (.own x)) (k:∀ b u,b≠e->h.get? b=some u->h'.get? b=some u) (heo:∃ u,h'.get? e=some u):Un fs ex H (upd H x o) h h':=by
 have hx:∀ b,H b=none->b≠x:=fun b n z=>by subst z; rw [n] at mu; qV mu
 have hb:∀ b,H b=none->b≠e:=fun b n z=>by
  subst z
  rcases he with r | r
  .exact hx b n r
  .rw [n] at r; cases r
 have hm:∀ b u,H b=some u->¬ Mut (some u)->b≠x:=fun b u q nm z=>by subst z; rw [q] at mu; qV nm mu
 z5⟨fun b u q n _ _=>k b u (hb b n) q,fun b u q n _ _=>⟨u.slots,k b u (hb b n) q⟩,fun b u q n _=>by rw [bM (hx b n)]; qV n,fun b u q _=>?_,
  fun b xs q=>by rw [bM (hm b _ q fun z=>z)]; qV q,fun b u xs q=>by rw [bM (hm b _ q fun z=>z)]; qV q,fun b ps q=>⟨#[],by rw [bM (hm b _ q fun z=>z),q]; simp⟩⟩
 by_cases hbe:b=e
 .subst hbe; qV heo
 .exact ⟨u,k b u hbe q⟩
end
def trk (h:Heap) (H:Hp):List Addr:=(List.range h.objs.size).filter fun a=>(H a).isSome
def xJ (h:Heap) (H:Hp):Heap:=PySem.W.hideAll h (trk h H)
~!I8 (h:Heap) (H:Hp):(xJ h H).objs.size=h.objs.size:=PySem.W.hideAll_size _ _
~!Mv {h:Heap}{H:Hp}{b:Addr}{o:Obj} (e:h.get? b=some o) (n:H b=none):(xJ h H).get? b=some o :=
 PySem.W.hideAll_get _ e fun hm=>by
  have q:(H b).isSome=true:=(List.mem_filter.mp hm).2
  rw [n] at q; simp at q
~!Ua {h:Heap}{H:Hp}{b:Addr}{o:Obj} (e:(xJ h H).get? b=some o):h.get? b=some o/\H b=none:=by
 have e':h.get? b=some o:=PySem.W.of_hideAll (trk h H) e
 z5⟨e',?_⟩
 cases q:H b with
 | none=>rfl
 | some x =>
  have hm:b∈trk h H:=List.mem_filter.mpr ⟨List.mem_range.mpr (aK e'),by simp [q]⟩
  have z:(xJ h H).get? b=none:=PySem.W.hideAll_none (trk h H) hm
  rw [z] at e; cases e
def ab5 (g h:Heap) (L:Addr):List (Addr×Obj):=(List.range h.objs.size).filterMap fun a=>if a=L\/(g.get? a).isSome=true then none else (h.get? a).map fun o=>(a,o)
def rest (g h:Heap) (L d:Addr):List (Addr×Obj):=(ab5 g h L).filter fun p=>decide (p.1≠d)
structure Mod (K:Frag) (mg:Str->Option Value) (base:Heap):Prop where
 kin:K.In base
 glob:base.Ns mainGlobals mg
 blt:∃ mb,base.Ns builtinsNs mb/\∀ x:Str,x ≠ "__name__" -> mb x=bootBuiltins x
 nolimit:base.NoLimit
structure Cx where
 prog:Program
 w:World
 K:Frag
 mg:Str->Option Value
 base:Heap
 A:Around
 N:List Str
 s₀:Shared
 H₀:Hp
 env:Env
 outer:List Env
 stack:List Env
 ex:List Addr
 fn:Str->Bool
 calm:Bool
 pn:List (Addr×Obj)
 xe:Value->Shared->Prop
def frs (l:List Env):List Addr:=l.filterMap (·.frame)
abbrev Cx.fs (X:Cx):List Addr:=frs X.outer
def Vis (sc:Scope) (x:Str):Prop:=sc.names.lookup x=some .local\/sc.names.lookup x=some .cell\/sc.names.lookup x=some .free
def Loc (sc:Scope) (x:Str):Prop:=sc.names.lookup x=some .local\/sc.names.lookup x=some .cell
def Look (env:Env) (h:Heap) (m:Str->Option Value) (x:Str) (u:Value):Prop :=
 (env.kindOf x=some .local/\m x=some u)\/((env.kindOf x=some .cell\/env.kindOf x=some .free)/\∃ c,env.cells.lookup x=some c/\h.IsCell c (some u))
structure Cx.Ok (X:Cx):Prop where
 mod:Mod X.K X.mg X.base
 kind:X.env.scope.kind=.function
 glob:X.env.globals=mainGlobals
 blt:X.env.builtins=builtinsNs
 above:X.s₀.heap.objs.size <= X.env.locals
 inj:∀ x y c,X.env.cells.lookup x=some c->X.env.cells.lookup y=some c->x=y
 has:∀ x,(X.env.kindOf x=some .cell\/X.env.kindOf x=some .free)->∃ c,X.env.cells.lookup x=some c
 cab:∀ x c,X.fn x=true->X.env.cells.lookup x=some c->X.s₀.heap.objs.size <= c
 hd:X.calm=true->X.A.handled=none
 frames:X.A.frames=some X.stack
 stk:X.stack=X.outer\/(X.stack=X.env::X.outer/\X.env.frame=some X.env.locals)
 exf:∀ b∈X.ex,b≠X.env.locals/\∀ x c,X.env.cells.lookup x=some c->c≠b
 bs:∀ b o,X.base.get? b=some o->X.s₀.heap.get? b=some o/\X.H₀ b=none
 bsz:X.base.objs.size <= X.s₀.heap.objs.size
 noex:∀ b o,X.base.get? b=some o->b ∉ X.ex
 exfs:∀ b∈X.ex,b ∉ X.fs
 funs:X.s₀.heap.FunFrames X.base X.outer
 frf:∀ b∈X.fs,X.H₀ b=none
structure Inv (X:Cx) (pins:List (Addr×Obj)) (σ:List (Option V)) (H:Hp) (s:Shared):Prop where
 ok:X.Ok
 os:s.os=X.s₀.os
 bare:AllBare s.gens
 base:Un X.fs X.ex X.H₀ H X.s₀.heap s.heap
 loc:∃ m,s.heap.Ns X.env.locals m/\∀ (i:Nat) (x:Str) (v:V),X.N[i]?=some x->σ[i]?=some (some v)->Vis X.env.scope x->∃ u,RelV v u/\Look X.env s.heap m x u
 cell:∀ x c,X.env.cells.lookup x=some c->∃ v,s.heap.IsCell c v
 free:H X.env.locals=none
 freeC:∀ x c,X.env.cells.lookup x=some c->H c=none
 pin:∀ p∈X.pn++pins,s.heap.get? p.1=some p.2/\H p.1=none/\p.1≠X.env.locals/\p.1 ∉ X.fs/\∀ v,p.2.data≠.cell v
 hok:HOk X.prog X.w H s.heap
 len:σ.length=X.N.length
section
variable {X:Cx}{pins:List (Addr×Obj)}{σ:List (Option V)}{H H':Hp}{s:Shared}{h':Heap}
~!Cx.Ok.nofr (ok:X.Ok) {b:Addr}{o:Obj} (e:X.base.get? b=some o):b ∉ X.fs:=fun hb=>by
 have:=(ok.funs.mem hb).1
 rw [e] at this; cases this
~!Inv.bs (I:Inv X pins σ H s):∀ b o,X.base.get? b=some o->s.heap.get? b=some o/\H b=none:=fun b o e =>
 ⟨I.base.keep b o (I.ok.bs b o e).1 (I.ok.bs b o e).2 (I.ok.nofr e) (I.ok.noex b o e),I.base.free b o (I.ok.bs b o e).1 (I.ok.bs b o e).2 (I.ok.noex b o e)⟩
~!Inv.bk (I:Inv X pins σ H s):∀ b o,X.base.get? b=some o->s.heap.get? b=some o:=fun b o e=>(I.bs b o e).1
~!Inv.mod (I:Inv X pins σ H s):Mod X.K X.mg X.base:=I.ok.mod
~!Inv.kIn (I:Inv X pins σ H s):X.K.In s.heap:=I.ok.mod.kin.keeps I.bk
~!Inv.fr (I:Inv X pins σ H s):∃ m,Fr X.base X.env.locals s.heap m :=
 let ⟨m,hn,_⟩:=I.loc
 ⟨m,hn,I.bk,aN I.ok.bsz I.ok.above⟩
~!Inv.lt (I:Inv X pins σ H s):X.env.locals<s.heap.objs.size:=by x5⟨_,hn,_⟩:=I.loc; qV hn.lt
~!Inv.sz (I:Inv X pins σ H s):X.s₀.heap.objs.size <= s.heap.objs.size:=aN I.ok.above (Nat.le_of_lt I.lt)
~!Inv.nofs (I:Inv X pins σ H s) {a:Addr} (h:s.heap.objs.size <= a):a ∉ X.fs:=fun hb=>by
 x5⟨_,o,ho,_⟩:=I.ok.funs.mem hb
 qV absurd (aW (aK ho) (aN I.sz h)) (Nat.lt_irrefl _)
~!Inv.cne (I:Inv X pins σ H s):∀ x c,X.env.cells.lookup x=some c->c≠X.env.locals:=fun x c e z=>by
 x5⟨v,o,ho,hd⟩:=I.cell x c e
 x5⟨m,⟨o',es,ep,ho',hd',_⟩,_⟩:=I.loc
 rw [z,ho'] at ho; cases ho; rw [hd'] at hd; cases hd
~!Inv.funs (I:Inv X pins σ H s):s.heap.FunFrames X.base X.outer:=by
 have all:∀ (l:List Env),(∀ b∈frs l,b∈X.fs)->X.s₀.heap.FunFrames X.base l->s.heap.FunFrames X.base l:=by
  intro l
  induction l with
  | nil=>intro _ _; trivial
  | cons env r ih =>
   intro hs hl
   x5⟨hk,⟨L,o,hf,hn,ho,hd⟩,hr⟩:=hl
   have hL:L∈X.fs:=hs L (by unfold frs; rw [List.filterMap_cons,hf]; qV aQ)
   x5⟨sl,e⟩:=I.base.slot L o ho (I.ok.frf L hL) hL fun z=>I.ok.exfs L z hL
   qV⟨hk,⟨L,_,hf,hn,e,hd⟩,ih (fun b hb=>hs b (by unfold frs; rw [List.filterMap_cons,hf]; qV aJ _ hb)) hr⟩
 qV all X.outer (fun _ hb=>hb) I.ok.funs
~!Inv.stack (I:Inv X pins σ H s):s.heap.FunFrames X.base X.stack:=by
 rcases I.ok.stk with e | ⟨e,hf⟩
 .rw [e]; qV I.funs
 .rw [e]
  x5⟨m,hn,_⟩:=I.loc
  z5 .cons (by rw [I.ok.kind]; decide) hf hn ?_ I.funs
  qV Heap.get?_none_of_le (aN I.ok.bsz I.ok.above)
~!Inv.stkSub (I:Inv X pins σ H s):∀ b∈frs X.stack,b∈X.env.locals::X.fs:=fun b hb=>by
 rcases I.ok.stk with e | ⟨e,hf⟩
 .rw [e] at hb; qV aJ _ hb
 .rw [e] at hb
  unfold frs at hb
  rw [List.filterMap_cons,hf] at hb
  qV hb
~!Inv.stkFree (I:Inv X pins σ H s):∀ b∈frs X.stack,H b=none:=fun b hb=>by
 rcases List.mem_cons.mp (I.stkSub b hb) with e | hb
 .rw [e]; qV I.free
 .obtain ⟨_,o,ho,_⟩:=I.ok.funs.mem hb
  qV I.base.free b o ho (I.ok.frf b hb) fun z=>I.ok.exfs b z hb
~!Inv.step {g':Array GenState}{t':Nat}{d':Drawn}{ch:List Addr} (I:Inv X pins σ H s)
  (hch:∀ b∈ch,(b∈X.ex\/X.s₀.heap.objs.size <= b)/\b≠X.env.locals/\(∀ x c,X.env.cells.lookup x=some c->c≠b)/\∀ p∈X.pn++pins,p.1≠b)
  (keep:∀ b o,b≠X.env.locals->b ∉ X.fs->b ∉ ch->s.heap.get? b=some o->H b=none->h'.get? b=some o)
  (slot:∀ b o,b≠X.env.locals->b∈X.fs->b ∉ ch->s.heap.get? b=some o->H b=none->∃ sl,h'.get? b=some { o with slots:=sl }) (free:∀ b o,b ∉ ch->s.heap.get? b=some o->H b=none->H' b=none)
  (there:∀ b o,b ∉ ch->s.heap.get? b=some o->∃ o',h'.get? b=some o')
  (tups:∀ b xs,H b=some (.tup xs)->H' b=some (.tup xs)) (frzs:∀ b o u,H b=some (.frz o u)->H' b=some (.frz o u)) (tbls:∀ b ps,H b=some (.tbl ps)->∃ more,H' b=some (.tbl (ps++more)))
  (ns:∀ m,s.heap.Ns X.env.locals m->h'.Ns X.env.locals m) (hok:HOk X.prog X.w H' h') (hg:AllBare g') :
  Inv X pins σ H' { s with heap:=h',gens:=g',drawn:=d',toks:=t' }:=by
 have neL:∀ b o,X.s₀.heap.get? b=some o->b≠X.env.locals:=fun b o e=>aV (aW (aK e) I.ok.above)
 have neC:∀ b o,X.s₀.heap.get? b=some o->b ∉ X.ex->b ∉ ch:=fun b o e hx hb=>by
  rcases (hch b hb).1 with z | z
  .exact hx z
  .exact absurd (aW (aK e) z) (Nat.lt_irrefl _)
 have cellK:∀ x c,X.env.cells.lookup x=some c->∀ v,s.heap.IsCell c v->h'.IsCell c v:=fun x c e v ⟨o,ho,hd⟩=>by
  have nch:c ∉ ch:=fun z=>(hch c z).2.2.1 x c e rfl
  by_cases hc:c∈X.fs
  .obtain ⟨sl,q⟩:=slot c o (I.cne x c e) hc nch ho (I.freeC x c e)
   qV⟨_,q,hd⟩
  .exact ⟨o,keep c o (I.cne x c e) hc nch ho (I.freeC x c e),hd⟩
 z5⟨I.ok,I.os,hg,⟨fun b o e n hb hx=>?_,fun b o e n hb hx=>?_,fun b o e n hx=>?_,fun b o e hx=>?_,fun b xs e=>tups b xs (I.base.tups b xs e),fun b o xs e=>frzs b o xs (I.base.frzs b o xs e),fun b ps e=>?_⟩,?_,fun x c e=>?_,?_,fun x c e=>?_,fun p hp=>?_,hok,I.len⟩
 .exact keep b o (neL b o e) hb (neC b o e hx) (I.base.keep b o e n hb hx) (I.base.free b o e n hx)
 .obtain ⟨sl,e1⟩:=I.base.slot b o e n hb hx
  x5⟨sl',e2⟩:=slot b _ (neL b o e) hb (neC b o e hx) e1 (I.base.free b o e n hx)
  qV⟨sl',e2⟩
 .obtain ⟨o',e1⟩:=I.base.there b o e hx
  qV free b o' (neC b o e hx) e1 (I.base.free b o e n hx)
 .obtain ⟨o',e1⟩:=I.base.there b o e hx
  qV there b o' (neC b o e hx) e1
 .obtain ⟨m1,e1⟩:=I.base.tbls b ps e
  x5⟨m2,e2⟩:=tbls b _ e1
  qV⟨m1++m2,by rw [e2,Array.append_assoc]⟩
 .obtain ⟨m,hn,hl⟩:=I.loc
  z5⟨m,ns m hn,fun i x v e1 e2 e3=>?_⟩
  x5⟨u,r,l⟩:=hl i x v e1 e2 e3
  z5⟨u,r,?_⟩
  rcases l with l | ⟨k,c,e,z⟩
  .exact .inl l
  .exact .inr ⟨k,c,e,cellK x c e _ z⟩
 .obtain ⟨v,z⟩:=I.cell x c e
  qV⟨v,cellK x c e v z⟩
 .obtain ⟨m,⟨o,_,_,ho,_⟩,_⟩:=I.loc
  qV free _ o (fun z=>(hch _ z).2.1 rfl) ho I.free
 .obtain ⟨v,o,ho,hd⟩:=I.cell x c e
  qV free c o (fun z=>(hch c z).2.2.1 x c e rfl) ho (I.freeC x c e)
 .obtain ⟨e,n,ne,nf,d⟩:=I.pin p hp
  have nch:p.1 ∉ ch:=fun z=>(hch p.1 z).2.2.2 p hp rfl
  qV⟨keep p.1 p.2 ne nf nch e n,free p.1 p.2 nch e n,ne,nf,d⟩
~!Inv.un {t':Nat} (I:Inv X pins σ H s) (u:Un X.fs [] H H' s.heap h') (hok:HOk X.prog X.w H' h'):Inv X pins σ H' { s with heap:=h',toks:=t' }:=by
 x5⟨m,⟨o,es,ep,ho,r⟩,_⟩:=id I.loc
 x5⟨sl,hL⟩:=u.any ho I.free (by simp)
 qV I.step (g':=s.gens) (d':=s.drawn) (ch:=[]) (fun _ z=>nomatch z) (fun b o _ hb _ e n=>u.keep b o e n hb (by simp)) (fun b o _ hb _ e n=>u.slot b o e n hb (by simp)) (fun b o _ e n=>u.free b o e n (by simp)) (fun b o _ e=>u.there b o e (by simp)) u.tups u.frzs u.tbls (fun m' hm=>by
  x5⟨o',es',ep',ho',r'⟩:=hm
  rw [ho] at ho'; cases ho'
  qV⟨_,es',ep',hL,r'⟩) hok I.bare
~!Inv.call {g':Array GenState}{t':Nat}{d':Drawn}{ch:List Addr} (I:Inv X pins σ H s) (u:Un (frs X.stack) ch H H' s.heap h') (hok:HOk X.prog X.w H' h') (hg:AllBare g')
  (hch:∀ b∈ch,(b∈X.ex\/X.s₀.heap.objs.size <= b)/\b≠X.env.locals/\(∀ x c,X.env.cells.lookup x=some c->c≠b)/\∀ p∈X.pn++pins,p.1≠b) :
  Inv X pins σ H' { s with heap:=h',gens:=g',drawn:=d',toks:=t' }:=by
 x5⟨m,⟨o,es,ep,ho,r⟩,_⟩:=id I.loc
 x5⟨sl,hL⟩:=u.any ho I.free fun z=>(hch _ z).2.1 rfl
 qV I.step (ch:=ch) hch (fun b o hL hb hc e n=>u.keep b o e n (fun z=>(List.mem_cons.mp (I.stkSub b z)).elim hL hb) hc) (fun b o _ _ hc e n=>u.any e n hc) (fun b o hc e n=>u.free b o e n hc) (fun b o hc e=>u.there b o e hc) u.tups u.frzs u.tbls (fun m' hm=>by
  x5⟨o',es',ep',ho',r'⟩:=hm
  rw [ho] at ho'; cases ho'
  qV⟨_,es',ep',hL,r'⟩) hok hg
~!Inv.turned {t':Nat}{it:Addr} (I:Inv X pins σ H s) (k:∀ b o,b≠it->s.heap.get? b=some o->h'.get? b=some o) (hn:H it=none) (hL:it≠X.env.locals)
  (h1:it∈X.ex\/X.s₀.heap.objs.size <= it) (h2:∀ x c,X.env.cells.lookup x=some c->c≠it) (h3:∀ p∈X.pn++pins,p.1≠it):Inv X pins σ H { s with heap:=h',toks:=t' }:=by
 have nit:∀ b u,H b=some u->b≠it:=fun b u e z=>by rw [z,hn] at e; cases e
 z5 I.step (g':=s.gens) (d':=s.drawn) (ch:=[it]) (fun b hb=>?_) (fun b o _ _ hc e _=>k b o (fun z=>hc (by simp [z])) e) (fun b o _ _ hc e _=>⟨o.slots,k b o (fun z=>hc (by simp [z])) e⟩) (fun _ _ _ _ n=>n)
  (fun b o hc e=>⟨o,k b o (fun z=>hc (by simp [z])) e⟩) (fun _ _ e=>e) (fun _ _ _ e=>e) (fun b ps e=>⟨#[],by rw [e]; simp⟩) (fun m hm=>?_) (fun b u e=>?_) I.bare
 .have e:b=it:=by simpa using hb
  subst e
  qV⟨h1,hL,h2,h3⟩
 .obtain ⟨o,es,ep,ho,r⟩:=hm
  qV⟨o,es,ep,k _ o (Ne.symm hL) ho,r⟩
 .refine (I.hok b u e).stay (fun c v hc q=>k c v ?_ q) (fun _ q=>q) fun _ _ q=>q
  rcases hc with z | z
  .rw [z]; qV nit b u e
  .exact nit c _ z
~!Inv.tok (I:Inv X pins σ H s) (t:Nat):Inv X pins σ H { s with toks:=t }:=I.un (h':=s.heap) (t':=t) Un.refl I.hok
~!Inv.kept {t':Nat} (I:Inv X pins σ H s) (k:∀ b u,s.heap.get? b=some u->h'.get? b=some u):Inv X pins σ H { s with heap:=h',toks:=t' }:=I.un (Un.kept k) (I.hok.kept k)
~!Inv.laid {a:Addr}{o:HO}{t':Nat} (I:Inv X pins σ H s) (k:∀ b u,s.heap.get? b=some u->h'.get? b=some u) (hp:s.heap.objs.size <= a) (new:dU X.prog X.w (upd H a o) h' a o) :
  Inv X pins σ (upd H a o) { s with heap:=h',toks:=t' }:=I.un (Un.laid k hp (I.hok.fresh hp)) (I.hok.laid k hp new)
~!Inv.write {x e:Addr}{o:HO}{t':Nat} (I:Inv X pins σ H s) (mu:Mut (H x)) (he:e=x\/H e=some (.own x)) (k:∀ b u,b≠e->s.heap.get? b=some u->h'.get? b=some u) (heo:∃ u,h'.get? e=some u)
  (new:dU X.prog X.w (upd H x o) h' x o):Inv X pins σ (upd H x o) { s with heap:=h',toks:=t' }:=I.un (Un.write mu he k heo) (I.hok.write mu he k heo new)
~!Inv.pins_of {pins':List (Addr×Obj)} (I:Inv X pins σ H s) (h:∀ p∈pins',s.heap.get? p.1=some p.2/\H p.1=none/\p.1≠X.env.locals/\p.1 ∉ X.fs/\∀ v,p.2.data≠.cell v):Inv X pins' σ H s :=
 ⟨I.ok,I.os,I.bare,I.base,I.loc,I.cell,I.free,I.freeC,fun p hp=>(List.mem_append.mp hp).elim (fun z=>I.pin p (List.mem_append_left _ z)) (h p),I.hok,I.len⟩
~!qQ {N:List Str} (hN:N.Nodup) {i j:Nat}{x:Str} (a:N[i]?=some x) (b:N[j]?=some x):i=j:=by
 x5⟨h1,e1⟩:=aq.mp a
 x5⟨h2,e2⟩:=aq.mp b
 qV(List.getElem_inj hN).mp (e1.trans e2.symm)
~!UL {M:Model}{A:Around}{E:Value->Shared->Prop}{i:Nat}{x:Str}{v:V}{u:Value}{Q:Unit->Shared->Prop} (I:Inv X pins σ H s) (hN:X.N.Nodup) (hi:X.N[i]?=some x) (hx:Loc X.env.scope x) (r:RelV v u)
  (h:∀ s',Inv X pins (σ.set i (some v)) H s'->(∃ a,Heap.SameBut a s.heap s'.heap/\(a=X.env.locals\/X.env.cells.lookup x=some a))->Q () s') (hf:X.fn x=true\/X.env.scope.names.lookup x=some .local):wpAny M A (storeName X.env x u) Q E s:=by
 x5⟨m,hn,hl⟩:=id I.loc
 have hcls:(X.env.scope.kind == .class || (X.env.scope.kind == .module && X.env.locals != X.env.globals))=false:=by rw [I.ok.kind]; rfl
 have hiσ:i<σ.length:=by rw [I.len]; qV(aq.mp hi).1
 have cne:=I.cne
 have tracked:∀ {a:Addr}{h':Heap},(∃ o,s.heap.get? a=some o/\H a=none)->Heap.SameBut a s.heap h'->HOk X.prog X.w H h':=fun {a h'} ha hs b ob e=>by
  x5⟨_,_,hfree⟩:=ha
  z5(I.hok b ob e).stay (fun c w' hc q=>(hs.2 c ?_).trans q) (fun _ q=>q) fun _ _ q=>q
  rintro rfl
  rcases hc with rfl | hc
  .rw [hfree] at e; cases e
  .rw [hfree] at hc; cases hc
 rcases hx with hk | hk
 .refine wpAny_storeName_local hk hn (fun h' hn' hs=>?_) hcls
  x5⟨oL,_,_,hoL,_⟩:=id hn
  z5 h _ ⟨I.ok,I.os,I.bare,⟨fun b o e n hb hx=>?_,fun b o e n hb hx=>?_,I.base.free,fun b o e hx=>?_,I.base.tups,I.base.frzs,I.base.tbls⟩,⟨_,hn',fun j y v' e1 e2 e3=>?_⟩,fun y c e=>?_,I.free,I.freeC,fun p hp=>?_,tracked ⟨oL,hoL,I.free⟩ hs,by simpa using I.len⟩ ⟨_,hs,.inl rfl⟩
  .exact (hs.2 b (aV (aW (aK e) I.ok.above))).trans (I.base.keep b o e n hb hx)
  .obtain ⟨sl,e1⟩:=I.base.slot b o e n hb hx
   qV⟨sl,(hs.2 b (aV (aW (aK e) I.ok.above))).trans e1⟩
  .obtain ⟨o',e1⟩:=I.base.there b o e hx
   qV⟨o',(hs.2 b (aV (aW (aK e) I.ok.above))).trans e1⟩
  .by_cases hj:j=i
   .subst hj
    rw [hi] at e1; cases e1
    rw [List.getElem?_set_self hiσ] at e2
    cases e2
    qV⟨u,r,.inl ⟨hk,by simp⟩⟩
   .rw [List.getElem?_set_ne (Ne.symm hj)] at e2
    x5⟨u',r',q⟩:=hl j y v' e1 e2 e3
    z5⟨u',r',?_⟩
    rcases q with ⟨k,e⟩ | ⟨k,c,e,z⟩
    .refine .inl ⟨k,?_⟩
     have:y≠x:=fun e=>hj (qQ hN e1 (e ▸ hi))
     simp [this,e]
    .exact .inr ⟨k,c,e,z.sameBut hs (cne y c e)⟩
  .obtain ⟨w',z⟩:=I.cell y c e
   qV⟨w',z.sameBut hs (cne y c e)⟩
  .obtain ⟨e,n,ne,nf,d⟩:=I.pin p hp
   qV⟨(hs.2 p.1 ne).trans e,n,ne,nf,d⟩
 .have hfn:X.fn x=true:=by
   rcases hf with z | z
   .exact z
   .rw [z] at hk; cases hk
  x5⟨c,hc⟩:=I.ok.has x (.inl hk)
  x5⟨w',z⟩:=I.cell x c hc
  z5 wpAny_storeName_cell I.ok.kind hk hc z (fun h' hc' hs=>?_)
  x5⟨oc,hoc,hocd⟩:=id z
  z5 h { s with heap:=h' } ⟨I.ok,I.os,I.bare,⟨fun b o e n hb hx=>?_,fun b o e n hb hx=>?_,I.base.free,fun b o e hx=>?_,I.base.tups,I.base.frzs,I.base.tbls⟩,⟨m,hn.sameBut hs (Ne.symm (cne x c hc)),fun j y v' e1 e2 e3=>?_⟩,fun y c' e=>?_,I.free,I.freeC,fun p hp=>?_,tracked ⟨oc,hoc,I.freeC x c hc⟩ hs,by simpa using I.len⟩ ⟨c,hs,.inr hc⟩
  .exact (hs.2 b (aV (aW (aK e) (I.ok.cab x c hfn hc)))).trans (I.base.keep b o e n hb hx)
  .obtain ⟨sl,e1⟩:=I.base.slot b o e n hb hx
   qV⟨sl,(hs.2 b (aV (aW (aK e) (I.ok.cab x c hfn hc)))).trans e1⟩
  .obtain ⟨o',e1⟩:=I.base.there b o e hx
   qV⟨o',(hs.2 b (aV (aW (aK e) (I.ok.cab x c hfn hc)))).trans e1⟩
  .by_cases hj:j=i
   .subst hj
    rw [hi] at e1; cases e1
    rw [List.getElem?_set_self hiσ] at e2
    cases e2
    qV⟨u,r,.inr ⟨.inl hk,c,hc,hc'⟩⟩
   .rw [List.getElem?_set_ne (Ne.symm hj)] at e2
    x5⟨u',r',q⟩:=hl j y v' e1 e2 e3
    z5⟨u',r',?_⟩
    rcases q with q | ⟨k,c',e,z'⟩
    .exact .inl q
    .refine .inr ⟨k,c',e,z'.sameBut hs ?_⟩
     rintro rfl
     qV hj (qQ hN e1 (I.ok.inj _ _ _ e hc ▸ hi))
  .by_cases hcc:c'=c
   .subst hcc; qV⟨_,hc'⟩
   .obtain ⟨w2,z2⟩:=I.cell y c' e
    qV⟨w2,z2.sameBut hs hcc⟩
  .obtain ⟨e,n,ne,nf,d⟩:=I.pin p hp
   z5⟨(hs.2 p.1 ?_).trans e,n,ne,nf,d⟩
   intro q
   rw [q,hoc] at e
   have q':oc=p.2:=Option.some.inj e
   qV d w' (by rw [<- q']; qV hocd)
~!uc {M:Model}{A:Around}{E:Value->Shared->Prop}{i:Nat}{x:Str}{v:V}{u:Value}{Q:Unit->Shared->Prop} (I:Inv X pins σ H s) (hN:X.N.Nodup) (hi:X.N[i]?=some x) (hx:Loc X.env.scope x) (r:RelV v u)
  (h:∀ s',Inv X pins (σ.set i (some v)) H s'->Q () s') (hf:X.fn x=true\/X.env.scope.names.lookup x=some .local:=by first | qV .inl rfl | qV .inr rfl | assumption):wpAny M A (storeName X.env x u) Q E s :=
 UL I hN hi hx r (fun s' I' _=>h s' I') hf
~!Inv.call' {s':Shared}{ch:List Addr} (I:Inv X pins σ H s) (ho:s'.os=s.os) (u:Un (frs X.stack) ch H H' s.heap s'.heap) (hok:HOk X.prog X.w H' s'.heap) (hg:AllBare s'.gens)
  (hch:∀ b∈ch,(b∈X.ex\/X.s₀.heap.objs.size <= b)/\b≠X.env.locals/\(∀ x c,X.env.cells.lookup x=some c->c≠b)/\∀ p∈X.pn++pins,p.1≠b):Inv X pins σ H' s':=by
 x5⟨h',g',d',t',o'⟩:=s'
 have e:o'=s.os:=ho
 subst e
 qV I.call (g':=g') (t':=t') (d':=d') u hok hg hch
end
abbrev XK:=Value->Option Addr->Hp->Prop
abbrev St:=List (Option V)
abbrev VK:=V->Hp->Prop
abbrev TE:=St->Hp->VK->Prop
abbrev TT:=St->Hp->(Bool->Hp->Prop)->Prop
abbrev TA:=St->Hp->(List V->Hp->Prop)->Prop
structure Ends where
 nx:St->Hp->Prop
 rt:VK
 bk:St->Hp->Prop:=fun _ _=>False
 ct:St->Hp->Prop:=fun _ _=>False
abbrev TS:=Ends->St->Hp->Prop
def EP (X:Cx) (pins:List (Addr×Obj)) (σ:St) (Q:VK) (u:Value) (s':Shared):Prop:=∃ v H',Inv X pins σ H' s'/\RelV v u/\Q v H'
def TP (X:Cx) (pins:List (Addr×Obj)) (σ:St) (Q:Bool->Hp->Prop) (b:Bool) (s':Shared):Prop:=∃ H',Inv X pins σ H' s'/\Q b H'
def AP (X:Cx) (pins:List (Addr×Obj)) (σ:St) (Q:List V->Hp->Prop) (us:List Value) (s':Shared):Prop:=∃ vs H',Inv X pins σ H' s'/\Vals vs us/\Q vs H'
def SP (X:Cx) (pins:List (Addr×Obj)) (D:Ends) (f:Flow) (s':Shared):Prop :=
 match f with
 | .next=>∃ σ' H',Inv X pins σ' H' s'/\D.nx σ' H'
 | .brk=>∃ σ' H',Inv X pins σ' H' s'/\D.bk σ' H'
 | .cont=>∃ σ' H',Inv X pins σ' H' s'/\D.ct σ' H'
 | .ret u=>∃ v σ' H',Inv X pins σ' H' s'/\RelV v u/\D.rt v H'
def PE (X:Cx) (e:Expr) (t:TE):Prop :=
 ∀ (pins:List (Addr×Obj)) (s:Shared) (σ:St) (H:Hp) (Q:VK),Inv X pins σ H s->t σ H Q->wpAny (model X.prog X.w) X.A (eval e X.env) (EP X pins σ Q) X.xe s
def PT (X:Cx) (e:Expr) (t:TT):Prop :=
 ∀ (pins:List (Addr×Obj)) (s:Shared) (σ:St) (H:Hp) (Q:Bool->Hp->Prop),Inv X pins σ H s->t σ H Q->wpAny (model X.prog X.w) X.A (isTrue e X.env (eval e X.env)) (TP X pins σ Q) X.xe s
def PW (X:Cx) (e:Expr) (t:TT):Prop :=
 ∀ (whole:Sem Value) (pins:List (Addr×Obj)) (s:Shared) (σ:St) (H:Hp) (Q:Bool->Hp->Prop),Inv X pins σ H s->t σ H Q->wpAny (model X.prog X.w) X.A (isTrue e X.env whole) (TP X pins σ Q) X.xe s
~!PW.pt {X:Cx}{e:Expr}{t:TT} (h:PW X e t):PT X e t:=h _
def PA (X:Cx) (es:List Expr) (t:TA):Prop :=
 ∀ (pos:Pos) (pins:List (Addr×Obj)) (s:Shared) (σ:St) (H:Hp) (Q:List V->Hp->Prop),Inv X pins σ H s->t σ H Q->wpAny (model X.prog X.w) X.A (spliced (backTo pos (starEach es X.env))) (AP X pins σ Q) X.xe s
def PS (X:Cx) (st:Stmt) (t:TS):Prop :=
 ∀ (pins:List (Addr×Obj)) (s:Shared) (σ:St) (H:Hp) (D:Ends),Inv X pins σ H s->t D σ H->wpAny (model X.prog X.w) X.A (exec st X.env) (SP X pins D) X.xe s
def PSs (X:Cx) (st:List Stmt) (t:TS):Prop :=
 ∀ (pins:List (Addr×Obj)) (s:Shared) (σ:St) (H:Hp) (D:Ends),Inv X pins σ H s->t D σ H->wpAny (model X.prog X.w) X.A (execs st X.env) (SP X pins D) X.xe s
~!thn {α:Type}{t:Sem α}{Q Q':α->Shared->Prop}{M:Model}{A:Around}{E:Value->Shared->Prop}{s:Shared} (h:wpAny M A t Q E s) (hQ:∀ a s,Q a s->Q' a s):wpAny M A t Q' E s:=wpAny_mono h hQ fun _ _ x=>x
section
variable {X:Cx}
def Ei (i:Nat):TE:=fun σ H Q=>∃ v,σ[i]?=some (some v)/\Q v H
def tC (v:V):TE:=fun _ H Q=>Q v H
~!adN {i:Nat}{x:Str}{pos:Pos} (hN:X.N[i]?=some x) (hv:Vis X.env.scope x) (hd:(x == ("__debug__" : Str))=false:=by decide) (hcd:(x == ("__classdict__" : Str))=false:=by decide):PE X (.Name x pos) (Ei i):=by
 intro pins s σ H Q I h
 x5⟨v,e,h⟩:=h
 x5⟨m,hn,hl⟩:=I.loc
 x5⟨u,r,l⟩:=hl i x v hN e hv
 have fin:EP X pins σ Q u s:=⟨v,H,I,r,h⟩
 rcases l with ⟨hk,hm⟩ | ⟨hk,c,hc,hcell⟩
 .exact wpAny_Name (wpAny_loadName_local I.ok.kind hk hn hm fin) hd
 .rcases hk with hk | hk
  .exact wpAny_Name (wpAny_loadName_cell I.ok.kind hk hc hcell fin) hd
  .exact wpAny_Name (wpAny_loadName_free I.ok.kind hk hc hcell fin hcd) hd
~!bH {i j pos} : PE X (.Constant (.int i) j pos) (tC (.int i)):=fun _ _ _ H _ I h=>wpAny_Constant_int ⟨.int i,H,I.tok _,⟨_,rfl⟩,h⟩
~!gB {b j pos} : PE X (.Constant (.bool b) j pos) (tC (.bl b)):=fun _ _ _ H _ I h=>Constant_bool ⟨.bl b,H,I,rfl,h⟩
~!vI {j pos} : PE X (.Constant .none j pos) (tC .non):=fun _ _ _ H _ I h=>Constant_none ⟨.non,H,I,rfl,h⟩
~!iZ {x j pos} : PE X (.Constant (.str x) j pos) (tC (.str x)):=fun _ _ _ H _ I h=>Calls.Constant_str ⟨.str x,H,I.tok _,⟨_,rfl⟩,h⟩
def Gl (X:Cx) (x:Str):Prop:=X.env.kindOf x=some .globalImplicit
~!lY {E:Value->Shared->Prop}{pins:List (Addr×Obj)}{s:Shared}{σ:St}{H:Hp}{x:Str}{u:Value}{pos:Pos}{Q:Value->Shared->Prop} (I:Inv X pins σ H s) (hg:Gl X x) (hm:X.mg x=some u) (h:Q u s)
  (hd:(x == ("__debug__" : Str))=false:=by decide):wpAny (model X.prog X.w) X.A (eval (.Name x pos) X.env) Q E s :=
 Calls.Name_function_global I.ok.kind hg (Calls.loadGlobal_global (by rw [I.ok.glob]; qV I.mod.glob.keeps I.bk) hm h) hd
~!Al {E:Value->Shared->Prop}{pins:List (Addr×Obj)}{s:Shared}{σ:St}{H:Hp}{x:Str}{u:Value}{pos:Pos}{Q:Value->Shared->Prop} (I:Inv X pins σ H s) (hg:Gl X x) (hm:X.mg x=none) (hv:bootBuiltins x=some u) (h:Q u s)
  (hn:x ≠ "__name__" := by decide) (hd:(x == ("__debug__" : Str))=false:=by decide):wpAny (model X.prog X.w) X.A (eval (.Name x pos) X.env) Q E s:=by
 x5⟨mb,h1,h2⟩:=I.mod.blt
 qV Calls.Name_function_global I.ok.kind hg (Calls.loadGlobal_builtin (by rw [I.ok.glob]; qV I.mod.glob.keeps I.bk) hm (by rw [I.ok.blt]; qV h1.keeps I.bk) ((h2 x hn).trans hv) h) hd
~!RJ {x:Str}{v:V}{u:Value}{pos:Pos} (hg:Gl X x) (hm:X.mg x=some u) (r:RelV v u) (hd:(x == ("__debug__" : Str))=false:=by decide):PE X (.Name x pos) (tC v) :=
 fun _ _ _ H _ I h=>lY I hg hm ⟨v,H,I,r,h⟩ hd
~!lU {x:Str}{v:V}{u:Value}{pos:Pos} (hg:Gl X x) (hm:X.mg x=none) (hv:bootBuiltins x=some u) (r:RelV v u) (hn:x ≠ "__name__" := by decide) (hd:(x == ("__debug__" : Str))=false:=by decide):PE X (.Name x pos) (tC v) :=
 fun _ _ _ H _ I h=>Al I hg hm hv ⟨v,H,I,r,h⟩ hn hd
variable {a b:Expr}{ta tb:TE}{pos:Pos}
def PC (X:Cx) (op:CmpOp) (a b:Expr) (t:TE):Prop :=
 ∀ (pins:List (Addr×Obj)) (s:Shared) (σ:St) (H:Hp) (Q:VK),Inv X pins σ H s->t σ H Q ->
  wpAny (model X.prog X.w) X.A (eval a X.env) (fun v s₁=>wpAny (model X.prog X.w) X.A (eval b X.env) (fun u s₂=>wpAny (model X.prog X.w) X.A (compareOp op v u) (EP X pins σ Q) X.xe s₂) X.xe s₁) X.xe s
def tB (t:TE):TT:=fun σ H Q=>t σ H fun x H1=>∃ c,x=.bl c/\Q c H1
~!Ql {op:CmpOp}{t:TE} (h:PC X op a b t) (h1:behindInMarks op b=false:=by rfl):PT X (.Compare a [op] [b] pos) (tB t):=by
 intro pins s σ H Q I hw
 z5 wpAny_isTrue_Compare1 (thn (h pins s σ H _ I hw) fun v s1 h1=>thn h1 fun u s2 h2=>thn h2 fun c s3 hP=>?_) h1
 x5⟨x,H1,I1,r1,q1⟩:=hP
 x5⟨d,rfl,q⟩:=q1
 cases r1
 qV wpAny_truthy_bool ⟨H1,I1,q⟩
variable {tA tB':TT}{rest:List Expr}
def X3 (t u:TT):TT:=fun σ H Q=>t σ H fun c H1=>if c=true then u σ H1 Q else Q false H1
def tOr (t u:TT):TT:=fun σ H Q=>t σ H fun c H1=>if c=true then Q true H1 else u σ H1 Q
def Vu (t:TT):TT:=fun σ H Q=>t σ H fun c H1=>Q (!c) H1
~!pw_and1 (ha:PT X a tA):PW X (.BoolOp .And [a] pos) tA:=by
 intro wh pins s σ H Q I h
 z5 isTrue_and (thn (ha pins s σ H Q I h) fun c s1 e=>?_)
 cases c with
 | true=>qV isTrue_and_nil e
 | false=>qV e
~!pw_or1 (ha:PT X a tA):PW X (.BoolOp .Or [a] pos) tA:=by
 intro wh pins s σ H Q I h
 z5 isTrue_or (thn (ha pins s σ H Q I h) fun c s1 e=>?_)
 cases c with
 | false=>qV isTrue_or_nil e
 | true=>qV e
~!pw_and (ha:PT X a tA) (hb:PW X (.BoolOp .And (b::rest) pos) tB'):PW X (.BoolOp .And (a::b::rest) pos) (X3 tA tB'):=by
 intro wh pins s σ H Q I h
 z5 isTrue_and (thn (ha pins s σ H _ I h) fun c s1 hP=>?_)
 x5⟨H1,I1,q1⟩:=hP
 cases c with
 | true=>qV hb wh pins s1 σ H1 Q I1 q1
 | false=>qV⟨H1,I1,q1⟩
~!pw_or (ha:PT X a tA) (hb:PW X (.BoolOp .Or (b::rest) pos) tB'):PW X (.BoolOp .Or (a::b::rest) pos) (tOr tA tB'):=by
 intro wh pins s σ H Q I h
 z5 isTrue_or (thn (ha pins s σ H _ I h) fun c s1 hP=>?_)
 x5⟨H1,I1,q1⟩:=hP
 cases c with
 | true=>qV⟨H1,I1,q1⟩
 | false=>qV hb wh pins s1 σ H1 Q I1 q1
~!eF (ha:PT X a tA):PT X (.UnaryOp .Not a pos) (Vu tA):=by
 intro pins s σ H Q I h
 qV isTrue_not (ha pins s σ H (fun c H1=>Q (!c) H1) I h)
def Sw (ta tb:TE):TE:=fun σ H Q=>ta σ H fun x H1=>∃ c,x=.bl c/\if c=true then tb σ H1 Q else Q (.bl false) H1
def acI (ta tb:TE):TE:=fun σ H Q=>ta σ H fun x H1=>∃ c,x=.bl c/\if c=true then Q (.bl true) H1 else tb σ H1 Q
def SQ (ta:TE):TE:=fun σ H Q=>ta σ H fun x H1=>∃ c,x=.bl c/\Q (.bl (!c)) H1
~!Kr {op}{t:TE} (h:PE X a t):PE X (.BoolOp op [a] pos) t:=fun pins s σ H Q I hw=>BoolOp_one (h pins s σ H Q I hw)
~!K6 (ha:PE X a ta) (hb:PE X (.BoolOp .And (b::rest) pos) tb):PE X (.BoolOp .And (a::b::rest) pos) (Sw ta tb):=by
 intro pins s σ H Q I h
 z5 BoolOp_and (thn (ha pins s σ H _ I h) fun v s1 hP=>?_)
 x5⟨x,H1,I1,r1,q1⟩:=hP
 x5⟨c,rfl,q1⟩:=q1
 cases r1
 z5 wpAny_truthy_bool ?_
 cases c with
 | true=>qV hb pins s1 σ H1 Q I1 q1
 | false=>qV⟨.bl false,H1,I1,rfl,q1⟩
~!Rj (ha:PE X a ta):PE X (.UnaryOp .Not a pos) (SQ ta):=by
 intro pins s σ H Q I h
 z5 UnaryOp_ (thn (ha pins s σ H _ I h) fun v s1 hP=>?_)
 x5⟨x,H1,I1,r1,q1⟩:=hP
 x5⟨c,rfl,q1⟩:=q1
 cases r1
 qV not_of (wpAny_truthy_bool ⟨.bl (!c),H1,I1,rfl,q1⟩)
def tIf (t:TT) (ta tb:TE):TE:=fun σ H Q=>t σ H fun c H1=>if c=true then ta σ H1 Q else tb σ H1 Q
~!yh {c:Expr} (hc:PT X c tA) (ha:PE X a ta) (hb:PE X b tb):PE X (.IfExp c a b pos) (tIf tA ta tb):=by
 intro pins s σ H Q I h
 z5 wpAny_IfExp (thn (hc pins s σ H _ I h) fun d s1 hP=>?_)
 x5⟨H1,I1,q1⟩:=hP
 cases d with
 | true=>qV ha pins s1 σ H1 Q I1 q1
 | false=>qV hb pins s1 σ H1 Q I1 q1
end
def SqL (K:Frag) (H:Hp) (a:Addr) (xs:List V):Prop :=
 Rd H a (.lst xs) \/
  ∃ (o:Obj) (its:Array Value) (n:Nat),K.lookup a=some o/\o.cls=.type "list" /\ o.dict=none/\o.data=.seq its n/\its.size <= sizeLine/\Vals xs its.toList
def SqT (K:Frag) (H:Hp) (a:Addr) (xs:List V):Prop :=
 Rd H a (.tup xs) \/
  ∃ (o:Obj) (its:Array Value) (n:Nat),K.lookup a=some o/\o.cls=.type "tuple" /\ o.data=.seq its n/\its.size <= sizeLine/\Vals xs its.toList
def ahp:Value->Option V
 | .none=>some .non
 | .bool b=>some (.bl b)
 | .int i _=>some (.int i)
 | .str x _=>some (.str x)
 | .bytes b _=>some (.byt b)
 | .float b _=>some (.flt b)
 | .ref a=>some (.ref a)
 | .type n=>some (.ty n)
 | _=>none
~!RelV.abs {x:V}{u:Value} (r:RelV x u):ahp u=some x:=by
 cases x with
 | non=>cases r; rfl
 | bl _=>cases r; rfl
 | int _=>x5⟨t,rfl⟩:=r; rfl
 | str _=>x5⟨t,rfl⟩:=r; rfl
 | byt _=>x5⟨t,rfl⟩:=r; rfl
 | flt _=>x5⟨t,rfl⟩:=r; rfl
 | ref _=>cases r; rfl
 | ty _=>cases r; rfl
~!RelV.inj {x y:V}{u:Value} (r:RelV x u) (q:RelV y u):x=y:=Option.some.inj (r.abs.symm.trans q.abs)
~!Vals.inj:∀ {xs ys:List V}{us:List Value},Vals xs us->Vals ys us->xs=ys
 | _,_,_,.nil,.nil=>rfl
 | _,_,_,.cons r t,.cons r' t'=>by rw [r.inj r',Vals.inj t t']
section
variable {X:Cx}{pins:List (Addr×Obj)}{σ:St}{H:Hp}{s:Shared}{a:Addr}{xs ys:List V}
~!SqL.of {K:Frag} (h:H a=some (.lst xs)):SqL K H a xs:=.inl (.inl h)
~!SqT.of {K:Frag} (h:H a=some (.tup xs)):SqT K H a xs:=.inl (.inl h)
~!Inv.list (I:Inv X pins σ H s) (h:SqL X.K H a xs):∃ its:List Value,Vals xs its/\PlainL s.heap a its.toArray/\xs.length <= sizeLine:=by
 rcases h with h | ⟨o,its,n,hk,hc,hd,hs,hz,r⟩
 .obtain ⟨z,its,n,r,e⟩:=h.ok I.hok
  qV⟨its,r,⟨_,n,e,rfl,rfl,rfl⟩,z⟩
 .refine ⟨its.toList,r,⟨o,n,I.kIn a o hk,hc,hd,by simpa using hs⟩,?_⟩
  have e:=r.length
  simp only [Array.length_toList] at e
  om
~!Inv.tuple (I:Inv X pins σ H s) (h:SqT X.K H a xs):∃ its:List Value,Vals xs its/\IsTup s.heap a its.toArray/\xs.length <= sizeLine:=by
 rcases h with h | ⟨o,its,n,hk,hc,hs,hz,r⟩
 .obtain ⟨z,its,r,p⟩:=h.ok I.hok
  qV⟨its,r,p,z⟩
 .refine ⟨its.toList,r,⟨o,I.kIn a o hk,hc,n,by simpa using hs⟩,?_⟩
  have e:=r.length
  simp only [Array.length_toList] at e
  om
~!Inv.list_inj (I:Inv X pins σ H s) (h:SqL X.K H a xs) (h':SqL X.K H a ys):xs=ys:=by
 x5⟨its,r,⟨o,n,e,_,_,d⟩,_⟩:=I.list h
 x5⟨its',r',⟨o',n',e',_,_,d'⟩,_⟩:=I.list h'
 rw [e] at e'; cases e'
 rw [d] at d'
 injection d' with d1 _
 have:its=its':=by simpa using congrArg Array.toList d1
 subst this
 qV r.inj r'
~!Inv.tuple_inj (I:Inv X pins σ H s) (h:SqT X.K H a xs) (h':SqT X.K H a ys):xs=ys:=by
 x5⟨its,r,⟨o,e,_,n,d⟩,_⟩:=I.tuple h
 x5⟨its',r',⟨o',e',_,n',d'⟩,_⟩:=I.tuple h'
 rw [e] at e'; cases e'
 rw [d] at d'
 injection d' with d1 _
 have:its=its':=by simpa using congrArg Array.toList d1
 subst this
 qV r.inj r'
end
abbrev Cx.wish (X:Cx) (E:Value->Shared->Prop):Cx:={ X with xe:=E }
abbrev Cx.nox (X:Cx):Cx:=X.wish fun _ _=>False
~!Cx.Ok.wish {X:Cx} (ok:X.Ok) (E:Value->Shared->Prop):(X.wish E).Ok :=
 ⟨ok.mod,ok.kind,ok.glob,ok.blt,ok.above,ok.inj,ok.has,ok.cab,ok.hd,ok.frames,ok.stk,ok.exf,ok.bs,ok.bsz,ok.noex,ok.exfs,ok.funs,ok.frf⟩
~!Cx.Ok.unwish {X:Cx}{E:Value->Shared->Prop} (ok:(X.wish E).Ok):X.Ok :=
 ⟨ok.mod,ok.kind,ok.glob,ok.blt,ok.above,ok.inj,ok.has,ok.cab,ok.hd,ok.frames,ok.stk,ok.exf,ok.bs,ok.bsz,ok.noex,ok.exfs,ok.funs,ok.frf⟩
section
variable {X:Cx}{pins:List (Addr×Obj)}{σ:St}{H:Hp}{s:Shared}{E:Value->Shared->Prop}
~!Inv.wish (I:Inv X pins σ H s) (E:Value->Shared->Prop):Inv (X.wish E) pins σ H s:=⟨I.ok.wish E,I.os,I.bare,I.base,I.loc,I.cell,I.free,I.freeC,I.pin,I.hok,I.len⟩
~!Inv.unwish (I:Inv (X.wish E) pins σ H s):Inv X pins σ H s:=⟨I.ok.unwish,I.os,I.bare,I.base,I.loc,I.cell,I.free,I.freeC,I.pin,I.hok,I.len⟩
~!SP.unwish {D:Ends}{f:Flow}{s':Shared} (h:SP (X.wish E) pins D f s'):SP X pins D f s':=by
 cases f with
 | next=>x5⟨σ',H',I,q⟩:=h; qV⟨σ',H',I.unwish,q⟩
 | brk=>x5⟨σ',H',I,q⟩:=h; qV⟨σ',H',I.unwish,q⟩
 | cont=>x5⟨σ',H',I,q⟩:=h; qV⟨σ',H',I.unwish,q⟩
 | ret u=>x5⟨v,σ',H',I,r,q⟩:=h; qV⟨v,σ',H',I.unwish,r,q⟩
~!PSs.nox {st:List Stmt}{t:TS} (h:PSs X.nox st t):PSs X st t:=fun pins s σ H D I hw =>
 wpAny_mono (h pins s σ H D (I.wish _) hw) (fun _ _ q=>q.unwish) fun _ _ z=>False.elim z
end
section
variable {X:Cx}{st:Stmt}{rest:List Stmt}{t u:TS}{e:Expr}{te:TE}{pos:Pos}
def yC:TS:=fun D σ H=>D.nx σ H
def q_ (t u:TS):TS:=fun D σ H=>t { D with nx:=u D } σ H
~!cC:PSs X [] yC:=fun _ _ σ H _ I h=>wpAny_execs_nil ⟨σ,H,I,h⟩
~!bN (h1:PS X st t) (h2:PSs X rest u):PSs X (st::rest) (q_ t u):=by
 intro pins s σ H D I h
 z5 wpAny_execs_cons (thn (h1 pins s σ H { D with nx:=u D } I h) fun f s1 q=>?_)
 cases f with
 | next =>
  x5⟨σ',H',I',q⟩:=q
  qV h2 pins s1 σ' H' D I' q
 | ret v=>qV q
 | brk=>qV q
 | cont=>qV q
~!bQ (h1:PS X st t):PSs X [st] t:=by
 intro pins s σ H D I h
 z5 wpAny_execs_cons (thn (h1 pins s σ H D I h) fun f s1 q=>?_)
 cases f with
 | next=>qV wpAny_execs_nil q
 | ret v=>qV q
 | brk=>qV q
 | cont=>qV q
~!Inv.quiet {pins:List (Addr×Obj)}{σ:St}{H:Hp}{s:Shared} (I:Inv X pins σ H s):interactive X.env=false:=by simp [interactive,I.ok.kind]
def Um (te:TE):TS:=fun D σ H=>te σ H fun _ H1=>D.nx σ H1
~!dh (he:PE X e te) (hs:swapsWith e none pos.line X.env=pure false:=by rfl):PS X (.Expr e pos) (Um te):=by
 intro pins s σ H D I h
 qV wpAny_Expr_any (thn (he pins s σ H _ I h) fun v s1 hP=>by x5⟨x,H1,I1,r1,q1⟩:=hP; qV⟨σ,H1,I1,q1⟩) I.quiet hs
def Vh (te:TE):TS:=fun D σ H=>te σ H D.rt
~!cu (he:PE X e te):PS X (.Return (some e) pos) (Vh te):=by
 intro pins s σ H D I h
 qV wpAny_Return_some (thn (he pins s σ H _ I h) fun v s1 hP=>by x5⟨x,H1,I1,r1,q1⟩:=hP; qV⟨x,σ,H1,I1,r1,q1⟩)
def Xo:TS:=fun D _ H=>D.rt .non H
def Gx (c:TT) (t u:TS):TS:=fun D σ H=>c σ H fun b H1=>if b=true then t D σ H1 else u D σ H1
~!cY {c:Expr}{a b:List Stmt}{tc:TT} (hc:PT X c tc) (ha:PSs X a t) (hb:PSs X b u):PS X (.If c a b pos) (Gx tc t u):=by
 intro pins s σ H D I h
 z5 wpAny_If (thn (hc pins s σ H _ I h) fun d s1 hP=>?_)
 x5⟨H1,I1,q1⟩:=hP
 cases d with
 | true=>qV ha pins s1 σ H1 D I1 q1
 | false=>qV hb pins s1 σ H1 D I1 q1
def adD:TS:=fun _ _ _=>False
~!pC:PS X st adD:=fun _ _ _ _ _ _ h=>h.elim
end
abbrev TG:=V->St->Hp->(St->Hp->Prop)->Prop
abbrev TGs:=List V->St->Hp->(St->Hp->Prop)->Prop
def PG (X:Cx) (target:Expr) (t:TG):Prop :=
 ∀ (pins:List (Addr×Obj)) (s:Shared) (σ:St) (H:Hp) (v:V) (u:Value) (Q:St->Hp->Prop),Inv X pins σ H s->RelV v u->t v σ H Q ->
  wpAny (model X.prog X.w) X.A (assign target X.env u) (fun _ s'=>∃ σ' H',Inv X pins σ' H' s'/\Q σ' H') X.xe s
def PGs (X:Cx) (ts:List Expr) (t:TGs):Prop :=
 ∀ (pins:List (Addr×Obj)) (s:Shared) (σ:St) (H:Hp) (vs:List V) (us:List Value) (Q:St->Hp->Prop),Inv X pins σ H s->Vals vs us->t vs σ H Q ->
  wpAny (model X.prog X.w) X.A (assignInOrder ((assignEach ts X.env).map (·.2)) us) (fun _ s'=>∃ σ' H',Inv X pins σ' H' s'/\Q σ' H') X.xe s
abbrev adL:=V->V->V->Hp->(Hp->Prop)->Prop
def aeY (X:Cx) (t:adL):Prop :=
 ∀ (pins:List (Addr×Obj)) (s:Shared) (σ:St) (H:Hp) (o i v:V) (ov iv u:Value) (Q:Hp->Prop),Inv X pins σ H s->RelV o ov->RelV i iv->RelV v u->t o i v H Q ->
  wpAny (model X.prog X.w) X.A (setItem ov iv u) (fun _ s'=>∃ H',Inv X pins σ H' s'/\Q H') X.xe s
section
variable {X:Cx}{pos:Pos}
def cU (i:Nat):TG:=fun v σ H Q=>Q (σ.set i (some v)) H
~!cG {i:Nat}{x:Str} (hN:X.N.Nodup) (hi:X.N[i]?=some x) (hx:Loc X.env.scope x) (hf:X.fn x=true\/X.env.scope.names.lookup x=some .local:=by first | qV .inl rfl | qV .inr rfl | assumption):PG X (.Name x pos) (cU i):=by
 intro pins s σ H v u Q I r h
 qV wpAny_assign_Name (uc I hN hi hx r (fun s' I'=>⟨_,H,I',h⟩) hf)
def abw:TGs:=fun vs σ H Q=>vs=[]/\Q σ H
def Ti (t:TG) (u:TGs):TGs:=fun vs σ H Q=>∃ v r,vs=v::r/\t v σ H fun σ' H'=>u r σ' H' Q
~!gC:PGs X [] abw:=by
 intro pins s σ H vs us Q I r h
 x5⟨e,h⟩:=h
 subst e
 cases r
 qV assignInOrder_nil ⟨σ,H,I,h⟩
~!cF {e:Expr}{es:List Expr}{t:TG}{u:TGs} (h1:PG X e t) (h2:PGs X es u)
  (hs:(assignEach (e::es) X.env).map (·.2)=assign e X.env::(assignEach es X.env).map (·.2):=by rfl):PGs X (e::es) (Ti t u):=by
 intro pins s σ H vs us Q I r h
 x5⟨v,vr,e1,h⟩:=h
 subst e1
 cases r with
 | cons r rr =>
  rw [hs]
  z5 assignInOrder_cons (thn (h1 pins s σ H _ _ _ I r h) fun _ s1 hP=>?_)
  x5⟨σ1,H1,I1,q1⟩:=hP
  qV h2 pins s1 σ1 H1 _ _ Q I1 rr q1
def aaw (K:Frag) (n:Nat) (t:TGs):TG:=fun v σ H Q=>∃ a xs,v=.ref a/\SqT K H a xs/\xs.length=n/\t xs σ H Q
~!adC {es:List Expr}{k:Nat}{t:TGs}{n:Nat} (hc:X.calm=true) (h:PGs X es t)
  (hn:(assignEach es X.env).length=n:=by rfl) (hst:(assignEach es X.env).findIdx? (·.1)=none:=by rfl):PG X (.Tuple es k pos) (aaw X.K n t):=by
 intro pins s σ H v u Q I r hw
 x5⟨a,xs,e1,hq,hl,hw⟩:=hw
 subst e1
 cases r
 x5⟨its,rv,ht,hz⟩:=I.tuple hq
 z5 assign_Tuple_tuple (I.ok.hd hc) ht (by simp [hn,<- hl,rv.length]) hst fun h' hx=>?_
 have I1:Inv X pins σ H { s with heap:=h' }:=I.kept (t':=s.toks) fun b o e=>hx b o (aV (aK e)) e
 qV h pins _ σ H xs _ Q I1 (by simpa using rv) hw
def aa4 (to ti:TE) (t:adL):TG:=fun v σ H Q=>to σ H fun o H1=>ti σ H1 fun i H2=>t o i v H2 fun H3=>Q σ H3
~!QJ {o i:Expr}{to ti:TE}{t:adL} (ho:PE X o to) (hi:PE X i ti) (hs:aeY X t)
  (ha:∀ v,assign (.Subscript o i pos) X.env v=(do
   let ov <- holding [v] (eval o X.env)
   let iv <- holding [v,ov] (eval i X.env)
   standAt pos
   holding [v,ov,iv] (setItem ov iv v)
   release [v,ov,iv] []):=by intro _; rfl):PG X (.Subscript o i pos) (aa4 to ti t):=by
 intro pins s σ H v u Q I r h
 rw [ha]
 z5 wpAny_bind (wpAny_holding (thn (ho pins s σ H _ I h) fun ov s1 hP=>?_))
 x5⟨x,H1,I1,r1,q1⟩:=hP
 z5 wpAny_bind (wpAny_holding (thn (hi pins s1 σ H1 _ I1 q1) fun iv s2 hP=>?_))
 x5⟨y,H2,I2,r2,q2⟩:=hP
 z5 wpAny_bind (wpAny_standAt (wpAny_bind (wpAny_holding (thn (hs pins s2 σ H2 x y v ov iv u _ I2 r1 r2 r q2) fun _ s3 hP=>?_))))
 x5⟨H3,I3,q3⟩:=hP
 qV wpAny_release ⟨σ,H3,I3,q3⟩
def Gu (te:TE) (g:TG):TS:=fun D σ H=>te σ H fun x H1=>g x σ H1 D.nx
~!uH {tg e:Expr}{te:TE}{g:TG} (he:PE X e te) (hg:PG X tg g) (hs:swapsWithSole [tg] e pos.line X.env=pure false:=by rfl) (hw:swappedStores [tg] e X.env=pure none:=by rfl)
  (h1:(assignEach [tg] X.env).map (·.2)=[assign tg X.env]:=by rfl):PS X (.Assign [tg] e pos) (Gu te g):=by
 intro pins s σ H D I h
 z5 wpAny_Assign_stores (thn (he pins s σ H _ I h) fun v s1 hP=>?_) hs hw
 x5⟨x,H1,I1,r1,q1⟩:=hP
 rw [h1]
 qV thn (hg pins s1 σ H1 x v _ I1 r1 q1) fun _ s2 q=>q
~!cA {i:Nat}{x:Str}{e:Expr}{te:TE}{pos':Pos} (hN:X.N.Nodup) (hi:X.N[i]?=some x) (hx:Loc X.env.scope x) (he:PE X e te) (hs:swapsWith e (some (.Name x pos')) pos.line X.env=pure false:=by rfl) (hf:X.fn x=true\/X.env.scope.names.lookup x=some .local:=by first | qV .inl rfl | qV .inr rfl | assumption) :
  PS X (.Assign [.Name x pos'] e pos) (Gu te (cU i)):=by
 intro pins s σ H D I h
 z5 wpAny_Assign_Name (thn (he pins s σ H _ I h) fun v s1 hP=>?_) hs
 x5⟨y,H1,I1,r1,q1⟩:=hP
 qV uc I1 hN hi hx r1 (fun s2 I2=>⟨_,H1,I2,q1⟩) hf
def aa8 (i j:Nat) (ta:TA):TS:=fun D σ H=>ta σ H fun vs H1=>∃ v w,vs=[v,w]/\D.nx ((σ.set i (some v)).set j (some w)) H1
~!ad3 {i j:Nat}{x y:Str}{a b:Expr}{ta:TA}{px py pt:Pos}{kt k2 pt2} (hc:X.calm=true) (hN:X.N.Nodup) (hi:X.N[i]?=some x) (hj:X.N[j]?=some y) (hij:i≠j)
  (hx:X.env.scope.names.lookup x=some .local) (hy:X.env.scope.names.lookup y=some .local) (ha:PA X [a,b] ta)
  (hw:swappedStores [.Tuple [.Name x px,.Name y py] kt pt] (.Tuple [a,b] k2 pt2) X.env=pure (some [x,y]))
  (hs:swapsWithSole [.Tuple [.Name x px,.Name y py] kt pt] (.Tuple [a,b] k2 pt2) pos.line X.env=pure false:=by rfl) :
  PS X (.Assign [.Tuple [.Name x px,.Name y py] kt pt] (.Tuple [a,b] k2 pt2) pos) (aa8 i j ta):=by
 intro pins s σ H D I h
 rw [exec_Assign_arm]
 z5 wpAny_bind (wpAny_standAt ?_)
 rw [hs]
 z5 wpAny_bind (wpAny_pure ?_)
 rw [if_neg (by decide)]
 z5 wpAny_bind (Tuple_ (thn (ha _ pins s σ H _ I h) fun us s1 hP=>?_))
 x5⟨vs,H1,I1,r1,q1⟩:=hP
 x5⟨v,w,e1,q1⟩:=q1
 subst e1
 obtain ⟨u1,u2,rfl,rv,rw'⟩ : ∃ u1 u2,us=[u1,u2]/\RelV v u1/\RelV w u2:=by
  cases r1 with
  | cons p q =>
   cases q with
   | cons p' q' =>
    cases q'
    qV⟨_,_,rfl,p,p'⟩
 z5 wpAny_newObj_type ?_ (by show 2 <= sizeLine; decide)
 have I2:Inv X pins σ H1 { s1 with heap:=s1.heap.push { cls:=.type "tuple",data:=.seq [u1,u2].toArray } }:=I1.kept (t':=s1.toks) fun b o e=>aH _ e
 rw [hw]
 z5 wpAny_bind (wpAny_pure ?_)
 show wpAny (model X.prog X.w) X.A (do rule "assign.swapped-stores"; let items <- unpackItems (.ref s1.heap.objs.size) 2 none; assignInOrder [fun v=>bindName X.env y v,fun v=>bindName X.env x v] items.reverse; pure Flow.next) _ _ _
 z5 wpAny_bind (wpAny_rule (wpAny_bind (unpackItems_tuple (items:=#[u1,u2]) (I.ok.hd hc) (IsTup.new s1.heap _) fun h' hx'=>?_)))
 have I3:=I2.kept (h':=h') (t':=s1.toks) fun b o e=>hx' b o (aV (aK e)) e
 show wpAny _ _ (assignInOrder [fun v=>bindName X.env y v,fun v=>bindName X.env x v] [u2,u1] >>= fun _=>pure Flow.next) _ _ _
 z5 wpAny_bind (assignInOrder_cons (wpAny_bindName (uc I3 hN hj (.inl hy) rw' (fun s2 I4=>?_) (.inr hy))))
 z5 assignInOrder_cons (wpAny_bindName (uc I4 hN hi (.inl hx) rv (fun s3 I5=>assignInOrder_nil (wpAny_pure ?_)) (.inr hx)))
 rw [List.set_comm _ _ (Ne.symm hij)] at I5
 qV⟨_,H1,I5,q1⟩
end
section
variable {X:Cx}{pos:Pos}
def W_ (c:TT) (tb:TS):TS:=fun D σ H=>∃ W:Nat->St->Hp->Prop,(∃ m,W m σ H)/\∀ m σ H,W m σ H ->
 c σ H fun b H1=>if b=true then ∃ N:St->Hp->Prop,(∀ σ' H',N σ' H'->∃ m',m'<m/\W m' σ' H')/\tb { D with nx:=N,ct:=N,bk:=D.nx } σ H1 else D.nx σ H1
~!Gm {c:Expr}{body:List Stmt}{tc:TT}{tb:TS} (hp:PassesOwn (model X.prog X.w) X.A X.env X.xe) (hc:PT X c tc) (hb:PSs X body tb):PS X (.While c body [] pos) (W_ tc tb):=by
 intro pins s σ H D I h
 x5⟨W,⟨m0,w0⟩,turn⟩:=h
 z5 wpAny_While (codeAny_whileLoop (fun n s'=>∃ σ' H',Inv X pins σ' H' s'/\W n σ' H') ?_ m0 ⟨σ,H,I,w0⟩)
 rintro n s1 ⟨σ1,H1,I1,w1⟩
 z5 wpAny_passesOwn hp (thn (hc pins s1 σ1 H1 _ I1 (turn n σ1 H1 w1)) fun b s2 hP=>?_)
 x5⟨H2,I2,q2⟩:=hP
 cases b with
 | true =>
  x5⟨N,hN,q2⟩:=q2
  rw [if_pos rfl]
  z5 wpAny_passesOwn hp (thn (hb pins s2 σ1 H2 _ I2 q2) fun f s3 q3=>?_)
  cases f with
  | next =>
   x5⟨σ3,H3,I3,n3⟩:=q3
   x5⟨m',hm,w3⟩:=hN σ3 H3 n3
   qV⟨m',hm,σ3,H3,I3,w3⟩
  | cont =>
   x5⟨σ3,H3,I3,n3⟩:=q3
   x5⟨m',hm,w3⟩:=hN σ3 H3 n3
   qV⟨m',hm,σ3,H3,I3,w3⟩
  | brk=>qV q3
  | ret v=>qV q3
 | false =>
  rw [if_neg bF]
  qV wpAny_execs_nil ⟨σ1,H2,I2,q2⟩
end
structure It where
 go:Nat->Hp->Prop
 yld:Nat->Hp->V->Hp->Prop
 stop:Nat->Hp->Prop
def BZ (X:Cx) (pins:List (Addr×Obj)) (H:Hp) (b:Addr):Prop :=
 H b=none/\b≠X.env.locals/\b ∉ X.fs/\(b∈X.ex\/X.s₀.heap.objs.size <= b)/\(∀ x c,X.env.cells.lookup x=some c->c≠b)/\∀ p∈X.pn++pins,p.1≠b
~!Inv.fpOk {X:Cx}{pins:List (Addr×Obj)}{σ:St}{H H':Hp}{s:Shared}{b:Addr} (I:Inv X pins σ H s) (hb:s.heap.objs.size <= b) (hn:H' b=none):BZ X pins H' b:=by
 z5⟨hn,Nat.ne_of_gt (aW I.lt hb),I.nofs hb,.inr (aN I.sz hb),fun x c e z=>?_,fun p hp z=>?_⟩
 .obtain ⟨v,q⟩:=I.cell x c e
  qV absurd (aW q.lt (by rw [z]; qV hb)) (Nat.lt_irrefl _)
 .exact absurd (aW (aK (I.pin p hp).1) (by rw [z]; qV hb)) (Nat.lt_irrefl _)
structure Turn (P:Program) (w:World) (K:Frag) (tg:Expr) (J:It) (fp:List Addr) (it:Addr) (tn:Nat->Heap->Prop):Prop where
 mem:it∈fp
 obj:∀ i h,tn i h->∀ b∈fp,∃ o,h.get? b=some o/\∀ v,o.data≠.cell v
 keep:∀ i h h',tn i h->(∀ b∈fp,∀ o,h.get? b=some o->h'.get? b=some o)->tn i h'
 item:∀ (X:Cx),X.prog=P->X.w=w->X.K=K->X.calm=true->∀ (i:Nat) (pins:List (Addr×Obj)) (s:Shared) (σ:St) (H:Hp) (E:Value->Shared->Prop),Inv X pins σ H s->(∀ b∈fp,BZ X pins H b)->tn i s.heap->J.go i H ->
  wpAny (model P w) X.A (pyNext (.ref it)) (fun r s1=>∃ u,r=some u /\
   wpAny (model P w) X.A (letOwnedTupleGo tg (.ref it) u) (fun _ s2=>∃ x H',Inv X pins σ H' s2/\RelV x u/\J.yld i H x H'/\tn (i+1) s2.heap/\∀ b∈fp,H' b=none) E s1) E s
 done:∀ (X:Cx),X.prog=P->X.w=w->X.K=K->X.calm=true->∀ (i:Nat) (pins:List (Addr×Obj)) (s:Shared) (σ:St) (H:Hp) (E:Value->Shared->Prop),Inv X pins σ H s->(∀ b∈fp,BZ X pins H b)->tn i s.heap->J.stop i H ->
  wpAny (model P w) X.A (pyNext (.ref it)) (fun r s1=>r=none/\Inv X pins σ H s1) E s
 self:∀ (A:Around) (i:Nat) (s:Shared) (Q:Value->Shared->Prop) (E:Value->Shared->Prop),tn i s.heap->Q (.ref it) s->wpAny (model P w) A (pyIter (.ref it)) Q E s
abbrev TI:=St->Hp->(It->Hp->Prop)->Prop
def PIE (X:Cx) (pins:List (Addr×Obj)) (σ:St) (tg:Expr) (R:It->Hp->Prop) (itv:Value) (s2:Shared):Prop :=
 ∃ (it:Addr) (fp:List Addr) (tn:Nat->Heap->Prop) (J:It) (H':Hp),itv=.ref it/\Inv X pins σ H' s2/\Turn X.prog X.w X.K tg J fp it tn/\tn 0 s2.heap/\(∀ b∈fp,BZ X pins H' b)/\R J H'
def PI (X:Cx) (tg iter:Expr) (wi:TI):Prop :=
 ∀ (pins:List (Addr×Obj)) (s:Shared) (σ:St) (H:Hp) (R:It->Hp->Prop),Inv X pins σ H s->wi σ H R ->
  wpAny (model X.prog X.w) X.A (eval iter X.env) (fun v s1=>wpAny (model X.prog X.w) X.A (pyIter v) (PIE X pins σ tg R) X.xe s1) X.xe s
~!Ny {M:Model}{A:Around}{E:Value->Shared->Prop}{s:Shared}{tg:Expr}{it:Addr}{u:Value}{o:Obj}{n:String}{vs:Array Value}{Q:Unit->Shared->Prop} (ho:s.heap.get? it=some o) (hc:o.cls=.type n) (hd:o.data=.fields vs)
    (hn : ["enumerate", "zip", "dict_itemiterator", "dict_reverseitemiterator", "odict_iterator", "itertools.zip_longest", "itertools.pairwise"].contains n=false) (hQ:Q () s):wpAny M A (letOwnedTupleGo tg (.ref it) u) Q E s:=by
  unfold letOwnedTupleGo
  cases tg <;> first
    | qV wpAny_pure hQ
    | (cases u <;> first
        | qV wpAny_pure hQ
        | (z5 wpAny_bind (wpAny_load ho ?_)
           rw [hc,hd]
           show wpAny M A (if (["enumerate", "zip", "dict_itemiterator", "dict_reverseitemiterator", "odict_iterator", "itertools.zip_longest", "itertools.pairwise"].contains n && vs[0]? == some (rawInt _))=true then _ else _) Q E s
           rw [if_neg (by intro h; rw [hn,Bool.false_and] at h; cases h)]
           qV wpAny_pure hQ))
def Itl (K:Frag) (a:Addr):It :=
 ⟨fun i H=>∃ xs x,SqL K H a xs/\xs[i]?=some x,fun i H x H'=>H'=H/\∀ xs,SqL K H a xs->xs[i]?=some x,fun i H=>∃ xs,SqL K H a xs/\xs.length <= i⟩
def Itt (K:Frag) (a:Addr):It :=
 ⟨fun i H=>∃ xs x,SqT K H a xs/\xs[i]?=some x,fun i H x H'=>H'=H/\∀ xs,SqT K H a xs->xs[i]?=some x,fun i H=>∃ xs,SqT K H a xs/\xs.length <= i⟩
def Itr (lo:Int) (n:Nat):It:=⟨fun i _=>i<n,fun i H x H'=>H'=H/\x=.int (lo+i),fun i _=>n <= i⟩
~!UG {P:Program}{w:World}{K:Frag}{tg:Expr} (a it:Addr):Turn P w K tg (Itl K a) [it] it (fun i h=>h.IsListIter it a i) where
 mem:=by simp
 obj:=fun i h st b hb=>by
  have e:b=it:=by simpa using hb
  subst e
  x5⟨o,e,c,d⟩:=st
  qV⟨o,e,fun v z=>by rw [d] at z; cases z⟩
 keep:=fun i h h' st k=>st.at fun o e=>k it (by simp) o e
 item:=by
  intro X hP hw hK hc i pins s σ H E I hf st hg
  subst hP hw hK
  x5⟨xs,x,hq,hx⟩:=hg
  x5⟨its,rv,p,hz⟩:=I.list hq
  x5⟨u,hu,ru⟩:=rv.get hx
  x5⟨f0,f1,f2,f3,f4,f5⟩:=hf it (by simp)
  z5 wpAny_pyNext_list_item st p.isList (x:=u) (by simpa using hu) fun h' st' sb=>?_
  have I1:Inv X pins σ H { s with heap:=h' }:=I.turned (t':=s.toks) (fun b o hb e=>(sb.2 b hb).trans e) f0 f1 f3 f4 f5
  x5⟨o,e,c,d⟩:=id st'
  qV⟨u,rfl,Ny (s:={ s with heap:=h' }) e c d (by decide) ⟨x,H,I1,ru,⟨rfl,fun ys hy=>by rw [I.list_inj hy hq]; qV hx⟩,st',fun b hb=>(hf b hb).1⟩⟩
 done:=by
  intro X hP hw hK hc i pins s σ H E I hf st hg
  subst hP hw hK
  x5⟨xs,hq,hx⟩:=hg
  x5⟨its,rv,p,hz⟩:=I.list hq
  x5⟨f0,f1,f2,f3,f4,f5⟩:=hf it (by simp)
  have hl:=rv.length
  qV wpAny_pyNext_list_end (I.ok.hd hc) st p.isList (by simp; om) fun h' eb=>⟨rfl,I.turned (t':=s.toks) (fun b o hb e=>eb b o hb e) f0 f1 f3 f4 f5⟩
 self:=fun _ _ _ _ _ st h=>wpAny_pyIter_listiter st h
~!QM {P:Program}{w:World}{K:Frag}{tg:Expr} (a it:Addr):Turn P w K tg (Itt K a) [it] it (fun i h=>h.IsTupleIter it a i) where
 mem:=by simp
 obj:=fun i h st b hb=>by
  have e:b=it:=by simpa using hb
  subst e
  x5⟨o,e,c,d⟩:=st
  qV⟨o,e,fun v z=>by rw [d] at z; cases z⟩
 keep:=fun i h h' st k=>st.at fun o e=>k it (by simp) o e
 item:=by
  intro X hP hw hK hc i pins s σ H E I hf st hg
  subst hP hw hK
  x5⟨xs,x,hq,hx⟩:=hg
  x5⟨its,rv,p,hz⟩:=I.tuple hq
  x5⟨u,hu,ru⟩:=rv.get hx
  x5⟨f0,f1,f2,f3,f4,f5⟩:=hf it (by simp)
  z5 wpAny_pyNext_tuple_item st (show s.heap.IsTuple a its.toArray from p) (x:=u) (by simpa using hu) fun h' st' sb=>?_
  have I1:Inv X pins σ H { s with heap:=h' }:=I.turned (t':=s.toks) (fun b o hb e=>(sb.2 b hb).trans e) f0 f1 f3 f4 f5
  x5⟨o,e,c,d⟩:=id st'
  qV⟨u,rfl,Ny (s:={ s with heap:=h' }) e c d (by decide) ⟨x,H,I1,ru,⟨rfl,fun ys hy=>by rw [I.tuple_inj hy hq]; qV hx⟩,st',fun b hb=>(hf b hb).1⟩⟩
 done:=by
  intro X hP hw hK hc i pins s σ H E I hf st hg
  subst hP hw hK
  x5⟨xs,hq,hx⟩:=hg
  x5⟨its,rv,p,hz⟩:=I.tuple hq
  x5⟨f0,f1,f2,f3,f4,f5⟩:=hf it (by simp)
  have hl:=rv.length
  qV wpAny_pyNext_tuple_end (I.ok.hd hc) st (show s.heap.IsTuple a its.toArray from p) (by simp; om) fun h' eb=>⟨rfl,I.turned (t':=s.toks) (fun b o hb e=>eb b o hb e) f0 f1 f3 f4 f5⟩
 self:=fun _ _ _ _ _ st h=>wpAny_pyIter_tupleiter st h
~!QS {P:Program}{w:World}{K:Frag}{tg:Expr} (it:Addr) (lo:Int) (n:Nat):Turn P w K tg (Itr lo n) [it] it (fun i h=>IsRangeIter h it (lo+(i:Nat) * 1) ((n:Int) - (i:Nat)) 1) where
 mem:=by simp
 obj:=fun i h st b hb=>by
  have e:b=it:=by simpa using hb
  subst e
  qV⟨_,st,fun v z=>by
   have z':Data.fields _=Data.cell v:=z
   cases z'⟩
 keep:=fun i h h' st k=>k it (by simp) _ st
 item:=by
  intro X hP hw hK hc i pins s σ H E I hf st hg
  subst hP hw hK
  x5⟨f0,f1,f2,f3,f4,f5⟩:=hf it (by simp)
  have W:=Walks.range (prog:=X.prog) (w:=X.w) (I.ok.hd hc) it lo 1 n
  z5 W.item i s _ _ hg st fun v h' tk hv st' kk=>?_
  x5⟨t,rfl⟩:=hv
  have I1:Inv X pins σ H { s with heap:=h',toks:=tk }:=I.turned (fun b o hb e=>kk b o (by simpa using hb) e) f0 f1 f3 f4 f5
  z5⟨_,rfl,Ny (s:={ s with heap:=h',toks:=tk }) (n := "range_iterator") st' rfl rfl (by decide) ⟨.int (lo+i),H,I1,⟨t,?_⟩,⟨rfl,rfl⟩,st',fun b hb=>(hf b hb).1⟩⟩
  rw [Int.mul_one]
 done:=by
  intro X hP hw hK hc i pins s σ H E I hf st hg
  subst hP hw hK
  x5⟨f0,f1,f2,f3,f4,f5⟩:=hf it (by simp)
  qV wpAny_pyNext_range_end (I.ok.hd hc) st (by have:n <= i:=hg; om) fun h' eb=>⟨rfl,I.turned (t':=s.toks) (fun b o hb e=>eb b o hb e) f0 f1 f3 f4 f5⟩
 self:=fun _ _ _ _ _ st h=>wpAny_pyIter_rangeiter st h
section
variable {X:Cx}{tg:Expr}
def Eo (K:Frag) (tl:TE):TI:=fun σ H R=>tl σ H fun x H1=>∃ a,x=.ref a/\(∃ xs,SqL K H1 a xs)/\R (Itl K a) H1
def afl (K:Frag) (tl:TE):TI:=fun σ H R=>tl σ H fun x H1=>∃ a,x=.ref a/\(∃ xs,SqT K H1 a xs)/\R (Itt K a) H1
~!cV {l:Expr}{tl:TE} (hl:PE X l tl):PI X tg l (Eo X.K tl):=by
 intro pins s σ H R I h
 z5 thn (hl pins s σ H _ I h) fun v s1 hP=>?_
 x5⟨x,H1,I1,r1,q1⟩:=hP
 x5⟨a,e,⟨xs,hq⟩,q⟩:=q1
 subst e
 cases r1
 x5⟨its,rv,p,hz⟩:=I1.list hq
 z5 wpAny_pyIter_list p.isList ?_
 z5⟨s1.heap.objs.size,[s1.heap.objs.size],_,_,H1,rfl,I1.kept (t':=s1.toks) fun b o e=>aH _ e,UG a _,⟨_,bh _ rfl,rfl,rfl⟩,fun b hb=>?_,q⟩
 have e:b=s1.heap.objs.size:=by simpa using hb
 subst e
 qV I1.fpOk (aG _) (I1.hok.fresh (aG _))
~!acG {l:Expr}{tl:TE} (hl:PE X l tl):PI X tg l (afl X.K tl):=by
 intro pins s σ H R I h
 z5 thn (hl pins s σ H _ I h) fun v s1 hP=>?_
 x5⟨x,H1,I1,r1,q1⟩:=hP
 x5⟨a,e,⟨xs,hq⟩,q⟩:=q1
 subst e
 cases r1
 x5⟨its,rv,p,hz⟩:=I1.tuple hq
 z5 wpAny_pyIter_tuple (show s1.heap.IsTuple a its.toArray from p) ?_
 z5⟨s1.heap.objs.size,[s1.heap.objs.size],_,_,H1,rfl,I1.kept (t':=s1.toks) fun b o e=>aH _ e,QM a _,⟨_,bh _ rfl,rfl,rfl⟩,fun b hb=>?_,q⟩
 have e:b=s1.heap.objs.size:=by simpa using hb
 subst e
 qV I1.fpOk (aG _) (I1.hok.fresh (aG _))
~!XJ {pins:List (Addr×Obj)}{σ:St}{H:Hp}{s:Shared}{R:It->Hp->Prop}{E:Value->Shared->Prop}{lo hi:Int}{t u v:Tok}{tk:Nat} (I:Inv X pins σ H s) (h1 : -(2 ^ 62) <= lo) (h2:lo<2 ^ 62) (h3 : -(2 ^ 62) <= hi) (h4:hi<2 ^ 62)
  (q:R (Itr lo (hi - lo).toNat) H):wpAny (model X.prog X.w) X.A (pyIter (.ref s.heap.objs.size)) (PIE X pins σ tg R) E { s with heap:=s.heap.push { cls:=.type "range",data:=.fields #[.int lo t,.int hi u,.int 1 v] },toks:=tk }:=by
 z5 wpAny_pyIter_range (IsRange.new ..) (small_one h1 h2 h3 h4) ?_
 have I1:Inv X pins σ H { s with heap:=s.heap.push { cls:=.type "range",data:=.fields #[.int lo t,.int hi u,.int 1 v] },toks:=tk }:=I.kept fun b o e=>aH _ e
 z5⟨(s.heap.push { cls:=.type "range",data:=.fields #[.int lo t,.int hi u,.int 1 v] }).objs.size,[(s.heap.push { cls:=.type "range",data:=.fields #[.int lo t,.int hi u,.int 1 v] }).objs.size],_,_,H,rfl,
  I1.kept (t':=tk) fun b o e=>aH _ e,QS _ lo (hi - lo).toNat,?_,fun b hb=>?_,q⟩
 .have e1:lo+((0:Nat):Int) * 1=lo:=by simp
  have e2:(((hi - lo).toNat:Nat):Int) - ((0:Nat):Int)=Builtin.Range.rangeSize lo hi 1:=by rw [rangeSize_one]; split <;> om
  show IsRangeIter _ _ (lo+((0:Nat):Int) * 1) ((((hi - lo).toNat:Nat):Int) - ((0:Nat):Int)) 1
  rw [e1,e2]
  qV bh _ rfl
 .have e:b=(s.heap.push { cls:=.type "range",data:=.fields #[.int lo t,.int hi u,.int 1 v] }).objs.size:=by simpa using hb
  subst e
  qV I1.fpOk (aG _) (I1.hok.fresh (aG _))
def RT (ta:TA):TI:=fun σ H R=>ta σ H fun vs H1=>∃ j:Int,vs=[.int j]/\-(2 ^ 62) <= j/\j<2 ^ 62/\R (Itr 0 j.toNat) H1
~!lC {a:Expr}{ta:TA}{p pos:Pos} (hg:Gl X "range") (hm:X.mg "range" = none) (ha:PA X [a] ta) (hs:starEach [a] X.env=[(false,eval a X.env)]:=by rfl):PI X tg (.Call (.Name "range" p) [a] [] pos) (RT ta):=by
 intro pins s σ H R I h
 z5 Call_ (Al I hg hm boot_range (PyProof.Rows.callWith_type1 (thn (ha pos pins s σ H _ I h) fun us s1 hP=>?_) hs rfl))
 x5⟨vs,H1,I1,r1,q1⟩:=hP
 x5⟨j,e,q1,q2,q⟩:=q1
 subst e
 cases r1 with
 | cons r rr =>
  cases rr
  x5⟨t,rfl⟩:=r
  qV call_range_1 (XJ I1 (by om) (by om) q1 q2 (by simpa using q))
def MN (wi:TI) (g:TG) (tb:TS):TS:=fun D σ H=>wi σ H fun J H1=>∃ W:Nat->Nat->St->Hp->Prop,(∃ m,W 0 m σ H1)/\∀ i m σ H,W i m σ H ->
 (J.stop i H/\D.nx σ H)\/(J.go i H/\∃ N:St->Hp->Prop,(∀ σ' H',N σ' H'->∃ m',m'<m/\W (i+1) m' σ' H')/\∀ x H',J.yld i H x H'->g x σ H' fun σ2 H2=>tb { D with nx:=N,ct:=N,bk:=D.nx } σ2 H2)
def Em (fp:List Addr) (h:Heap):List (Addr×Obj):=fp.filterMap fun b=>(h.get? b).map fun o=>(b,o)
~!pR {fp:List Addr}{h:Heap}{b:Addr}{o:Obj} (hb:b∈fp) (e:h.get? b=some o):(b,o)∈Em fp h:=List.mem_filterMap.mpr ⟨b,hb,by rw [e]; rfl⟩
~!Uy {fp:List Addr}{h:Heap}{p:Addr×Obj} (hp:p∈Em fp h):p.1∈fp/\h.get? p.1=some p.2:=by
 x5⟨b,hb,e⟩:=List.mem_filterMap.mp hp
 cases q:h.get? b with
 | none=>rw [q] at e; cases e
 | some o =>
  rw [q] at e
  have e':(b,o)=p:=Option.some.inj e
  subst e'
  qV⟨hb,q⟩
~!Inv.pinned {pins:List (Addr×Obj)}{σ:St}{H:Hp}{s:Shared}{fp:List Addr} (I:Inv X pins σ H s) (hf:∀ b∈fp,BZ X pins H b) (ho:∀ b∈fp,∃ o,s.heap.get? b=some o/\∀ v,o.data≠.cell v):Inv X (pins++Em fp s.heap) σ H s :=
 I.pins_of fun p hp=>(List.mem_append.mp hp).elim (fun z=>I.pin p (aU _ z)) fun z=>by
  x5⟨hb,e⟩:=Uy z
  x5⟨f0,f1,f2,_⟩:=hf p.1 hb
  x5⟨o,e',d⟩:=ho p.1 hb
  rw [e] at e'; cases e'
  qV⟨e,f0,f1,f2,d⟩
~!Inv.unpinned {pins pl:List (Addr×Obj)}{σ:St}{H:Hp}{s:Shared} (I:Inv X (pins++pl) σ H s):Inv X pins σ H s:=I.pins_of fun p hp=>I.pin p (aU _ (List.mem_append_left _ hp))
~!iD {iter:Expr}{body:List Stmt}{wi:TI}{g:TG}{tb:TS}{pos:Pos} (hp:PassesOwn (model X.prog X.w) X.A X.env X.xe) (hc:X.calm=true) (hi:PI X tg iter wi) (hg:PG X tg g) (hb:PSs X body tb)
  (hs:∀ x,foldedSetIterable iter X.env x=pure x:=by intro _; rfl):PS X (.For tg iter body [] pos) (MN wi g tb):=by
 intro pins s σ H D I h
 z5 wpAny_For (thn (hi pins s σ H _ I h) fun v s1 h1=>thn h1 fun itv s2 h2=>?_) hs
 x5⟨it,fp,tn,J,H2,e,I2,T,st2,f2,W,⟨m0,w0⟩,turn⟩:=h2
 subst e
 -- what stays true of the iterator's objects through the loop
 have stat:∀ {H':Hp},(∀ b∈fp,H' b=none)->∀ b∈fp,BZ X pins H' b:=fun hn b hb=>⟨hn b hb,(f2 b hb).2⟩
 z5 codeAny_forLoop_any (fun n s'=>∃ i σ' H',Inv X pins σ' H' s'/\tn i s'.heap/\(∀ b∈fp,H' b=none)/\W i n σ' H') ?_ m0 ⟨0,σ,H2,I2,st2,fun b hb=>(f2 b hb).1,w0⟩
 rintro n s3 ⟨i,σ3,H3,I3,st3,fr3,w3⟩
 rcases turn i n σ3 H3 w3 with ⟨stop,qn⟩ | ⟨go,N,hN,step⟩
 .refine wpAny_passesOwn hp (thn (T.done X rfl rfl rfl hc i pins s3 σ3 H3 X.xe I3 (stat fr3) st3 stop) fun r s4 hP=>?_)
  x5⟨hr,I4⟩:=hP
  subst hr
  qV wpAny_execs_nil ⟨σ3,H3,I4,qn⟩
 .refine wpAny_passesOwn hp (thn (T.item X rfl rfl rfl hc i pins s3 σ3 H3 X.xe I3 (stat fr3) st3 go) fun r s4 hP=>?_)
  x5⟨u,hr,h4⟩:=hP
  subst hr
  z5 wpAny_passesOwn hp (thn h4 fun _ s5 hP=>?_)
  x5⟨x,H5,I5,r5,y5,st5,fr5⟩:=hP
  have I5':=I5.pinned (stat fr5) (T.obj _ _ st5)
  z5 wpAny_passesOwn hp (thn (hg _ s5 σ3 H5 x u _ I5' r5 (step x H5 y5)) fun _ s6 hP=>?_)
  x5⟨σ6,H6,I6,q6⟩:=hP
  z5 wpAny_passesOwn hp (thn (hb _ s6 σ6 H6 _ I6 q6) fun f s7 q7=>?_)
  have again:∀ {σ7:St}{H7:Hp},Inv X (pins++Em fp s5.heap) σ7 H7 s7->N σ7 H7->∃ m,m<n/\∃ i σ' H',Inv X pins σ' H' s7/\tn i s7.heap/\(∀ b∈fp,H' b=none)/\W i m σ' H':=fun {σ7 H7} I7 n7=>by
   x5⟨m',hm,w7⟩:=hN σ7 H7 n7
   z5⟨m',hm,i+1,σ7,H7,I7.unpinned,T.keep _ _ _ st5 fun b hb o e=>(I7.pin (b,o) (aU _ (aU _ (pR hb e)))).1,fun b hb=>?_,w7⟩
   x5⟨o,e,d⟩:=T.obj _ _ st5 b hb
   qV(I7.pin (b,o) (aU _ (aU _ (pR hb e)))).2.1
  cases f with
  | next=>x5⟨σ7,H7,I7,n7⟩:=q7; qV again I7 n7
  | cont=>x5⟨σ7,H7,I7,n7⟩:=q7; qV again I7 n7
  | brk=>x5⟨σ7,H7,I7,q7⟩:=q7; qV⟨σ7,H7,I7.unpinned,q7⟩
  | ret v=>x5⟨x7,σ7,H7,I7,r7,q7⟩:=q7; qV⟨x7,σ7,H7,I7.unpinned,r7,q7⟩
end
~!Nv {c:TT}{tb:TS}{D:Ends}{σ:St}{H:Hp} (Pv:St->Hp->Prop) (μ:St->Hp->Nat) (h0:Pv σ H)
  (hs:∀ σ H,Pv σ H->c σ H fun b H1=>if b=true then tb { D with nx:=fun σ' H'=>Pv σ' H'/\μ σ' H'<μ σ H,ct:=fun σ' H'=>Pv σ' H'/\μ σ' H'<μ σ H,bk:=D.nx } σ H1 else D.nx σ H1)
  (mono:∀ σ H Q Q',(∀ b H1,Q b H1->Q' b H1)->c σ H Q->c σ H Q'):W_ c tb D σ H:=by
 z5⟨fun m σ H=>m=μ σ H/\Pv σ H,⟨_,rfl,h0⟩,?_⟩
 rintro m σ H ⟨rfl,p⟩
 z5 mono σ H _ _ (fun b H1 q=>?_) (hs σ H p)
 cases b with
 | true=>qV⟨_,fun σ' H' hP=>by x5⟨p',l⟩:=hP; qV⟨_,l,rfl,p'⟩,q⟩
 | false=>qV q
abbrev R2:=V->V->Hp->VK->Prop
def OpR (X:Cx) (f:Value->Value->Sem Value) (r:R2):Prop :=
 ∀ (pins:List (Addr×Obj)) (s:Shared) (σ:St) (H:Hp) (x y:V) (v u:Value) (Q:VK),Inv X pins σ H s->RelV x v->RelV y u->r x y H Q ->
  wpAny (model X.prog X.w) X.A (f v u) (EP X pins σ Q) X.xe s
def UnR (X:Cx) (f:Value->Sem Value) (r:V->Hp->VK->Prop):Prop :=
 ∀ (pins:List (Addr×Obj)) (s:Shared) (σ:St) (H:Hp) (x:V) (v:Value) (Q:VK),Inv X pins σ H s->RelV x v->r x H Q ->
  wpAny (model X.prog X.w) X.A (f v) (EP X pins σ Q) X.xe s
def h_ (X:Cx) (f:Value) (r:List V->Hp->VK->Prop):Prop :=
 ∀ (pins:List (Addr×Obj)) (s:Shared) (σ:St) (H:Hp) (xs:List V) (us:List Value) (Q:VK),Inv X pins σ H s->Vals xs us->r xs H Q ->
  wpAny (model X.prog X.w) X.A (call f us) (EP X pins σ Q) X.xe s
def ahm (X:Cx) (r:V->Hp->(Bool->Hp->Prop)->Prop):Prop :=
 ∀ (pins:List (Addr×Obj)) (s:Shared) (σ:St) (H:Hp) (x:V) (v:Value) (Q:Bool->Hp->Prop),Inv X pins σ H s->RelV x v->r x H Q ->
  wpAny (model X.prog X.w) X.A (truthy v) (TP X pins σ Q) X.xe s
def tOp (r:R2) (ta tb:TE):TE:=fun σ H Q=>ta σ H fun x H1=>tb σ H1 fun y H2=>r x y H2 Q
def tUn (r:V->Hp->VK->Prop) (ta:TE):TE:=fun σ H Q=>ta σ H fun x H1=>r x H1 Q
def rI (C:Int->Int->Prop) (g:Int->Int->V):R2:=fun x y H Q=>∃ i j,x=.int i/\y=.int j/\C i j/\Q (g i j) H
def rI0 (g:Int->Int->V):R2:=fun x y H Q=>∃ i j,x=.int i/\y=.int j/\Q (g i j) H
def rU (g:Int->V):V->Hp->VK->Prop:=fun x H Q=>∃ i,x=.int i/\Q (g i) H
section
variable {X:Cx}{a b c:Expr}{ta tb tc:TE}{pos:Pos}
~!ac5 (ha:PE X a ta) (hb:PE X b tb) {pins:List (Addr×Obj)}{s:Shared}{σ:St}{H:Hp}{R:V->V->Hp->Prop} (I:Inv X pins σ H s)
  (h:ta σ H fun x H1=>tb σ H1 fun y H2=>R x y H2) {Q:Value->Shared->Prop}{f:Value->Value->Sem Value}
  (hf:∀ v u s2 x y H2,Inv X pins σ H2 s2->RelV x v->RelV y u->R x y H2->wpAny (model X.prog X.w) X.A (f v u) Q X.xe s2) :
  wpAny (model X.prog X.w) X.A (eval a X.env) (fun v s₁=>wpAny (model X.prog X.w) X.A (eval b X.env) (fun u s₂=>wpAny (model X.prog X.w) X.A (f v u) Q X.xe s₂) X.xe s₁) X.xe s:=by
 z5 thn (ha pins s σ H _ I h) fun v s1 hP=>?_
 x5⟨x,H1,I1,r1,q1⟩:=hP
 z5 thn (hb pins s1 σ H1 _ I1 q1) fun u s2 hP=>?_
 x5⟨y,H2,I2,r2,q2⟩:=hP
 qV hf v u s2 x y H2 I2 r1 r2 q2
~!bV {op:Operator}{r:R2} (ho:OpR X (binaryOp op) r) (ha:PE X a ta) (hb:PE X b tb):PE X (.BinOp a op b pos) (tOp r ta tb):=by
 intro pins s σ H Q I h
 qV wpAny_BinOp (ac5 ha hb I h fun v u s2 x y H2 I2 rx ry q=>ho pins s2 σ H2 x y v u Q I2 rx ry q)
~!FJ {op:UnaryOp}{r:V->Hp->VK->Prop} (ho:UnR X (unaryOp op) r) (ha:PE X a ta):PE X (.UnaryOp op a pos) (tUn r ta):=by
 intro pins s σ H Q I h
 qV UnaryOp_ (thn (ha pins s σ H _ I h) fun v s1 hP=>by x5⟨x,H1,I1,r1,q1⟩:=hP; qV ho pins s1 σ H1 x v Q I1 r1 q1)
~!opI {f:Value->Value->Sem Value}{C:Int->Int->Prop}{g:Int->Int->Int}
  (rule:∀ (i j:Int) (t u:Tok) (s:Shared) (Q:Value->Shared->Prop) (E:Value->Shared->Prop),C i j->Q (.int (g i j) s.toks) { s with toks:=s.toks+1 }->wpAny (model X.prog X.w) X.A (f (.int i t) (.int j u)) Q E s) :
  OpR X f (rI C fun i j=>.int (g i j)):=by
 intro pins s σ H x y v u Q I rx ry h
 x5⟨i,j,rfl,rfl,hc,q⟩:=h
 x5⟨t,rfl⟩:=rx
 x5⟨t',rfl⟩:=ry
 qV rule i j t t' s _ _ hc ⟨.int (g i j),H,I.tok _,⟨_,rfl⟩,q⟩
~!agB {f:Value->Value->Sem Value}{g:Int->Int->Int}
  (rule:∀ (i j:Int) (t u:Tok) (s:Shared) (Q:Value->Shared->Prop) (E:Value->Shared->Prop),Q (.int (g i j) s.toks) { s with toks:=s.toks+1 }->wpAny (model X.prog X.w) X.A (f (.int i t) (.int j u)) Q E s) :
  OpR X f (rI0 fun i j=>.int (g i j)):=by
 intro pins s σ H x y v u Q I rx ry h
 x5⟨i,j,rfl,rfl,q⟩:=h
 x5⟨t,rfl⟩:=rx
 x5⟨t',rfl⟩:=ry
 qV rule i j t t' s _ _ ⟨.int (g i j),H,I.tok _,⟨_,rfl⟩,q⟩
~!ab2 {f:Value->Value->Sem Value}{g:Int->Int->Bool}
  (rule:∀ (i j:Int) (t u:Tok) (s:Shared) (Q:Value->Shared->Prop) (E:Value->Shared->Prop),Q (.bool (g i j)) s->wpAny (model X.prog X.w) X.A (f (.int i t) (.int j u)) Q E s) :
  OpR X f (rI0 fun i j=>.bl (g i j)):=by
 intro pins s σ H x y v u Q I rx ry h
 x5⟨i,j,rfl,rfl,q⟩:=h
 x5⟨t,rfl⟩:=rx
 x5⟨t',rfl⟩:=ry
 qV rule i j t t' s _ _ ⟨.bl (g i j),H,I,rfl,q⟩
def agl (i j:Int):Prop:=0 <= j/\j <= 1000000/\i.natAbs<2 ^ 64
def acF (i j:Int):Prop:=(-(2 ^ 64)<i/\i<2 ^ 64)\/(-(2 ^ 64)<j/\j<2 ^ 64)
~!acF.ok {i j:Int} (h:acF i j):IntMulOk i j:=by
 rcases h with ⟨h1,h2⟩ | ⟨h1,h2⟩
 .exact .of_left (intBits_le_64 h1 h2)
 .exact .of_right (intBits_le_64 h1 h2)
~!dj:OpR X (binaryOp .Add) (rI0 fun i j=>.int (i+j)):=agB fun _ _ _ _ _ _ _ q=>add_int q
~!ur:OpR X (binaryOp .Sub) (rI0 fun i j=>.int (i - j)):=agB fun _ _ _ _ _ _ _ q=>sub_int q
~!PL:OpR X (binaryOp .Mult) (rI acF fun i j=>.int (i * j)):=opI fun _ _ _ _ _ _ _ hc q=>mul_int q hc.ok
~!cR:OpR X (binaryOp .Mod) (rI (fun _ j=>0<j) fun i j=>.int (i % j)):=opI fun i j _ _ _ _ _ hc q=>by
 have h1:(0:Int)<j:=hc
 qV mod_int' (by om) (by rw [aZ i (by om)]; qV q)
~!mL:OpR X (binaryOp .Mod) (rI (fun _ j=>j≠0) fun i j=>.int (i.fmod j)):=opI fun _ _ _ _ _ _ _ hc q=>mod_int' hc q
~!Eb:OpR X (binaryOp .Pow) (rI agl fun i j=>.int (i ^ j.toNat)):=opI fun _ _ _ _ _ _ _ hc q=>pow_int_small hc.1 hc.2.1 hc.2.2 q
~!unI {f:Value->Sem Value}{g:Int->Int}
  (rule:∀ (i:Int) (t:Tok) (s:Shared) (Q:Value->Shared->Prop) (E:Value->Shared->Prop),Q (.int (g i) s.toks) { s with toks:=s.toks+1 }->wpAny (model X.prog X.w) X.A (f (.int i t)) Q E s) :
  UnR X f (rU fun i=>.int (g i)):=by
 intro pins s σ H x v Q I rx h
 x5⟨i,rfl,q⟩:=h
 x5⟨t,rfl⟩:=rx
 qV rule i t s _ _ ⟨.int (g i),H,I.tok _,⟨_,rfl⟩,q⟩
~!xQ:UnR X (unaryOp .USub) (rU fun i=>.int (-i)):=unI fun _ _ _ _ _ q=>neg_int q
end
def Uq:V->V->Bool
 | .non,.non=>true | .non,.int _=>true | .int _,.non=>true | .non,.bl _=>true | .bl _,.non=>true | .non,.str _=>true | .str _,.non=>true
 | .int _,.int _=>true | .bl _,.bl _=>true | .str _,.str _=>true | .byt _,.byt _=>true
 | .int _,.str _=>true | .str _,.int _=>true | .bl _,.str _=>true | .str _,.bl _=>true
 | _,_=>false
def rEq:R2:=fun x y H Q=>Uq x y=true/\Q (.bl (decide (x=y))) H
def rNe:R2:=fun x y H Q=>Uq x y=true/\Q (.bl (!decide (x=y))) H
~!Tj {i j:Int} : decide (V.int i=V.int j)=(i == j):=by
 rw [Bool.eq_iff_iff]
 simp
~!Zd {i j:Bool} : decide (V.bl i=V.bl j)=(i == j):=by
 rw [Bool.eq_iff_iff]
 simp
~!Uk {i j:Str} : decide (V.str i=V.str j)=(i == j):=by
 rw [Bool.eq_iff_iff]
 simp
~!RV {i j:Array UInt8} : decide (V.byt i=V.byt j)=(i.toList == j.toList):=by
 rw [Bool.eq_iff_iff]
 cases i
 cases j
 simp
section
variable {X:Cx}{a b c:Expr}{ta tb tc:TE}{pos:Pos}
~!dM {pins:List (Addr×Obj)}{σ:St}{H:Hp}{s:Shared}{Q:VK}{k k':Bool} (I:Inv X pins σ H s) (q:Q (.bl k) H) (e:k=k'):EP X pins σ Q (.bool k') s:=by
 subst e
 qV⟨.bl k,H,I,rfl,q⟩
~!n8:OpR X (compareOp .Eq) rEq:=by
 intro pins s σ H x y v u Q I rx ry h
 x5⟨hs,q⟩:=h
 cases x with
 | non =>
  cases rx
  cases y with
  | non=>cases ry; qV PySem.EqNone.eq_none_none (dM I q (by simp))
  | bl j=>cases ry; qV PySem.EqNone.eq_none_bool (dM I q (by simp))
  | int j=>x5⟨t',rfl⟩:=ry; qV PySem.EqNone.eq_none_int (dM I q (by simp))
  | str j=>x5⟨t',rfl⟩:=ry; qV PySem.EqNone.eq_none_str (dM I q (by simp))
  | _=>qV absurd (show false=true from hs) bF
 | bl i =>
  cases rx
  cases y with
  | non=>cases ry; qV PySem.EqNone.eq_bool_none (dM I q (by simp))
  | bl j=>cases ry; qV eq_bool (dM I q Zd)
  | str j=>x5⟨t',rfl⟩:=ry; qV PySem.EqMixed.eq_bool_str (dM I q (by simp))
  | _=>qV absurd (show false=true from hs) bF
 | int i =>
  x5⟨t,rfl⟩:=rx
  cases y with
  | non=>cases ry; qV PySem.EqNone.eq_int_none (dM I q (by simp))
  | int j=>x5⟨t',rfl⟩:=ry; qV eq_int (dM I q Tj)
  | str j=>x5⟨t',rfl⟩:=ry; qV PySem.EqMixed.eq_int_str (dM I q (by simp))
  | _=>qV absurd (show false=true from hs) bF
 | str i =>
  x5⟨t,rfl⟩:=rx
  cases y with
  | non=>cases ry; qV PySem.EqNone.eq_str_none (dM I q (by simp))
  | bl j=>cases ry; qV PySem.EqMixed.eq_str_bool (dM I q (by simp))
  | int j=>x5⟨t',rfl⟩:=ry; qV PySem.EqMixed.eq_str_int (dM I q (by simp))
  | str j=>x5⟨t',rfl⟩:=ry; qV eq_str (dM I q Uk)
  | _=>qV absurd (show false=true from hs) bF
 | byt i =>
  x5⟨t,rfl⟩:=rx
  cases y with
  | byt j=>x5⟨t',rfl⟩:=ry; qV PySem.W.eq_bytes (dM I q RV)
  | _=>qV absurd (show false=true from hs) bF
 | _=>cases y <;> qV absurd (show false=true from hs) bF
~!Br:OpR X (compareOp .NotEq) rNe:=by
 intro pins s σ H x y v u Q I rx ry h
 x5⟨hs,q⟩:=h
 cases x with
 | non =>
  cases rx
  cases y with
  | non=>cases ry; qV PySem.EqNone.ne_none_none (dM I q (by simp))
  | bl j=>cases ry; qV PySem.EqNone.ne_none_bool (dM I q (by simp))
  | int j=>x5⟨t',rfl⟩:=ry; qV PySem.EqNone.ne_none_int (dM I q (by simp))
  | str j=>x5⟨t',rfl⟩:=ry; qV PySem.EqNone.ne_none_str (dM I q (by simp))
  | _=>qV absurd (show false=true from hs) bF
 | bl i =>
  cases rx
  cases y with
  | non=>cases ry; qV PySem.EqNone.ne_bool_none (dM I q (by simp))
  | bl j=>cases ry; qV ne_bool (dM I q (congrArg not Zd))
  | str j=>x5⟨t',rfl⟩:=ry; qV PySem.EqMixed.ne_bool_str (dM I q (by simp))
  | _=>qV absurd (show false=true from hs) bF
 | int i =>
  x5⟨t,rfl⟩:=rx
  cases y with
  | non=>cases ry; qV PySem.EqNone.ne_int_none (dM I q (by simp))
  | int j=>x5⟨t',rfl⟩:=ry; qV ne_int (dM I q (congrArg not Tj))
  | str j=>x5⟨t',rfl⟩:=ry; qV PySem.EqMixed.ne_int_str (dM I q (by simp))
  | _=>qV absurd (show false=true from hs) bF
 | str i =>
  x5⟨t,rfl⟩:=rx
  cases y with
  | non=>cases ry; qV PySem.EqNone.ne_str_none (dM I q (by simp))
  | bl j=>cases ry; qV PySem.EqMixed.ne_str_bool (dM I q (by simp))
  | int j=>x5⟨t',rfl⟩:=ry; qV PySem.EqMixed.ne_str_int (dM I q (by simp))
  | str j=>x5⟨t',rfl⟩:=ry; qV ne_str (dM I q (congrArg not Uk))
  | _=>qV absurd (show false=true from hs) bF
 | byt i =>
  x5⟨t,rfl⟩:=rx
  cases y with
  | byt j=>x5⟨t',rfl⟩:=ry; qV PySem.W.ne_bytes (dM I q (congrArg not RV))
  | _=>qV absurd (show false=true from hs) bF
 | _=>cases y <;> qV absurd (show false=true from hs) bF
~!yE:OpR X (compareOp .Lt) (rI0 fun i j=>.bl (decide (i<j))):=ab2 fun _ _ _ _ _ _ _ q=>lt_int q
~!BW:OpR X (compareOp .LtE) (rI0 fun i j=>.bl (decide (i <= j))):=ab2 fun _ _ _ _ _ _ _ q=>le_int q
~!Ir:OpR X (compareOp .Gt) (rI0 fun i j=>.bl (decide (j<i))):=ab2 fun _ _ _ _ _ _ _ q=>gt_int q
~!acn:OpR X (compareOp .GtE) (rI0 fun i j=>.bl (decide (j <= i))):=ab2 fun _ _ _ _ _ _ _ q=>ge_int q
~!Xm:OpR X (compareOp .Is) (fun x y H Q=>y=.non/\Q (.bl (decide (x=.non))) H):=by
 intro pins s σ H x y v u Q I rx ry h
 x5⟨rfl,q⟩:=h
 cases ry
 z5 is_none_gen (dM I q ?_)
 cases x <;> first
  | (cases rx; rfl)
  | (x5⟨t,rfl⟩:=rx; rfl)
~!cM (b:Expr) {op:CmpOp} (h:op≠.In:=by decide) (h2:op≠.NotIn:=by decide):behindInMarks op b=false:=by
 have e1:(op == CmpOp.In)=false:=by cases op <;> first | rfl | qV absurd rfl h
 have e2:(op == CmpOp.NotIn)=false:=by cases op <;> first | rfl | qV absurd rfl h2
 cases b <;> simp [behindInMarks,e1,e2]
~!lQ {op:CmpOp}{r:R2} (ho:OpR X (compareOp op) r) (ha:PE X a ta) (hb:PE X b tb) (hm:behindInMarks op b=false):PE X (.Compare a [op] [b] pos) (tOp r ta tb):=by
 intro pins s σ H Q I h
 qV wpAny_Compare1 (ac5 ha hb I h fun v u s2 x y H2 I2 rx ry q=>ho pins s2 σ H2 x y v u Q I2 rx ry q) hm
def zH (t:TE):TT:=fun σ H Q=>t σ H fun x H'=>∃ k,x=.bl k/\Q k H'
~!cL {op:CmpOp}{r:R2} (ho:OpR X (compareOp op) r) (ha:PE X a ta) (hb:PE X b tb) (hm:behindInMarks op b=false):PT X (.Compare a [op] [b] pos) (zH (tOp r ta tb)):=by
 intro pins s σ H Q I h
 z5 wpAny_isTrue_Compare1 (thn (ha pins s σ H _ I h) fun v s1 ⟨x,H1,I1,r1,q1⟩=>thn (hb pins s1 σ H1 _ I1 q1) fun u s2 ⟨y,H2,I2,r2,q2⟩ =>
  thn (ho pins s2 σ H2 x y v u _ I2 r1 r2 q2) fun c s3 ⟨z,H3,I3,r3,k,e,q3⟩=>?_) hm
 subst e
 cases r3
 qV wpAny_truthy_bool ⟨H3,I3,q3⟩
def Dq (r r':R2) (ta tb tc:TE):TE:=fun σ H Q=>ta σ H fun x H1=>tb σ H1 fun y H2=>r x y H2 fun z H3=>∃ k,z=.bl k /\
 (if k=true then tc σ H3 fun w' H4=>r' y w' H4 Q else Q (.bl false) H3)
~!Xb {op op':CmpOp}{r r':R2} (ho:OpR X (compareOp op) r) (ho':OpR X (compareOp op') r') (ha:PE X a ta) (hb:PE X b tb) (hc:PE X c tc)
  (hm:lastMarks [op,op'] [b,c]=false:=by with_unfolding_all rfl):PE X (.Compare a [op,op'] [b,c] pos) (Dq r r' ta tb tc):=by
 intro pins s σ H Q I h
 z5 Compare_chain (thn (ha pins s σ H _ I h) fun v s1 ⟨x,H1,I1,r1,q1⟩=>chain_link (thn (hb pins s1 σ H1 _ I1 q1) fun u s2 ⟨y,H2,I2,r2,q2⟩ =>
  thn (ho pins s2 σ H2 x y v u _ I2 r1 r2 q2) fun d s3 ⟨z,H3,I3,r3,k,e,q3⟩=>?_)) hm
 subst e
 cases r3
 z5 wpAny_truthy_bool ?_
 cases k with
 | false=>qV ite_ff ⟨.bl false,H3,I3,rfl,q3⟩
 | true=>qV ite_tt (chain_last (thn (hc pins s3 σ H3 _ I3 q3) fun w' s4 hP=>by x5⟨z',H4,I4,r4,q4⟩:=hP; qV ho' pins s4 σ H4 y z' u w' Q I4 r2 r4 q4))
~!yL {op op':CmpOp}{r r':R2} (ho:OpR X (compareOp op) r) (ho':OpR X (compareOp op') r') (ha:PE X a ta) (hb:PE X b tb) (hc:PE X c tc)
  (hm:lastMarks [op,op'] [b,c]=false:=by with_unfolding_all rfl):PT X (.Compare a [op,op'] [b,c] pos) (zH (Dq r r' ta tb tc)):=by
 intro pins s σ H Q I h
 z5 isTrue_chain (thn (ha pins s σ H _ I h) fun v s1 ⟨x,H1,I1,r1,q1⟩=>test_link (thn (hb pins s1 σ H1 _ I1 q1) fun u s2 ⟨y,H2,I2,r2,q2⟩ =>
  thn (ho pins s2 σ H2 x y v u _ I2 r1 r2 q2) fun d s3 ⟨z,H3,I3,r3,k,e,q3⟩=>?_)) hm
 subst e
 cases r3
 z5 wpAny_truthy_bool ?_
 cases k with
 | false =>
  x5⟨k',e',q'⟩:=q3
  cases e'
  qV ite_ff ⟨H3,I3,q'⟩
 | true =>
  z5 ite_tt (test_last (thn (hc pins s3 σ H3 _ I3 q3) fun w' s4 ⟨z',H4,I4,r4,q4⟩=>thn (ho' pins s4 σ H4 y z' u w' _ I4 r2 r4 q4) fun d' s5 hP=>?_))
  x5⟨z2,H5,I5,r5,k2,e2,q5⟩:=hP
  subst e2
  cases r5
  qV wpAny_truthy_bool ⟨H5,I5,q5⟩
def ago (K:Frag) (x:V) (H:Hp) (k:Bool):Prop :=
 match x with
 | .non=>k=false
 | .bl b=>k=b
 | .int i=>k=(i != 0)
 | .str y=>y.length <= sizeLine/\k=((y.length:Int) != 0)
 | .byt y=>y.size <= sizeLine/\k=((y.size:Int) != 0)
 | .ref p=>(∃ xs,SqL K H p xs/\k = !xs.isEmpty)\/(∃ xs,SqT K H p xs/\k = !xs.isEmpty)\/∃ kvs,H p=some (.dK kvs)/\k = !kvs.isEmpty
 | _=>False
~!PB {κ:Type}{kvs:List (κ×V)}{vs:List (κ×Value)} (r:KV kvs vs):(!vs.isEmpty) = !kvs.isEmpty:=by
 cases r <;> rfl
~!Ey {xs:List V}{its:List Value} (r:Vals xs its):(!its.toArray.isEmpty) = !xs.isEmpty:=by
 cases r <;> simp
~!uq:(sizeLine:Nat)<2 ^ 63:=by rw [sizeLine_eq]; decide
~!adA:ahm X (fun x H Q=>∃ k,ago X.K x H k/\Q k H):=by
 intro pins s σ H x v Q I rx h
 x5⟨k,e,q⟩:=h
 have hl:=uq
 have hs:sizeLine=16777216:=sizeLine_eq
 cases x with
 | non =>
  cases rx
  have e':k=false:=e
  subst e'
  qV truthy_none ⟨H,I,q⟩
 | bl b =>
  cases rx
  have e':k=b:=e
  subst e'
  qV wpAny_truthy_bool ⟨H,I,q⟩
 | int i =>
  x5⟨t,rfl⟩:=rx
  have e':k=(i != 0):=e
  subst e'
  qV PySem.P.truthy_int ⟨H,I,q⟩
 | str y =>
  x5⟨t,rfl⟩:=rx
  obtain ⟨hy,e'⟩ : y.length <= sizeLine/\k=((y.length:Int) != 0):=e
  subst e'
  qV PySem.P.truthy_str (by om) ⟨H,I.tok _,q⟩
 | byt y =>
  x5⟨t,rfl⟩:=rx
  obtain ⟨hy,e'⟩ : y.size <= sizeLine/\k=((y.size:Int) != 0):=e
  subst e'
  qV PySem.W.truthy_bytes (by om) ⟨H,I.tok _,q⟩
 | ref p =>
  cases rx
  have e':(∃ xs,SqL X.K H p xs/\k = !xs.isEmpty)\/(∃ xs,SqT X.K H p xs/\k = !xs.isEmpty)\/∃ kvs,H p=some (.dK kvs)/\k = !kvs.isEmpty:=e
  rcases e' with ⟨xs,hx,e'⟩ | ⟨xs,hx,e'⟩ | ⟨kvs,hx,e'⟩
  .subst e'
   x5⟨its,r,pl,hz⟩:=I.list hx
   have hlen:=r.length
   qV wpAny_truthy_list pl.isList (by simp only [bw]; om) ⟨H,I.tok _,by rw [Ey r]; qV q⟩
  .subst e'
   x5⟨its,r,pl,hz⟩:=I.tuple hx
   have hlen:=r.length
   qV truthy_tuple pl (by simp only [bw]; om) ⟨H,I.tok _,by rw [Ey r]; qV q⟩
  .subst e'
   obtain ⟨hz,hS,vs,r,m⟩ : kvs.length <= sizeLine/\(p == sysModules)=false/\∃ vs,KV kvs vs/\s.heap.DictOf (kj X.prog X.w) p vs:=I.hok p _ hx
   have hlen:kvs.length=vs.length:=Paired.length r
   qV wpAny_truthy_dict hS m (by om) ⟨H,I.tok _,by rw [PB r]; qV q⟩
 | _=>qV(show False from e).elim
~!Qt:OpR X (binaryOp .Add) (fun x y H Q=>∃ i j,x=.str i/\y=.str j/\i.length+j.length <= sizeLine/\Q (.str (i++j)) H):=by
 intro pins s σ H x y v u Q I rx ry h
 x5⟨i,j,rfl,rfl,hz,q⟩:=h
 x5⟨t,rfl⟩:=rx
 x5⟨t',rfl⟩:=ry
 qV add_str (fun t' tk=>⟨.str (i++j),H,I.tok _,⟨_,rfl⟩,q⟩) hz
~!vals1 {x:V}{us:List Value} (r:Vals [x] us):∃ u,us=[u]/\RelV x u:=by
 cases r with
 | cons r1 r2=>cases r2; qV⟨_,rfl,r1⟩
~!vL:h_ X (.builtin "abs") (fun xs H Q=>∃ i,xs=[.int i]/\Q (.int (if i<0 then -i else i)) H):=by
 intro pins s σ H xs us Q I r h
 x5⟨i,rfl,q⟩:=h
 x5⟨u,rfl,t,rfl⟩:=vals1 r
 qV call_abs_int fun u tk=>⟨.int (if i<0 then -i else i),H,I.tok _,⟨_,rfl⟩,q⟩
~!qX:h_ X (.type "int") (fun xs H Q=>(∃ i,xs=[.int i]/\Q (.int i) H)\/∃ k,xs=[.bl k]/\Q (.int (if k then 1 else 0)) H):=by
 intro pins s σ H xs us Q I r h
 rcases h with ⟨i,rfl,q⟩ | ⟨k,rfl,q⟩
 .obtain ⟨u,rfl,t,rfl⟩:=vals1 r
  qV call_int_int ⟨.int i,H,I,⟨_,rfl⟩,q⟩
 .obtain ⟨u,rfl,r1⟩:=vals1 r
  cases r1
  qV call_int_bool ⟨.int (if k then 1 else 0),H,I.tok _,⟨_,rfl⟩,q⟩
end
structure Rt (h:Heap) (x dx C:Addr) (mA:Str->Option Value):Prop where
 obj:h.get? x=some (PySem.W.instObj C dx)
 ns:h.Ns1 dx mA
 ne:dx≠x
~!Im {h:Heap}{dx:Addr}{mA:Str->Option Value} (n:h.Ns1 dx mA):∃ od,h.get? dx=some od/\∀ name,PySem.W.lookIn name od=some (mA name):=by
 x5⟨o,es,ep,ho,hd,hk,_,hm⟩:=n
 z5⟨o,ho,fun name=>?_⟩
 have e:=hm name
 unfold nsFind findBy at e
 rw [<- Array.find?_toList] at e
 unfold PySem.W.lookIn
 rw [hd]
 dsimp only
 split
 .rename_i y q
  rw [q] at e
  qV congrArg some e
 .rename_i q
  rw [q] at e
  have a:es.toList.any (·.refKey)=false:=by
   rw [List.any_eq_false]
   intro y hy
   x5⟨z,t,hkey⟩:=hk y (Array.mem_toList_iff.mp hy)
   simp [DictEntry.refKey,hkey]
  have a':¬ es.toList.any (·.refKey)=true:=by rw [a]; qV bF
  rw [if_neg a']
  qV congrArg some e
~!Rt.look {h:Heap}{x dx C:Addr}{mA:Str->Option Value} (I:Rt h x dx C mA):∃ od,PySem.W.InstAt h x (PySem.W.instObj C dx) C (some od)/\∀ name,PySem.W.lookIn name od=some (mA name) :=
 let ⟨od,ho,hl⟩:=Im I.ns
 ⟨od,⟨I.obj,rfl,rfl,ho⟩,hl⟩
section
variable {prog:Program}{w:World}{A:Around}{E:Value->Shared->Prop}{s:Shared}{K:Frag}{x dx C f:Addr}{mA:Str->Option Value}{name:Str}{v:Value}
~!get_map {expr:Bool}{Q:Value->Shared->Prop} (X:K.In s.heap) (I:Rt s.heap x dx C mA) (hg:PySem.W.plainGet K C name=true) (hh:PySem.W.hasDictIn K C=true)
  (ha:PySem.W.findIn K (.ref C) name=some none) (hv:mA name=some v) (hv':PySem.W.handedIn v=true) (h:Q v { s with toks:=s.toks+1 }) :
  wpAny (model prog w) A (getAttr (.ref x) name expr) Q E s:=by
 x5⟨od,J,hl⟩:=I.look
 qV PySem.W.get_value X J (PySem.W.plainGet_of hg).1 (PySem.W.findObj_own hh ha rfl (by rw [hl,hv])) hv' h
~!XR {pl:Sem Bool}{Q:Value×List Value->Shared->Prop} (X:K.In s.heap) (I:Rt s.heap x dx C mA) (hg:PySem.W.plainGet K C name=true)
  (hf:PySem.W.findIn K (.ref C) name=some (some (.ref f))) (ht:PySem.W.isFn K (.ref f)=true) (hv:mA name=none) (h:Q (.ref f,[.ref x]) s) :
  wpAny (model prog w) A (getMethod (.ref x) name pl) Q E s:=by
 x5⟨od,J,hl⟩:=I.look
 qV PySem.W.method_fn X J (PySem.W.plainGet_of hg).1 (PySem.W.plainGet_of hg).2 hf (beq_iff_eq.mp ht) (by show (PySem.W.lookIn name od).map (·.isSome)=some false; rw [hl,hv]; rfl) h
~!abY {ns:List Str}{Q:Unit->Shared->Prop} (X:K.In s.heap) (I:Rt s.heap x dx C mA)
  (hs:PySem.W.findIn K (.ref C) "__setattr__" = some (some (.builtin "object.__setattr__"))) (hp:PySem.W.plainOver K C=true) (ht:PySem.W.takerIn K C name=some none) (hh:PySem.W.hasDictIn K C=true)
  (hw:PySem.Within mA ns) (hsz:ns.length <= sizeLine)
  (h:∀ h',Rt h' x dx C (fun y=>if y=name then some v else mA y)->Heap.SameBut dx s.heap h'->Q () { s with heap:=h',toks:=s.toks+2 }) :
  wpAny (model prog w) A (setAttr (.ref x) name v) Q E s:=by
 x5⟨od,J,hl⟩:=I.look
 z5 PySem.W.set_plain X J hs (PySem.W.osa_open (s:={ s with toks:=s.toks+1 }) (r:=none) X J hp ht fun b=>?_)
 x5⟨cd,hc,hd'⟩:=PySem.W.any_some hh
 have hx:s.heap.get? x=some ⟨.ref C,some dx,.plain,#[]⟩:=I.obj
 z5 wpAny_bind (wpAny_pure (wpAny_bind (wpAny_bind (wpAny_loadPart hx (wpAny_bind (PySem.W.Looks.here (s:={ s with toks:=s.toks+1 }) (PySem.W.looks_clsIn X hc) ?_))))))
 rw [hd']
 z5 wpAny_pure (a:=some dx) (wpAny_bind (wpAny_pure (wpAny_bind ?_)))
 z5 wpAny_nsSet1 (s:={ s with toks:=s.toks+1 }) I.ns fun h' hn2 hs2=>?_
 x5⟨oD,esD,epD,hoD,hdD,hcD⟩:=hn2.count (PySem.Within.cons name v hw)
 z5 wpAny_bind (wpAny_lookBehind hoD (by rw [hdD]; qV pastItsLine_dict (aN hcD (by rw [List.length_cons]; om))) ?_)
 qV wpAny_pure (h _ ⟨(hs2.2 _ (Ne.symm I.ne)).trans I.obj,hn2,I.ne⟩ hs2)
~!Yx {R:Result->Shared->Prop}{vs:List Value}{kw:List (Str×Value)} (X:K.In s.heap) (hm:PySem.W.makesIn K C=true)
  (hi:PySem.W.findIn K (.ref C) "__init__" = some (some (.ref f))) (hf:PySem.W.typeIn K (.ref f)=some (.type "function"))
  (h:codeAny (model prog w) (A.under (.builtin "type.__call__" ⟨.ref C::vs,kw⟩)) (.call (.ref f) ⟨.ref (s.heap.objs.size+1)::vs,kw⟩) (PySem.W.InitBack (s.heap.objs.size+1) R)
   { s with heap:=(s.heap.push PySem.W.emptyDict).push (PySem.W.instObj C s.heap.objs.size) }) :
  codeAny (model prog w) A (.call (.ref C) ⟨vs,kw⟩) R s:=by
 x5⟨hh,g,d,t,os⟩:=s
 qV PySem.W.make_core (PySem.W.makes_of X hm) (PySem.W.looks_findIn X hi) (fun self=>PySem.W.bind_fn X self hf) (.inl rfl) h
end
def mV (f:Str) (v:V):List (Str×V)->List (Str×V)
 | []=>[(f,v)]
 | (g,x)::r=>if g=f then (g,v)::r else (g,x)::mV f v r
~!BX (f g:Str) (v:V):∀ fs:List (Str×V),(mV f v fs).lookup g=if g=f then some v else fs.lookup g
 | []=>by
  show List.lookup g [(f,v)]=_
  by_cases h:g=f
  .have hb:(g == f)=true:=beq_iff_eq.mpr h
   simp only [List.lookup,hb,if_pos h]
  .have hb:(g == f)=false:=beq_eq_false_iff_ne.mpr h
   simp only [List.lookup,hb,if_neg h]
 | (k,x)::r=>by
  have ih:=BX f g v r
  rw [show mV f v ((k,x)::r)=(if k=f then (k,v)::r else (k,x)::mV f v r) from rfl]
  by_cases hk:k=f
  .rw [if_pos hk]
   by_cases h:g=k
   .have hb:(g == k)=true:=beq_iff_eq.mpr h
    simp only [List.lookup,hb,if_pos (h.trans hk)]
   .have hb:(g == k)=false:=beq_eq_false_iff_ne.mpr h
    simp only [List.lookup,hb,if_neg (fun e:g=f=>h (e.trans hk.symm))]
  .rw [if_neg hk]
   by_cases h:g=k
   .have hb:(g == k)=true:=beq_iff_eq.mpr h
    simp only [List.lookup,hb,if_neg (fun e:g=f=>hk (h.symm.trans e))]
   .have hb:(g == k)=false:=beq_eq_false_iff_ne.mpr h
    simp only [List.lookup,hb]
    qV ih
~!Bf (f:Str) (v:V):∀ fs:List (Str×V),f∈(mV f v fs).map (·.1)/\∀ g,g∈fs.map (·.1)->g∈(mV f v fs).map (·.1)
 | []=>⟨by simp [mV],fun g h=>by simp at h⟩
 | (k,x)::r=>by
  x5⟨i1,i2⟩:=Bf f v r
  rw [show mV f v ((k,x)::r)=(if k=f then (k,v)::r else (k,x)::mV f v r) from rfl]
  by_cases hk:k=f
  .rw [if_pos hk]
   subst hk
   qV⟨by simp,fun g h=>by simpa using h⟩
  .rw [if_neg hk]
   z5⟨?_,fun g h=>?_⟩
   .rw [List.map_cons]
    qV aJ _ i1
   .rw [List.map_cons] at h ⊢
    rcases List.mem_cons.mp h with e | e
    .exact List.mem_cons.mpr (.inl e)
    .exact aJ _ (i2 g e)
~!Bv (f:Str) (v:V):∀ fs:List (Str×V),(mV f v fs).length <= fs.length+1
 | []=>by simp [mV]
 | (k,x)::r=>by
  have ih:=Bv f v r
  rw [show mV f v ((k,x)::r)=(if k=f then (k,v)::r else (k,x)::mV f v r) from rfl]
  by_cases hk:k=f
  .rw [if_pos hk,List.length_cons,List.length_cons]; om
  .rw [if_neg hk,List.length_cons,List.length_cons]; om
~!uh.some_of {v:V}{o:Option Value} (r:uh (some v) o):∃ u,o=some u/\RelV v u:=by
 cases o with
 | none=>qV(show False from r).elim
 | some u=>qV⟨u,rfl,r⟩
~!uh.none_of {o:Option Value} (r:uh none o):o=none:=by
 cases o with
 | none=>rfl
 | some u=>qV(show False from r).elim
~!Ja {v:V}{u:Value} (r:RelV v u):PySem.W.handedIn u=true:=by
 cases v with
 | non=>cases (show u=Value.none from r); rfl
 | bl b=>cases (show u=Value.bool b from r); rfl
 | int i=>x5⟨t,e⟩:=(show ∃ t,u=Value.int i t from r); cases e; rfl
 | str x=>x5⟨t,e⟩:=(show ∃ t,u=Value.str x t from r); cases e; rfl
 | byt b=>x5⟨t,e⟩:=(show ∃ t,u=Value.bytes b t from r); cases e; rfl
 | flt b=>x5⟨t,e⟩:=(show ∃ t,u=Value.float b t from r); cases e; rfl
 | ref a=>cases (show u=Value.ref a from r); rfl
 | ty n=>cases (show u=Value.type n from r); rfl
section
variable {P:Program}{w:World}{H H':Hp}{h h':Heap}{a C dx:Addr}{fs fs':List (Str×V)}
~!Cz (hok:HOk P w H h) (e:H a=some (.ins C dx fs)):∃ mA,Rt h a dx C mA/\(∀ f,uh (fs.lookup f) (mA f))/\PySem.Within mA (fs.map (·.1))/\fs.length <= 1000/\H dx=some (.own a):=by
 x5⟨d,z,ne,ob,mA,n,r,q⟩:=(show dU P w H h a (.ins C dx fs) from hok a _ e)
 qV⟨mA,⟨ob,n,ne⟩,r,q,z,d⟩
end
structure Cls (K:Frag) (C:Addr):Prop where
 pg:PySem.W.plainGet K C Str.empty=true
 hd:PySem.W.hasDictIn K C=true
 po:PySem.W.plainOver K C=true
 sa:PySem.W.findIn K (.ref C) "__setattr__" = some (some (.builtin "object.__setattr__"))
~!Cls.get {K:Frag}{C:Addr} (c:Cls K C) (f:Str):PySem.W.plainGet K C f=true:=c.pg
def cI (K:Frag) (C:Addr) (f:Str):Prop:=PySem.W.findIn K (.ref C) f=some none
~!cI.taker {K:Frag}{C:Addr}{f:Str} (n:cI K C f):PySem.W.takerIn K C f=some none:=by
 unfold PySem.W.takerIn
 rw [show PySem.W.findIn K (.ref C) f=some none from n]
 rfl
structure Meth (K:Frag) (C:Addr) (m:Str) (f:Addr):Prop where
 at_:PySem.W.findIn K (.ref C) m=some (some (.ref f))
 fn:PySem.W.isFn K (.ref f)=true
 kp:PySem.W.keepIn K (.ref f)=true
section
variable {X:Cx}{pins:List (Addr×Obj)}{σ:St}{H:Hp}{s:Shared}{a C dx:Addr}{fs:List (Str×V)}{f:Str}{v:V}{A:Around}{E:Value->Shared->Prop}
~!Qf {b:Bool}{Q:Value->Shared->Prop} (I:Inv X pins σ H s) (e:H a=some (.ins C dx fs)) (c:Cls X.K C) (n:cI X.K C f) (l:fs.lookup f=some v)
  (h:∀ u s',Inv X pins σ H s'->RelV v u->Q u s'):wpAny (model X.prog X.w) A (getAttr (.ref a) f b) Q E s:=by
 x5⟨mA,O,r,_,_,_⟩:=Cz I.hok e
 x5⟨u,hu,ru⟩:=uh.some_of (v:=v) (o:=mA f) (by rw [<- l]; qV r f)
 qV get_map I.kIn O (c.get f) c.hd n hu (Ja ru) (h u _ (I.tok _) ru)
~!xH {m:Str}{g:Addr}{pl:Sem Bool}{Q:Value×List Value->Shared->Prop} (I:Inv X pins σ H s) (e:H a=some (.ins C dx fs)) (c:Cls X.K C) (k:Meth X.K C m g) (l:fs.lookup m=none)
  (h:Q (.ref g,[.ref a]) s):wpAny (model X.prog X.w) A (getMethod (.ref a) m pl) Q E s:=by
 x5⟨mA,O,r,_,_,_⟩:=Cz I.hok e
 have hn:mA m=none:=uh.none_of (by rw [<- l]; qV r m)
 qV XR I.kIn O (c.get m) k.at_ k.fn hn h
~!Qz {y:V}{u:Value}{Q:Unit->Shared->Prop} (I:Inv X pins σ H s) (e:H a=some (.ins C dx fs)) (c:Cls X.K C) (n:cI X.K C f) (hl:fs.length<1000) (ry:RelV y u)
  (h:∀ s',Inv X pins σ (upd H a (.ins C dx (mV f y fs))) s'->Q () s'):wpAny (model X.prog X.w) A (setAttr (.ref a) f u) Q E s:=by
 x5⟨mA,O,r,wi,_,ho⟩:=Cz I.hok e
 have hz:(fs.map (·.1)).length <= sizeLine:=by rw [ao,sizeLine_eq]; om
 z5 abY I.kIn O c.sa c.po n.taker c.hd wi hz fun h' O' sb=>h _ ?_
 have hd:∃ o,h'.get? dx=some o:=by x5⟨o,_,_,e',_⟩:=O'.ns; qV⟨o,e'⟩
 z5 I.write (x:=a) (e:=dx) (by rw [e]; qV True.intro) (.inr ho) (fun b q hb z=>(sb.2 b hb).trans z) hd ?_
 z5⟨by rw [bM O.ne]; qV ho,?_,O.ne,O'.obj,_,O'.ns,fun g=>?_,fun g hg=>?_⟩
 .have:=Bv f y fs; om
 .show uh ((mV f y fs).lookup g) (if g=f then some u else mA g)
  rw [BX]
  by_cases q:g=f
  .rw [if_pos q,if_pos q]; qV ry
  .rw [if_neg q,if_neg q]; qV r g
 .by_cases q:g=f
  .rw [q]; qV(Bf f y fs).1
  .refine (Bf f y fs).2 g (wi g fun z=>hg ?_)
   show (if g=f then some u else mA g)=none
   rw [if_neg q]; qV z
~!Inv.made (I:Inv X pins σ H s):Inv X pins σ (upd (upd H s.heap.objs.size (.own (s.heap.objs.size+1))) (s.heap.objs.size+1) (.ins C s.heap.objs.size []))
  { s with heap:=(s.heap.push PySem.W.emptyDict).push (PySem.W.instObj C s.heap.objs.size) }:=by
 have e1:(s.heap.push PySem.W.emptyDict).get? s.heap.objs.size=some PySem.W.emptyDict:=bh s.heap rfl
 have e2:((s.heap.push PySem.W.emptyDict).push (PySem.W.instObj C s.heap.objs.size)).get? (s.heap.objs.size+1)=some (PySem.W.instObj C s.heap.objs.size):=by
  have:=bh (s.heap.push PySem.W.emptyDict) (o:=PySem.W.instObj C s.heap.objs.size) rfl
  rwa [Heap.size_push] at this
 have e3:(s.heap.push PySem.W.emptyDict).Ns s.heap.objs.size (fun _=>none):=⟨PySem.W.emptyDict,#[],_,e1,rfl,(fun e he=>absurd he (by simp)),fun _=>rfl⟩
 have I1:=I.laid (a:=s.heap.objs.size) (o:=.own (s.heap.objs.size+1)) (h':=s.heap.push PySem.W.emptyDict) (t':=s.toks) (fun b u q=>aH _ q) (aG _) ⟨_,e1⟩
 z5 I1.laid (a:=s.heap.objs.size+1) (o:=.ins C s.heap.objs.size []) (t':=s.toks) (fun b u q=>aH _ q) (Nat.le_of_eq (Heap.size_push _ _)) ?_
 have ne:s.heap.objs.size≠s.heap.objs.size+1:=aV (Nat.lt_succ_self _)
 z5⟨by rw [bM ne,bK],bC _,ne,e2,fun _=>none,(Heap.Ns1.of_empty e3).at fun o q=>aH _ q,fun _=>True.intro,fun y hy=>absurd rfl hy⟩
~!Tn {prog:Program}{w:World}{env:Env}{e:Expr}{f:Str}{pos:Pos}{s:Shared}{Q:Value->Shared->Prop} (hb:attributeBase e f env (eval e env)=eval e env)
  (h:wpAny (model prog w) A (eval e env) (fun o s₁=>wpAny (model prog w) A (getAttr o f true) Q E s₁) E s):wpAny (model prog w) A (eval (.Attribute e f pos) env) Q E s :=
 Attribute_any_ h (by rw [arm_eval_Attribute,hb])
end
def W3 (K:Frag) (ta:TE) (f:Str):TE:=fun σ H Q=>ta σ H fun x H1=>∃ a C dx fs v,x=.ref a/\H1 a=some (.ins C dx fs)/\Cls K C/\cI K C f/\fs.lookup f=some v/\Q v H1
def aai (K:Frag) (ta tv:TE) (f:Str):TS:=fun D σ H=>tv σ H fun y H1=>ta σ H1 fun x H2=>∃ a C dx fs,x=.ref a/\H2 a=some (.ins C dx fs)/\Cls K C/\cI K C f/\fs.length<1000 /\
 D.nx σ (upd H2 a (.ins C dx (mV f y fs)))
section
variable {X:Cx}{o e value:Expr}{f:Str}{pos pos' tpos:Pos}{ta tv:TE}
~!ug (he:PE X e ta) (hb:attributeBase e f X.env (eval e X.env)=eval e X.env):PE X (.Attribute e f pos) (W3 X.K ta f):=by
 intro pins s σ H Q I h
 z5 Tn hb (thn (he pins s σ H _ I h) fun u s1 h=>?_)
 x5⟨x,H1,I1,rx,a,C,dx,fs,v,rfl,ea,c,n,l,q⟩:=h
 obtain rfl:u=Value.ref a:=rx
 qV Qf I1 ea c n l fun u' s2 I2 ru=>⟨v,H1,I2,ru,q⟩
~!vQ (ha:PE X o ta) (hv:PE X value tv) (hs:swapsWith value (some (.Attribute o f pos')) pos.line X.env=pure false):PS X (.Assign [.Attribute o f pos'] value pos) (aai X.K ta tv f):=by
 intro pins s σ H D I h
 z5 plainObj_wpAny_Assign_Attribute (thn (hv pins s σ H _ I h) fun u s1 ⟨y,H1,I1,ry,q⟩=>thn (ha pins s1 σ H1 _ I1 q) fun ov s2 h=>?_) hs
 x5⟨x,H2,I2,rx,a,C,dx,fs,rfl,ea,c,n,l,q2⟩:=h
 obtain rfl:ov=Value.ref a:=rx
 qV Qz I2 ea c n l ry fun s3 I3=>⟨σ,_,I3,q2⟩
end
section
variable {X:Cx}{pins:List (Addr×Obj)}{σ:St}{H:Hp}{s:Shared}{A:Around}{E:Value->Shared->Prop}{Q:Value->Shared->Prop}{c:Value}{b:Bool}
inductive Bm (K:Frag) (H:Hp):V->Value->Prop where
 | non:Bm K H .non (.type "NoneType")
 | bl (x:Bool):Bm K H (.bl x) (.type "bool")
 | int (i:Int):Bm K H (.int i) (.type "int")
 | str (x:Str):Bm K H (.str x) (.type "str")
 | flt (x:UInt64):Bm K H (.flt x) (.type "float")
 | lst {a:Addr}{xs:List V} (e:H a=some (.lst xs)):Bm K H (.ref a) (.type "list")
 | frz {a:Addr}{o:Obj}{xs:List V} (e:H a=some (.frz o (.lst xs))):Bm K H (.ref a) (.type "list")
 | tup {a:Addr}{xs:List V} (e:H a=some (.tup xs)):Bm K H (.ref a) (.type "tuple")
 | dK {a:Addr}{kvs:List (Key×V)} (e:H a=some (.dK kvs)):Bm K H (.ref a) (.type "dict")
 | ins {a C dx:Addr}{fs:List (Str×V)} (e:H a=some (.ins C dx fs)) (cl:Cls K C) (ha:PySem.W.findIn K (.ref C) "__class__" = some (some (.builtin "object.__class__")))
   (hn:PySem.W.specialIn K (.builtin "object.__class__") "__get__" = some (some (.builtin "getset_descriptor.__get__"))) (htk:PySem.W.takesIn K (.builtin "object.__class__")=some true)
   (hm:PySem.W.mroIn K C (.type "object")=some true):Bm K H (.ref a) (.ref C)
~!Vb {x:V}{u t:Value} (I:Inv X pins σ H s) (rx:RelV x u) (ty:Bm X.K H x t) (e:PySem.W.kitOne X.K t c=some b) (h:∀ tk,Q (.bool b) { s with toks:=tk }) :
  wpAny (model X.prog X.w) A (call (.builtin "isinstance") [u,c]) Q E s:=by
 cases ty with
 | non=>cases (show u=Value.none from rx); qV PySem.W.kia_one PySem.W.kitx_none I.kIn True.intro e (fun z=>nomatch z) h
 | bl y=>cases (show u=Value.bool y from rx); qV PySem.W.kia_one PySem.W.kitx_bool I.kIn True.intro e (fun z=>nomatch z) h
 | int i=>x5⟨t,q⟩:=(show ∃ t,u=Value.int i t from rx); cases q; qV PySem.W.kia_one PySem.W.kitx_int I.kIn True.intro e (fun z=>nomatch z) h
 | str y=>x5⟨t,q⟩:=(show ∃ t,u=Value.str y t from rx); cases q; qV PySem.W.kia_one PySem.W.kitx_str I.kIn True.intro e (fun z=>nomatch z) h
 | flt y=>x5⟨t,q⟩:=(show ∃ t,u=Value.float y t from rx); cases q; qV PySem.W.kia_one PySem.W.kitx_float I.kIn True.intro e (fun z=>nomatch z) h
 | @lst a xs ea =>
  cases (show u=Value.ref a from rx)
  x5⟨_,_,n,_,h1⟩:=(show dU X.prog X.w H s.heap a (.lst xs) from I.hok a _ ea)
  qV PySem.W.kia_one PySem.W.kitx_list I.kIn ⟨_,h1,rfl⟩ e (fun z=>nomatch z) h
 | @frz a ob xs ea =>
  cases (show u=Value.ref a from rx)
  x5⟨_,_,_,n,_,h1⟩:=(show dU X.prog X.w H s.heap a (.frz ob (.lst xs)) from I.hok a _ ea)
  qV PySem.W.kia_one PySem.W.kitx_list I.kIn ⟨_,h1,rfl⟩ e (fun z=>nomatch z) h
 | @tup a xs ea =>
  cases (show u=Value.ref a from rx)
  x5⟨_,_,_,p⟩:=(show dU X.prog X.w H s.heap a (.tup xs) from I.hok a _ ea)
  x5⟨o,h1,h2,_⟩:=p
  qV PySem.W.kia_one PySem.W.kitx_tuple I.kIn ⟨o,h1,h2⟩ e (fun z=>nomatch z) h
 | @dK a kvs ea =>
  cases (show u=Value.ref a from rx)
  x5⟨_,_,vs,_,p⟩:=(show dU X.prog X.w H s.heap a (.dK kvs) from I.hok a _ ea)
  x5⟨o,es,ep,h1,h2,_⟩:=p
  qV PySem.W.kia_one PySem.W.kitx_dict I.kIn ⟨o,h1,h2.1⟩ e (fun z=>nomatch z) h
 | @ins a C dx fs ea cl ha hn htk hm =>
  cases (show u=Value.ref a from rx)
  x5⟨mA,O,_⟩:=Cz I.hok ea
  x5⟨od,J,_⟩:=O.look
  qV PySem.W.kia_one (PySem.W.kitx_own (cl.get _) cl.hd ha hn htk hm) I.kIn J e (fun z=>nomatch z) h
end
structure fU (k:Nat) (A:Around):Prop where
 hd:A.handled=none
 dp:A.depth+3 * k+5<recursionLimit
 un:A.units+16 * k+200<cLine
~!fU.mono {j k:Nat}{A:Around} (r:fU k A) (h:j <= k):fU j A:=⟨r.hd,by have:=r.dp; om,by have:=r.un; om⟩
~!fU.md {k n:Nat}{A:Around} (h:fU n A) (e:k <= n:=by decide):fU k A:=h.mono e
~!fU.deeper {k:Nat}{A:Around} (r:fU (k+1) A) (env:Env):fU k (A.deeper env) :=
 ⟨r.hd,by have:=r.dp; show A.depth+1+3 * k+5<_; om,by have:=r.un; show A.units+3+16 * k+200<_; om⟩
~!QW {A:Around}{C:Addr}{us:List Value}{kw:List (Str×Value)} : (A.under (.builtin "type.__call__" ⟨.ref C::us,kw⟩)).depth=A.depth+1:=by
 first | rfl | simp [Around.under,Code.weight,Code.isCreation,Code.isGuard,Code.isCaller,Code.frames,Code.isFrame,guardIds]
~!Pq {A:Around}{C:Addr}{us:List Value}{kw:List (Str×Value)} : (A.under (.builtin "type.__call__" ⟨.ref C::us,kw⟩)).units=A.units+1:=by
 first | rfl | simp [Around.under,Code.cUnits,Code.frames,Code.isFrame]
~!fU.make {k:Nat}{A:Around} (r:fU (k+1) A) (C:Addr) (us:List Value) (kw:List (Str×Value)):fU k (A.under (.builtin "type.__call__" ⟨.ref C::us,kw⟩)) :=
 ⟨r.hd,by have:=r.dp; rw [QW]; om,by have:=r.un; rw [Pq]; om⟩
~!fU.depth {k:Nat}{A:Around} (r:fU k A):A.depth<recursionLimit:=by have:=r.dp; om
~!fU.units {k:Nat}{A:Around} (r:fU k A):A.units+64<cLine:=by have:=r.un; om
def Cu:TA:=fun _ H Q=>Q [] H
def sV (ta:TE) (tr:TA):TA:=fun σ H Q=>ta σ H fun x H1=>tr σ H1 fun xs H2=>Q (x::xs) H2
section
variable {X:Cx}{e:Expr}{es:List Expr}{te:TE}{t:TA}{pos:Pos}
~!bI:PA X [] Cu:=fun _ _ _ _ H Q I h=>Calls.spliced_nil ⟨[],H,I,.nil,h⟩
~!bG (ha:PE X e te) (hr:PA X es t) (hs:starEach (e::es) X.env=(false,eval e X.env)::starEach es X.env:=by rfl):PA X (e::es) (sV te t):=by
 intro pos pins s σ H Q I h
 rw [hs]
 show wpAny _ _ (spliced ((false,eval e X.env)::backTo pos (starEach es X.env))) _ _ s
 z5 Calls.spliced_cons (thn (ha pins s σ H _ I h) fun u s1 hP=>?_)
 x5⟨x,H1,I1,r1,q1⟩:=hP
 qV thn (hr pos pins s1 σ H1 _ I1 q1) fun us s2 hP=>by x5⟨xs,H2,I2,r2,q2⟩:=hP; qV⟨x::xs,H2,I2,.cons r1 r2,q2⟩
def aa1 (t:TA):TE:=fun σ H Q=>t σ H fun xs H1=>xs.length <= sizeLine/\∀ p,H1 p=none->Q (.ref p) (upd H1 p (.tup xs))
def Ze (t:TA):TE:=fun σ H Q=>t σ H fun xs H1=>xs.length <= sizeLine/\∀ p,H1 p=none->Q (.ref p) (upd H1 p (.lst xs))
~!kZ {x1} (h:PA X es t):PE X (.Tuple es x1 pos) (aa1 t):=by
 intro pins s σ H Q I hq
 z5 wpAny_Tuple_spliced (thn (h pos pins s σ H _ I hq) fun us s1 ⟨xs,H1,I1,r,z,q⟩=>⟨by rw [<- r.length]; qV z,?_⟩)
 have hf:H1 s1.heap.objs.size=none:=I1.hok.fresh (aG _)
 z5⟨.ref s1.heap.objs.size,upd H1 s1.heap.objs.size (.tup xs),I1.laid (t':=s1.toks) (fun b u e=>aH _ e) (aG _) ?_,rfl,q _ hf⟩
 qV⟨z,us,r,⟨_,bh _ rfl,rfl,_,rfl⟩⟩
~!kW (h:PA X es t):PE X (.List es pos) (Ze t):=by
 intro pins s σ H Q I hq
 z5 wpAny_List_spliced (thn (h pos pins s σ H _ I hq) fun us s1 ⟨xs,H1,I1,r,z,q⟩=>⟨by rw [<- r.length]; qV z,?_⟩)
 have hf:H1 s1.heap.objs.size=none:=I1.hok.fresh (aG _)
 z5⟨.ref s1.heap.objs.size,upd H1 s1.heap.objs.size (.lst xs),I1.laid (t':=s1.toks) (fun b u e=>aH _ e) (aG _) ?_,rfl,q _ hf⟩
 qV⟨z,us,0,r,bh _ rfl⟩
end
abbrev Sp:=List V->Hp->VK->XK->Prop
abbrev CXT:=List Env->Hp->Shared->XK->Value->Shared->Prop
structure DK (P:Program) (w:World) (K:Frag) (mg:Str->Option Value) (base:Heap) (A:Around) (outer:List Env) (s:Shared) (H:Hp):Prop where
 frames:A.frames=some outer
 mod:Mod K mg base
 bs:∀ b o,base.get? b=some o->s.heap.get? b=some o/\H b=none
 bsz:base.objs.size <= s.heap.objs.size
 funs:s.heap.FunFrames base outer
 frf:∀ b∈frs outer,H b=none
 hok:HOk P w H s.heap
 bare:AllBare s.gens
def CE (outer:List Env) (P:Program) (w:World) (H:Hp) (s:Shared) (Q:VK) (u:Value) (s':Shared):Prop :=
 ∃ v H',s'.os=s.os/\AllBare s'.gens/\Un (frs outer) [] H H' s.heap s'.heap/\HOk P w H' s'.heap/\RelV v u/\Q v H'
def CR (CX:CXT) (outer:List Env) (P:Program) (w:World) (H:Hp) (s:Shared) (Q:VK) (E:XK) (r:Result) (s':Shared):Prop :=
 match r with
 | .ok (.ret u)=>CE outer P w H s Q u s'
 | .ok _=>False
 | .error e=>CX outer H s E e s'
structure cD (P:Program) (w:World) (K:Frag) (mg:Str->Option Value) (base:Heap) (CX:CXT) (k:Nat) (f:Addr) (fd:FuncData) (ps:List Str) (sp:Sp):Prop where
 len:∀ vs H Q E,sp vs H Q E->vs.length=ps.length
 run:∀ (A:Around) (outer:List Env) (s:Shared) (H:Hp) (args:Args) (us:List Value) (vs:List V) (Q:VK) (E:XK),fU k A->DK P w K mg base A outer s H->BindsTo s fd args (ps.zip us)->Vals vs us->sp vs H Q E ->
  codeAny (model P w) A (.call (.ref f) args) (CR CX outer P w H s Q E) s
~!cD.imp {P:Program}{w:World}{K:Frag}{mg:Str->Option Value}{base:Heap}{CX:CXT}{k:Nat}{f:Addr}{fd:FuncData}{ps:List Str}{sp sp':Sp} (F:cD P w K mg base CX k f fd ps sp)
  (h:∀ vs H Q E,sp' vs H Q E->sp vs H Q E):cD P w K mg base CX k f fd ps sp' :=
 ⟨fun vs H Q E q=>F.len vs H Q E (h _ _ _ _ q),fun A outer s H args us vs Q E hr he hb hv hs=>F.run A outer s H args us vs Q E hr he hb hv (h _ _ _ _ hs)⟩
~!DK.make {P:Program}{w:World}{K:Frag}{mg:Str->Option Value}{base:Heap}{A:Around}{outer:List Env}{s:Shared}{H:Hp} (e:DK P w K mg base A outer s H) (C:Addr) (us:List Value) (kw:List (Str×Value)) :
  DK P w K mg base (A.under (.builtin "type.__call__" ⟨.ref C::us,kw⟩)) outer s H:=⟨by first | qV e.frames | (simpa [Around.under,Code.envs,Code.isFrame,pushEnvs] using e.frames),e.mod,e.bs,e.bsz,e.funs,e.frf,e.hok,e.bare⟩
section
variable {X:Cx}{pins:List (Addr×Obj)}{σ:St}{H:Hp}{s s':Shared}
~!Inv.env0 (I:Inv X pins σ H s):DK X.prog X.w X.K X.mg X.base X.A X.stack s H :=
 ⟨I.ok.frames,I.ok.mod,I.bs,aN I.ok.bsz I.sz,I.stack,I.stkFree,I.hok,I.bare⟩
~!Inv.after {Q:VK}{u:Value} (I:Inv X pins σ H s) (h:CE X.stack X.prog X.w H s Q u s'):EP X pins σ Q u s':=by
 x5⟨v,H',os,bare,un,hok,r,q⟩:=h
 x5⟨hh,g,d,t,os'⟩:=s'
 obtain rfl:os'=s.os:=os
 qV⟨v,H',I.call (h':=hh) (g':=g) (d':=d) (t':=t) (ch:=[]) un hok bare (fun b z=>absurd z (by simp)),r,q⟩
end
def agK (sp:Sp) (dvs:List V) (E:XK) (t:TA):TE:=fun σ H Q=>t σ H fun vs H1=>sp (vs++dvs) H1 Q E
def acf (C:Addr) (m:Str) (sp:Sp) (dvs:List V) (E:XK) (ta:TE) (t:TA):TE:=fun σ H Q=>ta σ H fun x H1=>∃ a dx fs,x=.ref a/\H1 a=some (.ins C dx fs)/\fs.lookup m=none /\
 t σ H1 fun vs H2=>sp (x::(vs++dvs)) H2 Q E
def Binds (K:Frag) (fd:FuncData) (ps:List Str) (ds:List Value):Prop :=
 ∀ (s:Shared) (us:List Value),K.In s.heap->(us++ds).length=ps.length->BindsTo s fd ⟨us,[]⟩ (ps.zip (us++ds))
~!Binds.all {K:Frag}{fd:FuncData}{ps:List Str} (h:∀ us:List Value,us.length=ps.length->bindArgs fd ⟨us,[]⟩=pure (ps.zip us)):Binds K fd ps []:=fun s us _ hl=>by
 rw [List.append_nil] at hl ⊢
 qV .of_eq (h us hl)
def Passes (CX:CXT) (X:Cx) (E:XK):Prop:=∀ (pins:List (Addr×Obj)) (σ:St) (H:Hp) (s:Shared) (e:Value) (s':Shared),Inv X pins σ H s->CX X.stack H s E e s'->X.xe e s'
section
variable {X:Cx}{CX:CXT}{k:Nat}{f C:Addr}{fd:FuncData}{ps:List Str}{sp:Sp}{dvs:List V}{ds:List Value}{E:XK}{x m:Str}{p pos apos:Pos}{e o:Expr}{es:List Expr}{ta:TE}{t:TA}
~!JW {pins:List (Addr×Obj)}{σ:St}{H:Hp}{s:Shared}{Q:VK}{us:List Value}{vs:List V} (F:cD X.prog X.w X.K X.mg X.base CX k f fd ps sp) (hr:fU k X.A) (hb:Binds X.K fd ps ds) (hd:Vals dvs ds) (hx:Passes CX X E)
  (I:Inv X pins σ H s) (r:Vals vs us) (h:sp (vs++dvs) H Q E):wpAny (model X.prog X.w) X.A (call (.ref f) us) (EP X pins σ Q) X.xe s:=by
 have r2:Vals (vs++dvs) (us++ds):=r.append hd
 have hl:(us++ds).length=ps.length:=by rw [<- r2.length]; qV F.len _ _ _ _ h
 z5 wpAny_call (codeAny_mono (F.run X.A X.stack s H ⟨us,[]⟩ (us++ds) (vs++dvs) Q E hr I.env0 (hb s us I.kIn hl) r2 h) fun r s' hq=>?_)
 cases r with
 | error e=>qV hx pins σ H s e s' I hq
 | ok fl =>
  cases fl with
  | ret u=>qV I.after hq
  | next=>qV False.elim hq
  | brk=>qV False.elim hq
  | cont=>qV False.elim hq
~!aby (F:cD X.prog X.w X.K X.mg X.base CX k f fd ps sp) (hr:fU k X.A) (hg:Gl X x) (hm:X.mg x=some (.ref f)) (hk:PySem.W.keepIn X.K (.ref f)=true) (hb:Binds X.K fd ps ds) (hd:Vals dvs ds) (hx:Passes CX X E)
  (ha:PA X (e::es) t) (hdb:(x == ("__debug__" : Str))=false:=by decide) (he:starEach (e::es) X.env=(false,eval e X.env)::starEach es X.env:=by rfl) (hpl:(backTo pos (starEach es X.env)).any (·.1)=false:=by rfl) :
  PE X (.Call (.Name x p) (e::es) [] pos) (agK sp dvs E t):=by
 intro pins s σ H Q I h
 z5 wpAny_Call_Name_kw (lY I hg hm ?_ hdb)
 z5 PySem.W.callWith_K (h₀:=X.base) I.ok.mod.kin hk (thn (ha pos pins s σ H _ I h) fun us s1 ⟨vs,H1,I1,r,q⟩=>⟨I1.kIn,?_⟩) he hpl
 qV JW F hr hb hd hx I1 r q
~!abC {pl:Sem Bool} (he:PE X o ta) (c:Cls X.K C) (hm:Meth X.K C m f) (F:cD X.prog X.w X.K X.mg X.base CX k f fd ps sp) (hr:fU k X.A) (hb:Binds X.K fd ps ds) (hd:Vals dvs ds) (hx:Passes CX X E) (ha:PA X (e::es) t)
  (hst:starEach (e::es) X.env=(false,eval e X.env)::starEach es X.env:=by rfl) (hpl:(backTo pos (starEach es X.env)).any (·.1)=false:=by rfl)
  (ht:eval (.Call (.Attribute o m apos) (e::es) [] pos) X.env=(do
   let ov <- eval o X.env
   standAt apos.atName
   let (f,first) <- holding [ov] (getMethod ov m pl)
   callWith pos f first (backTo pos (starEach (e::es) X.env)) (backToKw pos (keywordEach [] X.env))):=by rfl) :
  PE X (.Call (.Attribute o m apos) (e::es) [] pos) (acf C m sp dvs E ta t):=by
 intro pins s σ H Q I h
 z5 PySem.W.methodCall_KW (pl:=pl) (thn (he pins s σ H _ I h) fun u s1 hP=>?_) ht
 x5⟨x,H1,I1,rx,a,dx,fs,ex,ea,l,q⟩:=hP
 subst ex
 obtain rfl:u=Value.ref a:=rx
 z5 xH I1 ea c hm l ?_
 z5 PySem.W.callWith_K (first:=[.ref a]) (h₀:=X.base) I.ok.mod.kin hm.kp (thn (ha pos pins s1 σ H1 _ I1 q) fun us s2 ⟨vs,H2,I2,r,q2⟩=>⟨I2.kIn,?_⟩) hst hpl
 qV JW (us:=.ref a::us) (vs:=.ref a::vs) F hr hb hd hx I2 (.cons rfl r) q2
~!Xk {pl:Sem Bool} (he:PE X o ta) (c:Cls X.K C) (hm:Meth X.K C m f) (F:cD X.prog X.w X.K X.mg X.base CX k f fd ps sp) (hr:fU k X.A) (hb:Binds X.K fd ps ds) (hd:Vals dvs ds) (hx:Passes CX X E)
  (ht:eval (.Call (.Attribute o m apos) [] [] pos) X.env=(do
   let ov <- eval o X.env
   standAt apos.atName
   let (f,first) <- holding [ov] (getMethod ov m pl)
   callWith pos f first (backTo pos (starEach [] X.env)) (backToKw pos (keywordEach [] X.env))):=by rfl) :
  PE X (.Call (.Attribute o m apos) [] [] pos) (acf C m sp dvs E ta Cu):=by
 intro pins s σ H Q I h
 z5 PySem.W.methodCall_KW (pl:=pl) (thn (he pins s σ H _ I h) fun u s1 hP=>?_) ht
 x5⟨x,H1,I1,rx,a,dx,fs,ex,ea,l,q⟩:=hP
 subst ex
 obtain rfl:u=Value.ref a:=rx
 z5 xH I1 ea c hm l ?_
 qV PySem.W.callWith_K0 (first:=[.ref a]) I1.kIn hm.kp (JW (us:=[.ref a]) (vs:=[.ref a]) F hr hb hd hx I1 (.cons rfl .nil) q)
structure Mk (K:Frag) (C f:Addr):Prop where
 makes:PySem.W.makesIn K C=true
 init:PySem.W.findIn K (.ref C) "__init__" = some (some (.ref f))
 fn:PySem.W.isFn K (.ref f)=true
 kp:PySem.W.keepIn K (.ref C)=true
end
structure cj (N P:List Str) (sc:Scope):Prop where
 kind:sc.kind=.function
 co:sc.isCoroutine=false
 gen:sc.isGenerator=false
 nd:N.Nodup
 pre:N.take P.length=P
 par:∀ x∈P,sc.names.lookup x=some .local\/sc.names.lookup x=some .cell
 nofree:∀ y∈sc.names,y.2≠.free
~!IV {kindOf:Str->Option NameKind}{x:Str} : ∀ {binds:List (Str×Value)}{m:Str->Option Value},(∀ v,(x,v) ∉ binds)->bindL kindOf binds m x=m x
 | [],_,_=>rfl
 | (n,v)::r,m,h=>by
  unfold bindL
  rw [IV fun w hw=>h w (aJ _ hw)]
  split
  .have:x≠n:=by rintro rfl; qV h v aQ
   simp [this]
  .rfl
~!Ig {kindOf:Str->Option NameKind}{x:Str} : ∀ {binds:List (Str×Value)}{m:Str->Option Value},(∀ v,(x,v) ∉ binds)->bindC kindOf binds m x=m x
 | [],_,_=>rfl
 | (n,v)::r,m,h=>by
  unfold bindC
  rw [Ig fun w hw=>h w (aJ _ hw)]
  split
  .rfl
  .have:x≠n:=by rintro rfl; qV h v aQ
   simp [this]
~!Ik {kindOf:Str->Option NameKind}{x:Str}{v:Value} : ∀ {P:List Str}{vs:List Value}{i:Nat}{m:Str->Option Value},P.Nodup->P[i]?=some x->vs[i]?=some v->kindOf x=some .local ->
  bindL kindOf (P.zip vs) m x=some v
 | [],_,_,_,_,h,_,_=>by simp at h
 | _::_,[],_,_,_,_,h,_=>by simp at h
 | p::P,w::vs,0,m,nd,h1,h2,hk=>by
  simp at h1 h2; subst h1; subst h2
  show bindL kindOf ((p,w)::P.zip vs) m p=_
  unfold bindL
  rw [IV fun v hv=>(List.nodup_cons.mp nd).1 (List.of_mem_zip hv).1,if_pos hk]
  simp
 | p::P,w::vs,i+1,m,nd,h1,h2,hk=>by
  show bindL kindOf ((p,w)::P.zip vs) m x=_
  unfold bindL
  qV Ik (i:=i) (List.nodup_cons.mp nd).2 (by simpa using h1) (by simpa using h2) hk
~!Iv {kindOf:Str->Option NameKind}{x:Str}{v:Value} : ∀ {P:List Str}{vs:List Value}{i:Nat}{m:Str->Option Value},P.Nodup->P[i]?=some x->vs[i]?=some v->kindOf x≠some .local ->
  bindC kindOf (P.zip vs) m x=some v
 | [],_,_,_,_,h,_,_=>by simp at h
 | _::_,[],_,_,_,_,h,_=>by simp at h
 | p::P,w::vs,0,m,nd,h1,h2,hk=>by
  simp at h1 h2; subst h1; subst h2
  show bindC kindOf ((p,w)::P.zip vs) m p=_
  unfold bindC
  rw [Ig fun v hv=>(List.nodup_cons.mp nd).1 (List.of_mem_zip hv).1,if_neg hk]
  simp
 | p::P,w::vs,i+1,m,nd,h1,h2,hk=>by
  show bindC kindOf ((p,w)::P.zip vs) m x=_
  unfold bindC
  qV Iv (i:=i) (List.nodup_cons.mp nd).2 (by simpa using h1) (by simpa using h2) hk
def start (N:List Str) (vs:List V):St:=vs.map some++List.replicate (N.length - vs.length) none
def Ce (CX:CXT) (P:Program) (w:World) (K:Frag) (mg:Str->Option Value) (base:Heap) (N:List Str) (qual:Str) (scope:Scope) (f:Addr) (cd:Value) (A:Around) (outer:List Env) (s:Shared) (H:Hp) (E:XK):Cx where
 prog:=P
 w:=w
 K:=K
 mg:=mg
 base:=base
 A:=A.deeper (envOfC qual scope s.heap.objs.size f cd)
 N:=N
 s₀:=s
 H₀:=H
 env:=envOfC qual scope s.heap.objs.size f cd
 outer:=outer
 stack:=envOfC qual scope s.heap.objs.size f cd::outer
 ex:=[]
 calm:=true
 fn:=fun _=>true
 pn:=[]
 xe:=fun e s'=>wpAny (model P w) (A.deeper (envOfC qual scope s.heap.objs.size f cd)) (leaving (envOfC qual scope s.heap.objs.size f cd) e) (fun _ s''=>CX outer H s E e s'') (fun e' s''=>CX outer H s E e' s'') s'
~!OD {sc:Scope}{n:Nat}{x:Str} (h:sc.names.lookup x=some .cell):∃ c,(cellsFrom n sc.names []).lookup x=some c:=by
 have q:=PySem.W.cellsFrom_some sc.names n [] (.inl h)
 qV Option.isSome_iff_exists.mp q
~!Vw {CX:CXT}{P:Program}{w:World}{K:Frag}{mg:Str->Option Value}{base:Heap}{N ps:List Str}{qual:Str}{scope:Scope}{f:Addr}{cd:Value}{A:Around}{outer:List Env}{s s1:Shared}{H:Hp}{E:XK}{us:List Value}{vs:List V}
  (S:cj N ps scope) (hd:A.handled=none) (e0:DK P w K mg base A outer s H) (hl:vs.length=ps.length) (r:Vals vs us)
  (x:InCallC s s.heap.objs.size (bindL (envOfC qual scope s.heap.objs.size f cd).kindOf (ps.zip us) fun _=>none) (cellsFrom (s.heap.objs.size+1) scope.names []) (bindC (envOfC qual scope s.heap.objs.size f cd).kindOf (ps.zip us) fun _=>none) s1) :
  Inv (Ce CX P w K mg base N qual scope f cd A outer s H E) [] (start N vs) H s1:=by
 have hpl:ps.length <= N.length:=by have:=congrArg List.length S.pre; rw [bA] at this; om
 x5⟨h1,tk,rfl,hk⟩:=x.done
 have noA:∀ b:Addr,b ∉ (Ce CX P w K mg base N qual scope f cd A outer s H E).ex:=fun b z=>absurd (show b∈([] : List Addr) from z) (by simp)
 z5⟨⟨e0.mod,S.kind,rfl,rfl,aG _,fun y z c h1 h2=>?_,fun y hy=>?_,fun y c _ h=>?_,fun _=>hd,Around.frames_deeper e0.frames,.inr ⟨rfl,rfl⟩,fun b z=>absurd z (noA b),e0.bs,e0.bsz,fun b _ _=>noA b,fun b z=>absurd z (noA b),e0.funs,e0.frf⟩,
  rfl,e0.bare,Un.kept hk,⟨_,x.toInCall.ns,fun i y v h1 h2 h3=>?_⟩,fun y c h=>⟨_,x.cell y c h⟩,e0.hok.fresh (aG _),fun y c h=>?_,fun p hp=>absurd (show p∈([] : List (Addr×Obj)) from hp) (by simp),e0.hok.kept hk,?_⟩
 .exact name_of_addr x.apart (PySem.mem_of_lookup h1) (PySem.mem_of_lookup h2)
 .have hy:scope.names.lookup y=some .cell\/scope.names.lookup y=some .free:=hy
  rcases hy with hy | hy
  .exact OD hy
  .exact absurd rfl (S.nofree _ (PySem.mem_of_lookup hy))
 .exact Nat.le_of_lt (x.above y c (PySem.mem_of_lookup h))
 .have hi:i<vs.length:=by
   unfold start at h2
   by_cases hi:i<vs.length
   .exact hi
   .rw [aD (by simpa using hi)] at h2
    rw [List.getElem?_replicate] at h2
    split at h2 <;> cases h2
  have ha:vs[i]?=some v:=by
   unfold start at h2
   rw [aF (by simpa using hi),au] at h2
   cases e:vs[i]? with
   | none=>rw [e] at h2; cases h2
   | some a=>rw [e] at h2; cases h2; rfl
  x5⟨u,hu,rv⟩:=r.get ha
  have hp:ps[i]?=some y:=by
   rw [<- S.pre,List.getElem?_take_of_lt (by om)]; qV h1
  have ndP:ps.Nodup:=by rw [<- S.pre]; qV S.nd.sublist (List.take_sublist _ _)
  z5⟨u,rv,?_⟩
  rcases S.par y (aC hp) with k | k
  .exact .inl ⟨k,Ik ndP hp hu k⟩
  .obtain ⟨c,e⟩:=OD (n:=s.heap.objs.size+1) k
   z5 .inr ⟨.inl k,c,e,?_⟩
   have q:=x.cell y c e
   rw [Iv ndP hp hu (by show scope.names.lookup y≠_; rw [k]; decide)] at q
   qV q
 .exact e0.hok.fresh (Nat.le_of_lt (x.above y c (PySem.mem_of_lookup h)))
 .unfold start
  show _=N.length
  rw [aB,ao,aP]
  om
~!Xy {CX:CXT}{P:Program}{w:World}{K:Frag}{mg:Str->Option Value}{base:Heap}{k:Nat}{f:Addr}{name qual:Str}{params:Arguments}{body:List Stmt}{scope:Scope}{dV kV doc pm cdv ct oc:Value}{an od:Option Addr}
  {osl:Array (Option Value)}{N ps:List Str}{sp:Sp} (lk:K.lookup f=some ⟨oc,od,.func (PySem.W.fnOf name qual params body scope dV kV doc pm an cdv ct),osl⟩) (hcd:PySem.W.codeIn K cdv qual=true) (S:cj N ps scope)
  (len:∀ vs H Q E,sp vs H Q E->vs.length=ps.length)
  (hbody:∀ (A:Around) (outer:List Env) (s:Shared) (H:Hp) (vs:List V) (Q:VK) (E:XK),fU k (A.deeper (envOfC qual scope s.heap.objs.size f cdv))->sp vs H Q E ->
   ∃ t,PSs (Ce CX P w K mg base N qual scope f cdv A outer s H E) body t/\t { nx:=fun _ H'=>Q .non H',rt:=Q } (start N vs) H) :
  cD P w K mg base CX (k+1) f (PySem.W.fnOf name qual params body scope dV kV doc pm an cdv ct) ps sp:=by
 z5⟨len,fun A outer s H args us vs Q E hr e0 hb r hsp=>?_⟩
 have hl:=len _ _ _ _ hsp
 have KX:K.In s.heap:=e0.mod.kin.keeps fun b o e=>(e0.bs b o e).1
 have lim:s.heap.NoLimit:=e0.mod.nolimit.keeps fun b o e=>(e0.bs b o e).1
 have hkind:∀ y∈ps.zip us,scope.names.lookup y.1=some .local\/(scope.names.lookup y.1=some .cell/\((cellsFrom (s.heap.objs.size+1) scope.names []).lookup y.1).isSome=true):=fun ⟨n,v⟩ hy=>by
  rcases S.par n (List.of_mem_zip hy).1 with q | q
  .exact .inl q
  .exact .inr ⟨q,PySem.W.cellsFrom_some _ _ _ (.inl q)⟩
 z5 codeAny_call_function hr.depth (KX _ _ lk) rfl S.co S.gen rfl (PySem.W.codeRec_of KX hcd) (hb _ _ _ _ ?_)
 z5 wpAny_newFunctionEnv_cells S.kind hkind fun env he s1 x=>?_
 subst he
 z5⟨lim.keeps x.toInCall.keep,codeAny_func ?_⟩
 x5⟨t,ht,hq⟩:=hbody A outer s H vs Q E (hr.deeper _) hsp
 have I:Inv (Ce CX P w K mg base N qual scope f cdv A outer s H E) [] (start N vs) H s1:=Vw S hr.hd e0 hl r x
 z5 wpAny_mono (ht [] s1 (start N vs) H _ I hq) (fun fl s' hs=>?_) fun e s' hs=>hs
 have fin:∀ {σ':St}{H':Hp}{v:V}{u:Value},Inv (Ce CX P w K mg base N qual scope f cdv A outer s H E) [] σ' H' s'->RelV v u->Q v H'->CE outer P w H s Q u s' :=
  fun {σ' H' v u} J rv q=>⟨v,H',J.os,J.bare,J.base,J.hok,rv,q⟩
 cases fl with
 | ret u =>
  x5⟨v,σ',H',J,rv,q⟩:=hs
  qV fin J rv q
 | next =>
  x5⟨σ',H',J,q⟩:=hs
  qV fin (v:=V.non) (u:=Value.none) J rfl q
 | brk =>
  x5⟨_,_,_,q⟩:=hs
  qV False.elim q
 | cont =>
  x5⟨_,_,_,q⟩:=hs
  qV False.elim q
section
variable {X:Cx}{x:Str}{p pos:Pos}{e:Expr}{es:List Expr}{t:TA}{id T:String}{r:List V->Hp->VK->Prop}
def tCB (r:List V->Hp->VK->Prop) (t:TA):TE:=fun σ H Q=>t σ H fun vs H1=>r vs H1 Q
~!cB (hc:h_ X (.builtin id) r) (hg:Gl X x) (hm:X.mg x=none) (hv:bootBuiltins x=some (.builtin id)) (ha:PA X (e::es) t) (hn:x ≠ "__name__" := by decide) (hdb:(x == ("__debug__" : Str))=false:=by decide)
  (he:starEach (e::es) X.env=(false,eval e X.env)::starEach es X.env:=by rfl) (hpl:(backTo pos (starEach es X.env)).any (·.1)=false:=by rfl):PE X (.Call (.Name x p) (e::es) [] pos) (tCB r t):=by
 intro pins s σ H Q I h
 z5 wpAny_Call_Name_kw (Al I hg hm hv ?_ hn hdb)
 qV PyProof.Rows.callWith_builtin1 (thn (ha pos pins s σ H _ I h) fun us s1 hP=>by x5⟨vs,H1,I1,r1,q1⟩:=hP; qV hc pins s1 σ H1 vs us Q I1 r1 q1) he hpl
~!lN (hc:h_ X (.type T) r) (hg:Gl X x) (hm:X.mg x=none) (hv:bootBuiltins x=some (.type T)) (ha:PA X (e::es) t) (hn:x ≠ "__name__" := by decide) (hdb:(x == ("__debug__" : Str))=false:=by decide)
  (he:starEach (e::es) X.env=(false,eval e X.env)::starEach es X.env:=by rfl) (hpl:(backTo pos (starEach es X.env)).any (·.1)=false:=by rfl):PE X (.Call (.Name x p) (e::es) [] pos) (tCB r t):=by
 intro pins s σ H Q I h
 z5 wpAny_Call_Name_kw (Al I hg hm hv ?_ hn hdb)
 qV PyProof.Rows.callWith_type1 (thn (ha pos pins s σ H _ I h) fun us s1 hP=>by x5⟨vs,H1,I1,r1,q1⟩:=hP; qV hc pins s1 σ H1 vs us Q I1 r1 q1) he hpl
end
end L2
namespace HT
open PySem PyProof.Rows
section
variable {prog:Program}{w:World}{A:Around}{E:Value->Shared->Prop}{s:Shared}
def sIx (n d:Nat):Option Int->Nat
 | none=>d
 | some v=>if v<0 then (v+(n:Int)).toNat else min v.toNat n
~!qd (n d k:Nat):sIx n d (some (k:Int))=min k n:=by
 show (if (k:Int)<0 then ((k:Int)+(n:Int)).toNat else min (k:Int).toNat n)=min k n
 rw [if_neg (by om),Int.toNat_natCast]
~!adY (n d:Nat) (hd:d <= n) (o:Option Int):sIx n d o <= n:=by
 cases o with
 | none=>qV hd
 | some v =>
  show (if v<0 then (v+(n:Int)).toNat else min v.toNat n) <= n
  by_cases hv:v<0
  .rw [if_pos hv]; om
  .rw [if_neg hv]; qV Nat.min_le_right _ _
end
end HT
namespace L2
open PySem PySem.Spec PyProof.Rows
abbrev TO:=St->Hp->(Option Int->Hp->Prop)->Prop
def PO (X:Cx) (e:Option Expr) (t:TO):Prop :=
 ∀ (pins:List (Addr×Obj)) (s:Shared) (σ:St) (H:Hp) (Q:Option Int->Hp->Prop),Inv X pins σ H s->t σ H Q ->
  wpAny (model X.prog X.w) X.A (evalPart e X.env) (fun u s'=>∃ o H',Inv X pins σ H' s'/\IsPart u o/\Q o H') X.xe s
def CP:TO:=fun _ H Q=>Q none H
def RK (t:TE):TO:=fun σ H Q=>t σ H fun x H1=>∃ i,x=.int i/\Q (some i) H1
~!intsAre_of {ns:List Int} : ∀ {us:List Value},Vals (ns.map V.int) us->IntsAre us ns:=by
 induction ns with
 | nil=>intro us r; rw [List.map_nil] at r; cases r; qV .nil
 | cons n ns ih =>
  intro us r
  rw [List.map_cons] at r
  cases r with
  | cons r1 r2 =>
   x5⟨t,e⟩:=r1
   subst e
   qV .cons n t (ih r2)
section
variable {X:Cx}{e:Expr}{te:TE}{lo hi:Option Expr}{tl th:TO}{pos p2:Pos}
~!wu:PO X none CP:=by
 intro pins s σ H Q I h
 rw [evalPart_none]
 qV wpAny_pure ⟨none,H,I,.none,h⟩
~!gU (h:PE X e te):PO X (some e) (RK te):=by
 intro pins s σ H Q I hw
 rw [evalPart_some]
 z5 thn (h pins s σ H _ I hw) fun u s1 hP=>?_
 x5⟨x,H1,I1,r1,q1⟩:=hP
 x5⟨i,rfl,q⟩:=q1
 x5⟨t,rfl⟩:=r1
 qV⟨some i,H1,I1,.int i t,q⟩
def SlR (X:Cx) (r:V->Option Int->Option Int->Hp->VK->Prop):Prop :=
 ∀ (pins:List (Addr×Obj)) (s:Shared) (σ:St) (H:Hp) (x:V) (v vl vu:Value) (lo hi:Option Int) (sl:Addr) (Q:VK),Inv X pins σ H s->RelV x v->s.heap.IsSliceOf sl vl vu .none->IsPart vl lo->IsPart vu hi->r x lo hi H Q ->
  ∃ T id,typeLookup (.type T) "__getitem__" = pure (some (.builtin id))/\s.TypeIs v T/\wpAny (model X.prog X.w) X.A (getItem v (.ref sl)) (EP X pins σ Q) X.xe s
def tSl (r:V->Option Int->Option Int->Hp->VK->Prop) (te:TE) (tl th:TO):TE:=fun σ H Q=>te σ H fun x H1=>tl σ H1 fun l H2=>th σ H2 fun u H3=>r x l u H3 Q
~!jz {r:V->Option Int->Option Int->Hp->VK->Prop} (hr:SlR X r) (he:PE X e te) (hl:PO X lo tl) (hu:PO X hi th):PE X (.Subscript e (.Slice lo hi none p2) pos) (tSl r te tl th):=by
 intro pins s σ H Q I h
 z5 Subscript_ (thn (he pins s σ H _ I h) fun v s1 hP=>?_)
 x5⟨x,H1,I1,r1,q1⟩:=hP
 z5 wpAny_Slice (thn (hl pins s1 σ H1 _ I1 q1) fun vl s2 ⟨l,H2,I2,pl,q2⟩=>thn (hu pins s2 σ H2 _ I2 q2) fun vu s3 hP=>?_)
 x5⟨u,H3,I3,pu,q3⟩:=hP
 rw [evalPart_none]
 z5 wpAny_pure ?_
 have I4:Inv X pins σ H3 { s3 with heap:=s3.heap.push { cls:=.type "slice",data:=.fields #[vl,vu,.none] } }:=I3.kept (t':=s3.toks) fun b ob q=>aH _ q
 x5⟨T,id,hT,ht,hg⟩:=hr pins { s3 with heap:=s3.heap.push { cls:=.type "slice",data:=.fields #[vl,vu,.none] } } σ H3 x v vl vu l u s3.heap.objs.size Q I4 r1 (Heap.IsSliceOf.new ..) pl pu q3
 show wpAny (model X.prog X.w) X.A (subscriptTail e (.Slice lo hi none p2) v (.ref s3.heap.objs.size)) (EP X pins σ Q) X.xe { s3 with heap:=s3.heap.push { cls:=.type "slice",data:=.fields #[vl,vu,.none] } }
 qV tail_any (ops:=[.ref s3.heap.objs.size,v]) ht hT hg (by with_unfolding_all rfl)
def m_ (xs:List V) (lo hi:Option Int):List V:=(xs.drop (HT.sIx xs.length 0 lo)).take (HT.sIx xs.length xs.length hi - HT.sIx xs.length 0 lo)
~!BL (xs:List V) (lo hi:Option Int):(m_ xs lo hi).length <= xs.length:=by
 unfold m_
 rw [bA,List.length_drop]
 om
end
def ixN (n:Nat) (i:Int):Option Nat:=if 0 <= i then (if i<n then some i.toNat else none) else if -(n:Int) <= i then some (i+n).toNat else none
def atI {α:Type} (xs:List α) (i:Int):Option α:=(ixN xs.length i).bind fun j=>xs[j]?
~!T9 {n:Nat}{i:Int}{j:Nat} (h:ixN n i=some j):seqIndex? i n=some j/\j<n/\-(n:Int) <= i/\i<n:=by
 unfold ixN at h
 by_cases h0:0 <= i
 .rw [if_pos h0] at h
  by_cases h1:i<n
  .rw [if_pos h1] at h
   have e:i.toNat=j:=Option.some.inj h
   qV⟨by rw [seqIndex_of h0 h1,e],by om,by om,h1⟩
  .rw [if_neg h1] at h; cases h
 .rw [if_neg h0] at h
  by_cases h1 : -(n:Int) <= i
  .rw [if_pos h1] at h
   have e:(i+n).toNat=j:=Option.some.inj h
   qV⟨by rw [seqIndex_neg (by om) h1,e],by om,h1,by om⟩
  .rw [if_neg h1] at h; cases h
~!Li {α:Type}{xs:List α}{i:Int}{v:α} (h:atI xs i=some v):∃ j,seqIndex? i xs.length=some j/\xs[j]?=some v/\j<xs.length/\-(xs.length:Int) <= i/\i<xs.length:=by
 unfold atI at h
 cases e:ixN xs.length i with
 | none=>rw [e] at h; cases h
 | some j =>
  rw [e] at h
  x5⟨h1,h2,h3,h4⟩:=T9 e
  qV⟨j,h1,h,h2,h3,h4⟩
~!b_ {α:Type}{xs:List α}{j:Nat}{v:α} (h:xs[j]?=some v):atI xs (j:Int)=some v:=by
 have hj:j<xs.length:=(aq.mp h).1
 have e:ixN xs.length (j:Int)=some j:=by
  unfold ixN
  rw [if_pos (by om),if_pos (by om)]; simp
 unfold atI; rw [e]; qV h
~!NK {α:Type} (xs:List α) (v:α):atI (xs++[v]) (-1)=some v:=by
 have hl:(xs++[v]).length=xs.length+1:=by simp
 have e:ixN (xs++[v]).length (-1)=some xs.length:=by
  unfold ixN
  rw [hl,if_neg (by decide),if_pos (by om)]
  congr 1
  om
 unfold atI
 rw [e]
 show (xs++[v])[xs.length]?=some v
 simp
def Ue (b:Expr):Prop:=∀ o i,subscripted b false o i=operate [o,i] (getItem o i)
def IxR (X:Cx) (r:R2):Prop :=
 ∀ (value slice:Expr) (pins:List (Addr×Obj)) (s:Shared) (σ:St) (H:Hp) (x y:V) (v u:Value) (Q:VK),Inv X pins σ H s->RelV x v->RelV y u->r x y H Q ->
  subscripted slice false v u=operate [v,u] (getItem v u)->wpAny (model X.prog X.w) X.A (subscriptTail value slice v u) (EP X pins σ Q) X.xe s
def MtR (X:Cx) (id:String) (r:V->List V->Hp->VK->Prop):Prop :=
 ∀ (pins:List (Addr×Obj)) (s:Shared) (σ:St) (H:Hp) (x:V) (xs:List V) (v:Value) (us:List Value) (Q:VK),Inv X pins σ H s->RelV x v->Vals xs us->r x xs H Q ->
  wpAny (model X.prog X.w) X.A (call (.builtin id) (v::us)) (EP X pins σ Q) X.xe s
section
variable {X:Cx}{a b:Expr}{ta tb:TE}{pos:Pos}
~!bZ {r:R2} (hr:IxR X r) (ha:PE X a ta) (hb:PE X b tb) (hs:Ue b):PE X (.Subscript a b pos) (tOp r ta tb):=by
 intro pins s σ H Q I h
 qV Subscript_ (ac5 ha hb I h fun v u s2 x y H2 I2 rx ry q=>hr a b pins s2 σ H2 x y v u Q I2 rx ry q (hs _ _))
def aah (K:Frag):R2:=fun x y H Q=>∃ p xs i v,x=.ref p/\y=.int i/\SqL K H p xs/\atI xs i=some v/\Q v H
def Nf (K:Frag):R2:=fun x y H Q=>∃ p xs i v,x=.ref p/\y=.int i/\SqT K H p xs/\atI xs i=some v/\Q v H
def aaU:R2:=fun x y H Q=>∃ z i c,x=.str z/\y=.int i/\z.length <= sizeLine/\atI z.cps.toList i=some c/\Q (.str ⟨#[c]⟩) H
~!abB:IxR X (aah X.K):=by
 intro value slice pins s σ H x y v u Q I rx ry h hs
 x5⟨p,xs,i,z,rfl,rfl,hq,he,q⟩:=h
 cases rx
 x5⟨t,rfl⟩:=ry
 x5⟨its,r,pl,hz⟩:=I.list hq
 x5⟨j,h1,h2,h3,h4,h5⟩:=Li he
 x5⟨w,ew,rw'⟩:=r.get h2
 have hl:=r.length
 have hn:=uq
 have fin:EP X pins σ Q w s:=⟨z,H,I,rw',q⟩
 by_cases h0:0 <= i
 .have hj:i.toNat=j:=by
   rw [seqIndex_of h0 h5] at h1
   qV Option.some.inj h1
  qV item_listR pl.isList h0 (by om) (by rw [hj]; simpa using ew) fin hs
 .have hj:(i+(its.toArray.size:Int)).toNat=j:=by
   rw [seqIndex_neg (by om) h4] at h1
   rw [bw,<- hl]
   qV Option.some.inj h1
  qV subscriptTail_builtinR (x:=w) pl.isList.typeIs slot_list_getitem.lookup
   (wpAny_getItem_list_neg (Q:=fun r s'=>r=w/\EP X pins σ Q r s') pl.isList (by om) (by rw [bw] <;> om) (by om) (by rw [hj]; simpa using ew) ⟨rfl,fin⟩) hs
~!cX:IxR X (Nf X.K):=by
 intro value slice pins s σ H x y v u Q I rx ry h hs
 x5⟨p,xs,i,z,rfl,rfl,hq,he,q⟩:=h
 cases rx
 x5⟨t,rfl⟩:=ry
 x5⟨its,r,pl,hz⟩:=I.tuple hq
 x5⟨j,h1,h2,h3,h4,h5⟩:=Li he
 x5⟨w,ew,rw'⟩:=r.get h2
 have hl:=r.length
 have hn:=uq
 have fin:EP X pins σ Q w s:=⟨z,H,I,rw',q⟩
 qV subscriptTail_builtinR (x:=w) pl.typeIs slot_tuple_getitem.lookup
  (getItem_tuple (j:=j) (Q:=fun r s'=>r=w/\EP X pins σ Q r s') pl (by om) (by om) (by rw [bw,<- hl]; qV h1) (by simpa using ew) ⟨rfl,fin⟩) hs
~!Qn:IxR X aaU:=by
 intro value slice pins s σ H x y v u Q I rx ry h hs
 x5⟨z,i,c,rfl,rfl,hz,he,q⟩:=h
 x5⟨t,rfl⟩:=rx
 x5⟨t',rfl⟩:=ry
 x5⟨j,h1,h2,h3,h4,h5⟩:=Li he
 have hl:z.cps.toList.length=z.length:=by simp [Str.length]
 rw [hl] at h1 h4 h5
 have hn:=uq
 qV tail_any (typeIs_str s z t) slot_str_getitem.lookup (getItem_str (c:=c) (by
  have e1:decide (i < -(2 ^ 63:Int))=false:=decide_eq_false (by om)
  have e2:decide (i >= 2 ^ 63)=false:=decide_eq_false (by om)
  rw [e1,e2,Bool.or_false]) (by rw [h1]; simpa using h2) ⟨.str ⟨#[c]⟩,H,I.tok _,⟨_,rfl⟩,q⟩) hs
~!PK (its:List Value) (n j:Nat) (u:Value):Obj.mapSeq (·.setIfInBounds j u) { cls:=.type "list",data:=.seq its.toArray n }={ cls:=.type "list",data:=.seq (its.set j u).toArray n }:=by
 simp [Obj.mapSeq]
~!Inv.lst {pins:List (Addr×Obj)}{σ:St}{H:Hp}{s:Shared}{p:Addr}{xs:List V} (I:Inv X pins σ H s) (h:H p=some (.lst xs)) :
  ∃ (its:List Value) (n:Nat),Vals xs its/\s.heap.get? p=some { cls:=.type "list",data:=.seq its.toArray n }/\xs.length <= sizeLine:=by
 x5⟨z,its,n,r,e⟩:=I.hok p _ h
 qV⟨its,n,r,e,z⟩
~!Inv.lstUpd {pins:List (Addr×Obj)}{σ:St}{H:Hp}{s:Shared}{p:Addr}{xs ys:List V}{its its':List Value}{n n':Nat}{f:Obj->Obj} (I:Inv X pins σ H s) (h:H p=some (.lst xs))
  (ho:s.heap.get? p=some { cls:=.type "list",data:=.seq its.toArray n }) (hf:f { cls:=.type "list",data:=.seq its.toArray n }={ cls:=.type "list",data:=.seq its'.toArray n' }) (r:Vals ys its') (hz:ys.length <= sizeLine) (t:Nat) :
  Inv X pins σ (upd H p (.lst ys)) { s with heap:=s.heap.update p f,toks:=t }:=by
 have e:(s.heap.update p f).get? p=some { cls:=.type "list",data:=.seq its'.toArray n' }:=by
  rw [Heap.get?_update_self f ho (by rw [hf] <;> rfl),hf]
 z5 I.write (x:=p) (e:=p) (by rw [h]; trivial) (.inl rfl) (fun b u hb q=>(Heap.get?_update_other _ _ (Ne.symm hb)).trans q) ⟨_,e⟩ ?_
 qV⟨hz,its',n',r,e⟩
def Ss:V->V->V->Hp->(Hp->Prop)->Prop:=fun o i v H Q=>∃ p xs k j,o=.ref p/\i=.int k/\H p=some (.lst xs)/\ixN xs.length k=some j/\Q (upd H p (.lst (xs.set j v)))
~!set_list:aeY X Ss:=by
 intro pins s σ H o i v ov iv u Q I ro ri rv h
 x5⟨p,xs,k,j,rfl,rfl,hp,hj,q⟩:=h
 cases ro
 x5⟨t,rfl⟩:=ri
 x5⟨its,n,r,ho,hz⟩:=I.lst hp
 x5⟨h1,h2,h3,h4⟩:=T9 hj
 have hl:=r.length
 have hn:=uq
 have I':Inv X pins σ (upd H p (.lst (xs.set j v))) { s with heap:=s.heap.update p (Obj.mapSeq (·.setIfInBounds j u)) } :=
  I.lstUpd hp ho (PK its n j u) (r.set rv j) (by rw [List.length_set]; qV hz) s.toks
 by_cases h0:0 <= k
 .have hk:k.toNat=j:=by
   rw [seqIndex_of h0 h4] at h1
   qV Option.some.inj h1
  qV PySem.W.ki_setAt ho h0 (by om) (by rw [bw,<- hl]; qV h4) (by rw [hk]; qV⟨_,I',q⟩)
 .have hk:(k+(its.toArray.size:Int)).toNat=j:=by
   rw [seqIndex_neg (by om) h3] at h1
   rw [bw,<- hl]
   qV Option.some.inj h1
  qV PySem.W.ki_setBack ho (by om) (by rw [bw,<- hl]; qV h3) (by om) (by rw [hk]; qV⟨_,I',q⟩)
~!Ji (lo hi:Option Int) (n:Nat):(sliceBounds lo hi none n).1=((HT.sIx n 0 lo:Nat):Int)/\(sliceBounds lo hi none n).2.1=((HT.sIx n n hi:Nat):Int)/\(sliceBounds lo hi none n).2.2=1:=by
 z5⟨?_,?_,rfl⟩
 .cases lo with
  | none=>simp [sliceBounds,HT.sIx]
  | some i =>
   simp only [sliceBounds,HT.sIx,Option.getD_none,show (1:Int) > 0 by decide,if_true]
   by_cases h:i<0
   .simp only [h,if_true] <;> om
   .simp only [h,if_false] <;> om
 .cases hi with
  | none=>simp [sliceBounds,HT.sIx]
  | some i =>
   simp only [sliceBounds,HT.sIx,Option.getD_none,show (1:Int) > 0 by decide,if_true]
   by_cases h:i<0
   .simp only [h,if_true] <;> om
   .simp only [h,if_false] <;> om
~!HS (its:List Value) (lo hi:Option Int):slicePick its.toArray lo hi none=((its.drop (HT.sIx its.length 0 lo)).take (HT.sIx its.length its.length hi - HT.sIx its.length 0 lo)).toArray:=by
 x5⟨h1,h2,h3⟩:=Ji lo hi its.toArray.size
 unfold slicePick
 rw [h1,h2,h3]
 simp only [sliceRange_one,pick_run,bw] <;> rfl
def ab3 (K:Frag):V->Option Int->Option Int->Hp->VK->Prop:=fun x lo hi H Q=>∃ a xs,x=.ref a/\SqL K H a xs/\∀ p,H p=none->Q (.ref p) (upd H p (.lst (m_ xs lo hi)))
~!CG:SlR X (ab3 X.K):=by
 intro pins s σ H x v vl vu lo hi sl Q I rx hs pl pu h
 x5⟨a,xs,rfl,hx,q⟩:=h
 cases rx
 x5⟨its,r,ht,hz⟩:=I.list hx
 have hlen:=r.length
 z5⟨"list",_,slot_list_getitem.lookup,ht.isList.typeIs,?_⟩
 z5 wpAny_getItem_list_slice ht.isList hs pl pu .none (by simp) ?_ (by rw [bw] <;> om)
 rw [HS,<- hlen]
 z5⟨.ref s.heap.objs.size,_,I.laid (t':=s.toks) (o:=.lst (m_ xs lo hi)) (fun b ob q=>aH _ q) (aG _) ?_,rfl,q _ (I.hok.fresh (aG _))⟩
 qV⟨aN (BL xs lo hi) hz,_,0,(r.drop (HT.sIx xs.length 0 lo)).take (HT.sIx xs.length xs.length hi - HT.sIx xs.length 0 lo),bh _ rfl⟩
def pO:V->Bool
 | .non=>true
 | .bl _=>true
 | .int _=>true
 | .str _=>true
 | _=>false
def eqV:V->V->Bool
 | .non,.non=>true
 | .bl a,.bl b=>a == b
 | .bl a,.int b=>(if a then 1 else 0) == b
 | .int a,.bl b=>a == (if b then 1 else 0)
 | .int a,.int b=>a == b
 | .str a,.str b=>a == b
 | _,_=>false
~!acB {A:Around}{s:Shared}{y x:V}{u v:Value} (ry:RelV y u) (rx:RelV x v) (fy:pO y=true) (fx:pO x=true):SeqAt.EqAt A s u v (eqV y x):=by
 cases y with
 | non =>
  cases ry
  cases x with
  | non=>cases rx; qV SeqAt.EqAt.same _
  | bl b=>cases rx; qV SeqAt.EqAt.none_bool b
  | int b=>x5⟨t,rfl⟩:=rx; qV SeqAt.EqAt.none_int b t
  | str b=>x5⟨t,rfl⟩:=rx; qV SeqAt.EqAt.none_str b t
  | _=>qV absurd (show false=true from fx) bF
 | bl a =>
  cases ry
  cases x with
  | non=>cases rx; qV SeqAt.EqAt.bool_none a
  | bl b=>cases rx; qV SeqAt.EqAt.bool_bool a b
  | int b=>x5⟨t,rfl⟩:=rx; qV SeqAt.EqAt.bool_int a b t
  | str b=>x5⟨t,rfl⟩:=rx; qV SeqAt.EqAt.bool_str a b t
  | _=>qV absurd (show false=true from fx) bF
 | int a =>
  x5⟨t',rfl⟩:=ry
  cases x with
  | non=>cases rx; qV SeqAt.EqAt.int_none a t'
  | bl b=>cases rx; qV SeqAt.EqAt.int_bool a t' b
  | int b=>x5⟨t,rfl⟩:=rx; qV SeqAt.EqAt.int_int a t' b t
  | str b=>x5⟨t,rfl⟩:=rx; qV SeqAt.EqAt.int_str a t' b t
  | _=>qV absurd (show false=true from fx) bF
 | str a =>
  x5⟨t',rfl⟩:=ry
  cases x with
  | non=>cases rx; qV SeqAt.EqAt.str_none a t'
  | bl b=>cases rx; qV SeqAt.EqAt.str_bool a t' b
  | int b=>x5⟨t,rfl⟩:=rx; qV SeqAt.EqAt.str_int a t' b t
  | str b=>x5⟨t,rfl⟩:=rx; qV SeqAt.EqAt.str_str a t' b t
  | _=>qV absurd (show false=true from fx) bF
 | _=>qV absurd (show false=true from fy) bF
def eqU (x:V) (u:Value):Bool:=match u with
 | .none=>eqV .non x
 | .bool b=>eqV (.bl b) x
 | .int i _=>eqV (.int i) x
 | .str z _=>eqV (.str z) x
 | _=>false
~!Yl {x y:V}{u:Value} (r:RelV y u) (f:pO y=true):eqU x u=eqV y x:=by
 cases y with
 | non=>cases r; rfl
 | bl b=>cases r; rfl
 | int i=>x5⟨t,rfl⟩:=r; rfl
 | str z=>x5⟨t,rfl⟩:=r; rfl
 | _=>qV absurd (show false=true from f) bF
~!zP {x:V} : ∀ {xs:List V}{us:List Value},Vals xs us->xs.all pO=true->us.any (eqU x)=xs.any fun y=>eqV y x
 | _,_,.nil,_=>rfl
 | y::xs,u::us,.cons r t,f=>by
  rw [List.all_cons,Bool.and_eq_true] at f
  rw [List.any_cons,List.any_cons,Yl r f.1,zP t f.2]
~!tL {A:Around}{s:Shared}{x:V}{v:Value} (rx:RelV x v) (fx:pO x=true):∀ {xs:List V}{us:List Value},Vals xs us->xs.all pO=true->∀ u∈us,SeqAt.EqAt A s u v (eqU x u)
 | _,_,.nil,_=>fun u hu=>by cases hu
 | y::xs,u::us,.cons r t,f=>fun u' hu=>by
  rw [List.all_cons,Bool.and_eq_true] at f
  rcases List.mem_cons.mp hu with rfl | hu
  .rw [Yl r f.1]; qV acB r rx f.1 fx
  .exact tL rx fx t f.2 u' hu
def inV (x:V) (xs:List V):Bool:=xs.any fun y=>eqV y x
def rIn (K:Frag) (neg:Bool):R2:=fun x y H Q=>∃ p xs,y=.ref p/\(SqL K H p xs\/SqT K H p xs)/\pO x=true/\xs.all pO=true/\Q (.bl (if neg then !inV x xs else inV x xs)) H
~!VF:OpR X (compareOp .In) (rIn X.K false):=by
 intro pins s σ H x y v u Q I rx ry h
 x5⟨p,xs,rfl,hq,fx,fs,q⟩:=h
 cases ry
 rcases hq with hq | hq
 .obtain ⟨its,r,pl,hz⟩:=I.list hq
  z5 SeqAt.in_listAt (eqU x) pl.isList (fun w hw=>tL rx fx r fs w (by simpa using hw)) ⟨.bl _,H,I,rfl,?_⟩
  rw [show its.toArray.any (eqU x)=its.any (eqU x) by simp,zP r fs]
  qV q
 .obtain ⟨its,r,pl,hz⟩:=I.tuple hq
  z5 SeqAt.in_tupleAt (eqU x) pl (fun w hw=>tL rx fx r fs w (by simpa using hw)) ⟨.bl _,H,I,rfl,?_⟩
  rw [show its.toArray.any (eqU x)=its.any (eqU x) by simp,zP r fs]
  qV q
~!Lz:OpR X (compareOp .NotIn) (rIn X.K true):=by
 intro pins s σ H x y v u Q I rx ry h
 x5⟨p,xs,rfl,hq,fx,fs,q⟩:=h
 cases ry
 rcases hq with hq | hq
 .obtain ⟨its,r,pl,hz⟩:=I.list hq
  z5 SeqAt.notIn_listAt (eqU x) pl.isList (fun w hw=>tL rx fx r fs w (by simpa using hw)) ⟨.bl _,H,I,rfl,?_⟩
  rw [show its.toArray.any (eqU x)=its.any (eqU x) by simp,zP r fs]
  qV q
 .obtain ⟨its,r,pl,hz⟩:=I.tuple hq
  z5 SeqAt.notIn_tupleAt (eqU x) pl (fun w hw=>tL rx fx r fs w (by simpa using hw)) ⟨.bl _,H,I,rfl,?_⟩
  rw [show its.toArray.any (eqU x)=its.any (eqU x) by simp,zP r fs]
  qV q
~!yK:h_ X (.builtin "len") (fun xs H Q=>∃ p ys,xs=[.ref p]/\(SqL X.K H p ys\/SqT X.K H p ys)/\Q (.int ys.length) H):=by
 intro pins s σ H xs us Q I r h
 x5⟨p,ys,rfl,hq,q⟩:=h
 x5⟨u,rfl,rx⟩:=vals1 r
 cases rx
 have hn:=uq
 rcases hq with hq | hq
 .obtain ⟨its,r',pl,hz⟩:=I.list hq
  have hlen:=r'.length
  qV Calls.call_len_list pl.isList (by simp only [bw] <;> om) ⟨.int ys.length,H,I.tok _,⟨s.toks+1,by rw [bw,hlen]⟩,q⟩
 .obtain ⟨its,r',pl,hz⟩:=I.tuple hq
  have hlen:=r'.length
  qV len_tuple pl (by simp only [bw] <;> om) ⟨.int ys.length,H,I.tok _,⟨s.toks+1,by rw [bw,hlen]⟩,q⟩
~!JQ:h_ X (.builtin "len") (fun xs H Q=>∃ z,xs=[.str z]/\z.length <= sizeLine/\Q (.int z.length) H):=by
 intro pins s σ H xs us Q I r h
 x5⟨z,rfl,hz,q⟩:=h
 x5⟨u,rfl,t,rfl⟩:=vals1 r
 have hn:=uq
 qV len_str (by om) ⟨.int z.length,H,I.tok _,⟨_,rfl⟩,q⟩
~!h_.or {f:Value}{r r':List V->Hp->VK->Prop} (h:h_ X f r) (h':h_ X f r'):h_ X f (fun xs H Q=>r xs H Q\/r' xs H Q):=by
 intro pins s σ H xs us Q I rs q
 rcases q with q | q
 .exact h pins s σ H xs us Q I rs q
 .exact h' pins s σ H xs us Q I rs q
~!KD:h_ X (.type "list") (fun xs H Q=>∃ p ys,xs=[.ref p]/\(SqL X.K H p ys\/SqT X.K H p ys)/\∀ l,H l=none->Q (.ref l) (upd H l (.lst ys))):=by
 intro pins s σ H xs us Q I r h
 x5⟨p,ys,rfl,hq,q⟩:=h
 x5⟨u,rfl,rx⟩:=vals1 r
 cases rx
 have fin:∀ (its:List Value),Vals ys its->ys.length <= sizeLine->∀ (h':Heap) (c':Nat),(∀ b o',s.heap.get? b=some o'->h'.get? b=some o') ->
   h'.get? s.heap.objs.size=some { cls:=.type "list",dict:=none,data:=.seq its.toArray c',slots:=#[] }->EP X pins σ Q (.ref s.heap.objs.size) { s with heap:=h' }:=fun its r' hz h' c' kp e =>
  ⟨.ref s.heap.objs.size,_,I.laid (t':=s.toks) kp (aG _) (show dU X.prog X.w _ h' _ (.lst ys) from ⟨hz,its,c',r',e⟩),rfl,q _ (I.hok.fresh (aG _))⟩
 rcases hq with hq | hq
 .obtain ⟨its,r',pl,hz⟩:=I.list hq
  have hlen:=r'.length
  x5⟨o,ho,hc,n,hd⟩:=pl.isList
  qV call_list_seq p (.inl rfl) ho hc hd (fun h' c' kp e=>fin its r' hz h' c' kp e) (by simp only [bw] <;> om)
 .obtain ⟨its,r',pl,hz⟩:=I.tuple hq
  have hlen:=r'.length
  x5⟨o,ho,hc,n,hd⟩:=pl
  qV call_list_seq p (.inr rfl) ho hc hd (fun h' c' kp e=>fin its r' hz h' c' kp e) (by simp only [bw] <;> om)
def tyV (K:Frag) (T:String) (x:V) (H:Hp):Prop:=match x with
 | .str _=>T = "str"
 | .int _=>T = "int"
 | .ref p=>(T = "list" /\ ∃ xs,SqL K H p xs)\/(T = "tuple" /\ ∃ o,K.lookup p=some o/\o.cls=.type "tuple" /\ o.dict=none) \/
   (T = "dict" /\ (∃ kvs,H p=some (.dK kvs)))\/(T = "set" /\ ∃ S n,H p=some (.set S n))
 | _=>False
~!YJ {pins:List (Addr×Obj)}{σ:St}{H:Hp}{s:Shared}{T:String}{x:V}{v:Value} (I:Inv X pins σ H s) (r:RelV x v) (ty:tyV X.K T x H) :
  s.TypeIs v T/\∀ a,v=.ref a->∃ ob,s.heap.get? a=some ob/\ob.dict=none:=by
 cases x with
 | str z =>
  x5⟨t,rfl⟩:=r
  cases (show T = "str" from ty)
  qV⟨typeIs_str s z t,fun _ e=>nomatch e⟩
 | int i =>
  x5⟨t,rfl⟩:=r
  cases (show T = "int" from ty)
  qV⟨typeIs_int s i t,fun _ e=>nomatch e⟩
 | ref p =>
  cases r
  rcases ty with ⟨rfl,xs,hq⟩ | ⟨rfl,o,hk,hc,hd⟩ | ⟨rfl,hk⟩ | ⟨rfl,S,n,hk⟩
  .obtain ⟨its,_,pl,_⟩:=I.list hq
   z5⟨pl.isList.typeIs,fun a e=>?_⟩
   cases e
   x5⟨o,n,e,c,hd,_⟩:=pl
   qV⟨o,e,hd⟩
  .refine ⟨⟨o,I.kIn p o hk,hc⟩,fun a e=>?_⟩
   cases e
   qV⟨o,I.kIn _ o hk,hd⟩
  .have z:∃ o,s.heap.get? p=some o/\o.ExactDict:=by
    x5⟨kvs,hk⟩:=hk
    x5⟨_,_,_,_,o,_,_,e,ex,_⟩:=I.hok p _ hk
    qV⟨o,e,ex⟩
   x5⟨o,e,ex⟩:=z
   z5⟨⟨o,e,ex.1⟩,fun a e2=>?_⟩
   cases e2
   qV⟨o,e,ex.2.1⟩
  .obtain ⟨o,_,_,_,e,ex,_⟩:=I.hok p _ hk
   z5⟨⟨o,e,ex.1⟩,fun a e2=>?_⟩
   cases e2
   qV⟨o,e,ex.2.1⟩
 | _=>qV False.elim ty
def ahS (K:Frag) (T:String) (r:V->List V->Hp->VK->Prop) (to:TE):TE:=fun σ H Q=>to σ H fun x H1=>tyV K T x H1/\r x [] H1 Q
def tBM (K:Frag) (T:String) (r:V->List V->Hp->VK->Prop) (to:TE) (t:TA):TE:=fun σ H Q=>to σ H fun x H1=>tyV K T x H1/\t σ H1 fun xs H2=>r x xs H2 Q
variable {o e:Expr}{es:List Expr}{to:TE}{t:TA}{name:Str}{apos cpos:Pos}{T id:String}{r:V->List V->Hp->VK->Prop}
~!adb (pa:PlainAttrs T) (slot:Slot T name id) (hty:typeOf (.builtin id)=pure (.type "method_descriptor")) (hm:MtR X id r) (ho:PE X o to)
  (hbase:attributeBase o name X.env (eval o X.env)=eval o X.env:=by rfl) (hline:(apos.endLine == cpos.line)=true:=by rfl):PE X (.Call (.Attribute o name apos) [] [] cpos) (ahS X.K T r to):=by
 intro pins s σ H Q I h
 z5 wpAny_Call_method0_late hbase hline (thn (ho pins s σ H _ I h) fun v s1 hP=>?_)
 x5⟨x,H1,I1,r1,ty,q1⟩:=hP
 x5⟨h1,h2⟩:=YJ I1 r1 ty
 qV⟨T,id,pa,slot,hty,h1,h2,Calls.callWith_builtin rfl (PySem.evalArgs_none (hm pins s1 σ H1 x [] v [] Q I1 r1 .nil q1))⟩
~!acg (pa:PlainAttrs T) (slot:Slot T name id) (hty:typeOf (.builtin id)=pure (.type "method_descriptor")) (hm:MtR X id r) (ho:PE X o to) (ha:PA X (e::es) t)
  (hbase:attributeBase o name X.env (eval o X.env)=eval o X.env:=by rfl)
  (hfew:((backTo cpos (starEach (e::es) X.env)).all (fun x=>!x.1) && (backToKw cpos (keywordEach [] X.env)).all (fun x=>x.1.isSome)
   && decide ((e::es).length+([] : List Keyword).length+(if ([] : List Keyword).isEmpty then 0 else 1)<30))=true:=by rfl)
  (hline:(apos.endLine == cpos.line)=true:=by rfl) (hs:starEach (e::es) X.env=(false,eval e X.env)::starEach es X.env:=by rfl) (hplain:(backTo cpos (starEach es X.env)).any (·.1)=false:=by rfl) :
  PE X (.Call (.Attribute o name apos) (e::es) [] cpos) (tBM X.K T r to t):=by
 intro pins s σ H Q I h
 z5 wpAny_Call_method_late hbase hfew hline rfl (thn (ho pins s σ H _ I h) fun v s1 hP=>?_)
 x5⟨x,H1,I1,r1,ty,q1⟩:=hP
 x5⟨h1,h2⟩:=YJ I1 r1 ty
 z5⟨T,id,pa,slot,hty,h1,h2,?_⟩
 have hA:=ha cpos pins s1 σ H1 _ I1 q1
 rw [hs] at hA ⊢
 z5 Calls.callWith_builtin (by show (false || (backTo cpos (starEach es X.env)).any (·.1))=false; rw [hplain] <;> rfl) (Calls.evalArgs_plain ?_)
 qV thn hA fun us s2 hP=>by x5⟨vs,H2,I2,r2,q2⟩:=hP; qV hm pins s2 σ H2 x vs v us Q I2 r1 r2 q2
/- xs.append(e),list.index on a module's tuple .. are MtR facts of 06m -/
end
def MtM (X:Cx) (id:String) (r:V->List V->Hp->VK->Prop):Prop :=
 ∀ (pins:List (Addr×Obj)) (s:Shared) (σ:St) (H:Hp) (x:V) (xs:List V) (v:Value) (us:List Value) (Q:VK),Inv X pins σ H s->RelV x v->Vals xs us->r x xs H Q ->
  wpAny (model X.prog X.w) X.A (call (.builtin id) (v::us)) (EP X pins σ Q) X.xe s
~!Vals.one:∀ {x:V}{us:List Value},Vals [x] us->∃ u,us=[u]/\RelV x u
 | _,_,.cons r .nil=>⟨_,rfl,r⟩
~!Vals.two {x y:V}{us:List Value} (h:Vals [x,y] us):∃ u v,us=[u,v]/\RelV x u/\RelV y v:=by
 cases h with | cons r t=>cases t with | cons q t=>cases t; qV⟨_,_,rfl,r,q⟩
~!Vals.zero:∀ {us:List Value},Vals [] us->us=[]
 | _,.nil=>rfl
~!Vals.eraseIdx:∀ {xs:List V}{us:List Value} (i:Nat),Vals xs us->Vals (xs.eraseIdx i) (us.eraseIdx i)
 | _,_,_,.nil=>.nil
 | _,_,0,.cons _ t=>t
 | _,_,i+1,.cons r t=>.cons r (Vals.eraseIdx i t)
~!Vals.reverse {xs:List V}{us:List Value} (h:Vals xs us):Vals xs.reverse us.reverse:=by
 induction h with
 | nil=>qV .nil
 | cons r t ih=>rw [List.reverse_cons,List.reverse_cons]; qV Vals.append ih (.cons r .nil)
~!Vals.rep {xs:List V}{us:List Value} (h:Vals xs us):∀ k:Nat,Vals (List.replicate k xs).flatten (List.replicate k us).flatten
 | 0=>.nil
 | k+1=>by
  rw [List.replicate_succ,List.replicate_succ,List.flatten_cons,List.flatten_cons]
  qV Vals.append h (Vals.rep h k)
~!Ih {α:Type} : ∀ (l:List α) (i:Nat),(l.eraseIdx i).length <= l.length
 | [],_=>aG _
 | _::_,0=>Nat.le_succ _
 | _::r,i+1=>Nat.succ_le_succ (Ih r i)
~!foldl_rep (its:List Value):∀ (k:Nat) (acc:List Value),
  List.foldl (fun x1 x2=>x1++x2) acc.toArray (List.replicate k its.toArray)=(acc++(List.replicate k its).flatten).toArray
 | 0,acc=>by simp
 | k+1,acc=>by
  have e:acc.toArray++its.toArray=(acc++its).toArray:=by simp
  have e2:(acc++its)++(List.replicate k its).flatten=acc++(List.replicate (k+1) its).flatten:=by
   rw [List.replicate_succ,List.flatten_cons,List.append_assoc]
  rw [<- e2,<- foldl_rep its k (acc++its),<- e,List.replicate_succ,List.foldl_cons]
section
variable {X:Cx}{pins:List (Addr×Obj)}{σ:St}{H:Hp}{s:Shared}{l b:Addr}{xs ys zs:List V}
~!Inv.lset {its its':List Value}{n:Nat}{f:Array Value->Array Value}{t':Nat} (I:Inv X pins σ H s) (hH:H l=some (.lst xs))
  (e:s.heap.get? l=some { cls:=.type "list",data:=.seq its.toArray n }) (hf:f its.toArray=its'.toArray) (hv:Vals ys its') (hz:ys.length <= sizeLine) :
  Inv X pins σ (upd H l (.lst ys)) { s with heap:=s.heap.update l (Obj.mapSeq f),toks:=t' }:=by
 have q:=PySem.IsL.update e f
 rw [hf] at q
 z5 I.write (x:=l) (e:=l) (by rw [hH]; qV trivial) (.inl rfl) (fun b' u hb hu=>(Heap.get?_update_other s.heap (Obj.mapSeq f) (Ne.symm hb)).trans hu) ⟨_,q⟩ ?_
 qV⟨hz,its',_,hv,q⟩
~!Inv.lnew {its:List Value}{t':Nat} (I:Inv X pins σ H s) (hv:Vals ys its) (hz:ys.length <= sizeLine) :
  Inv X pins σ (upd H s.heap.objs.size (.lst ys)) { s with heap:=s.heap.push { cls:=.type "list",data:=.seq its.toArray },toks:=t' } :=
 I.laid (fun _ _ q=>aH _ q) (aG _) ⟨hz,its,0,hv,bh _ rfl⟩
~!Inv.fresh (I:Inv X pins σ H s):H s.heap.objs.size=none:=I.hok.fresh (aG _)
~!Inv.lstM (I:Inv X pins σ H s) (hH:H l=some (.lst xs)):xs.length <= sizeLine/\∃ (its:List Value) (n:Nat),Vals xs its/\xs.length=its.length/\s.heap.get? l=some { cls:=.type "list",data:=.seq its.toArray n }:=by
 x5⟨z,its,n,r,e⟩:=I.hok l _ hH
 qV⟨z,its,n,r,r.length,e⟩
~!Y5 {n:Nat} (h:n <= sizeLine):Builtin.List.listTooLong n=false:=by
 unfold Builtin.List.listTooLong
 qV decide_eq_false (by om)
end
section
variable {X:Cx}
def aaT:V->List V->Hp->VK->Prop:=fun x vs H Q=>∃ l xs y,x=.ref l/\vs=[y]/\H l=some (.lst xs)/\xs.length<sizeLine/\Q .non (upd H l (.lst (xs++[y])))
~!HY:MtM X "list.append" aaT:=by
 intro pins s σ H x vs v us Q I rx rv h
 x5⟨l,xs,y,rfl,rfl,hH,hz,q⟩:=h
 cases rx
 x5⟨u,rfl,ru⟩:=rv.one
 x5⟨z,its,n,r,hl,e⟩:=I.lstM hH
 z5 call_meets F.slot_list_append ⟨_,e,rfl⟩ F.entry_list_append (F.args_list_append_2 _ _) (PySem.list_append l its.toArray n u (by rw [bw]; om)) ⟨e,?_⟩
 z5⟨.non,_,I.lset (its':=its++[u]) hH e (by simp) (r.append (.cons ru .nil)) ?_,rfl,q⟩
 rw [aB,List.length_singleton]
 om
def Xg:V->List V->Hp->VK->Prop:=fun x vs H Q=>∃ l xs,x=.ref l/\vs=[]/\H l=some (.lst xs)/\Q .non (upd H l (.lst xs.reverse))
~!Pz:MtM X "list.reverse" Xg:=by
 intro pins s σ H x vs v us Q I rx rv h
 x5⟨l,xs,rfl,rfl,hH,q⟩:=h
 cases rx
 have hus:=rv.zero
 subst hus
 x5⟨z,its,n,r,hl,e⟩:=I.lstM hH
 z5 call_meets F.slot_list_reverse ⟨_,e,rfl⟩ F.entry_list_reverse (F.args_list_reverse_1 _) (AutoSeq1.list_reverse_list_0 l its.toArray n (by rw [bw]; om)) ⟨e,?_⟩
 z5⟨.non,_,I.lset (its':=its.reverse) hH e (by simp) r.reverse ?_,rfl,q⟩
 rw [List.length_reverse]
 om
def aaH:R2:=fun x y H Q=>∃ l b xs zs,x=.ref l/\y=.ref b/\H l=some (.lst xs)/\H b=some (.lst zs)/\xs.length+zs.length <= sizeLine/\∀ p,H p=none->Q (.ref p) (upd H p (.lst (xs++zs)))
~!Qc:OpR X (binaryOp .Add) aaH:=by
 intro pins s σ H x y v u Q I rx ry h
 x5⟨l,b,xs,zs,rfl,rfl,hH,hB,hz,q⟩:=h
 cases rx
 cases ry
 x5⟨z,its,n,r,hl,e⟩:=I.lstM hH
 x5⟨z2,its2,n2,r2,hl2,e2⟩:=I.lstM hB
 z5 PySem.P.add_list e e2 ?_ (by rw [bw,bw]; om)
 have ea:its.toArray++its2.toArray=(its++its2).toArray:=by simp
 rw [ea]
 qV⟨.ref _,_,I.lnew (t':=s.toks) (r.append r2) (by rw [aB]; om),rfl,q _ I.fresh⟩
def ah7:R2:=fun x y H Q=>∃ l k xs,x=.ref l/\y=.int k/\H l=some (.lst xs)/\-(2 ^ 63) <= k/\k<2 ^ 63/\xs.length * k.toNat <= sizeLine /\
 ∀ p,H p=none->Q (.ref p) (upd H p (.lst (List.replicate k.toNat xs).flatten))
~!len_rep {α:Type} (xs:List α) (k:Nat):(List.replicate k xs).flatten.length=k * xs.length:=by
 induction k with
 | zero=>simp
 | succ k ih=>rw [List.replicate_succ,List.flatten_cons,aB,ih,Nat.succ_mul,Nat.add_comm]
~!Yy:OpR X (binaryOp .Mult) ah7:=by
 intro pins s σ H x y v u Q I rx ry h
 x5⟨l,k,xs,rfl,rfl,hH,h1,h2,hz,q⟩:=h
 cases rx
 x5⟨t,rfl⟩:=ry
 x5⟨z,its,n,r,hl,e⟩:=I.lstM hH
 have hlen:its.toArray.size * k.toNat <= sizeLine:=by rw [bw,<- hl]; qV hz
 have hcap:¬ its.toArray.size * k.toNat > (2 ^ 63 - 1) / 8:=by
  have:(sizeLine:Nat) <= (2 ^ 63 - 1) / 8:=by decide
  om
 have hfit:¬ (!Builtin.List.listFitsIndex k)=true:=by
  rw [fitsIndex_both h1 h2]
  qV bF
 have hlong:¬ Builtin.List.listTooLong (its.toArray.size * k.toNat)=true:=by
  rw [Y5 hlen]
  qV bF
 have hnew:List.foldl (fun x1 x2=>x1++x2) #[] (List.replicate (if its.toArray.isEmpty=true then 0 else k.toNat) its.toArray)=(List.replicate k.toNat its).flatten.toArray:=by
  have f0:∀ m:Nat,List.foldl (fun x1 x2=>x1++x2) #[] (List.replicate m its.toArray)=(List.replicate m its).flatten.toArray:=fun m=>by
   have:=foldl_rep its m []
   rw [List.nil_append] at this
   qV this
  rw [f0]
  cases its with
  | nil=>simp
  | cons a r'=>rw [if_neg (by simp)]
 z5 wpAny_binaryOp_repeat_ref (T := "list") (U := "int") (by decide) ⟨_,e,rfl⟩ (fun s'=>typeIs_int s' k t) noFill_list_mul F.fills_int_mul F.slot_int_rmul repeat_list F.slot_int_index.lookup
  (call_meets F.slot_int_rmul (typeIs_int s k t) F.entry_int_rmul (F.args_int_rmul_2 _ _) (int___rmul___int_list k t l its.toArray n)
   ⟨e,rfl,⟨_,e,rfl⟩,call_meets F.slot_list_mul ⟨_,e,rfl⟩ F.entry_list_mul (F.args_list_mul_2 _ _) (AutoListH.list___mul___list_int_3 l its.toArray n k t hfit hcap hlong) ⟨e,?_⟩⟩)
 rw [hnew]
 qV⟨.ref _,_,I.lnew (t':=s.toks) (r.rep k.toNat) (by rw [len_rep,Nat.mul_comm]; qV hz),rfl,q _ I.fresh⟩
~!zL {pins:List (Addr×Obj)}{s:Shared}{σ:St}{H:Hp}{l:Addr}{xs:List V}{i:Int}{t:Tok}{k:Nat}{Q:Unit->Shared->Prop} (I:Inv X pins σ H s) (hH:H l=some (.lst xs))
  (h1 : -(2 ^ 63) <= i) (h2:i<2 ^ 63) (hk:seqIndex? i xs.length=some k) (h:∀ s',Inv X pins σ (upd H l (.lst (xs.eraseIdx k))) s'->Q () s') :
  wpAny (model X.prog X.w) X.A (delItem (.ref l) (.int i t)) Q X.xe s:=by
 x5⟨z,its,n,r,hl,e⟩:=I.lstM hH
 z5 PySem.P.delItem_list (k:=k) e (fitsIndex_both h1 h2) (by rw [bw,<- hl]; qV hk) (h _ ?_) (by rw [bw]; om)
 z5 I.lset (its':=its.eraseIdx k) (t':=s.toks) hH e ?_ (r.eraseIdx k) ?_
 .show its.toArray.eraseIdxIfInBounds k=(its.eraseIdx k).toArray
  rw [List.eraseIdxIfInBounds_toArray]
 .have:=Ih xs k
  om
end
end L2
namespace Att
open PySem PySem.W PySem.Calls PyProof.Rows
~!Cj {P:Params}{h:Heap} : ∀ (ns:List Int) (vs:List Value),WellAll P h vs (ns.map WData.int)->IntsAre vs ns:=by
 intro ns
 induction ns with
 | nil =>
  intro vs w
  rw [List.map_nil] at w
  cases w
  qV .nil
 | cons n ns ih =>
  intro vs w
  rw [List.map_cons] at w
  cases w with
  | cons a b =>
   cases a
   qV .cons _ _ (ih _ b)
~!U5 {l:OpenLaw}{n:Nat} (hn:l.most=some n) {P:Params}{h:Heap}{args:List WData}{vals:List Value}
  (hpre:l.row.toRowW.claim.pre args=true) (hwl:WellAll P h vals args) :
  ∃ a vs ns,vals=[Value.ref a]/\args=[WData.list (ns.map WData.int)]/\h.get? a=some { cls:=.type "list",data:=.seq vs.toArray }/\IntsAre vs ns/\ns.length <= n:=by
 have hsh:WShape.hasAll [] args [.list .int]=true:=(pre_splitW hpre).1
 have hc:l.pre.holds [] { args:=args }=true:=(pre_splitW hpre).2
 x5⟨d,r,rfl,h1,h2⟩:=hasAllW_cons hsh
 obtain rfl:=hasAllW_nil h2
 x5⟨xs,rfl,h3⟩:=hasW_list h1
 x5⟨ns,rfl⟩:=items_int h3
 have hlen:ns.length <= n:=by
  unfold OpenLaw.pre at hc
  have h4:(WTm.not (.lt (.lit (.int (n:Int))) (.len (.arg 0)))).holds [] { args:=[.list (ns.map .int)] }=true:=by
   have h4:=(holds_andW hc).1
   rw [hn] at h4
   qV h4
  have h5:=condW_of h4 (w_not (w_lt w_lit (w_len_list (w_arg rfl))))
  rw [ao] at h5
  z5 Nat.le_of_not_lt fun q=>?_
  have q':(n:Int)<((ns.length:Nat):Int):=by om
  first
   | (rw [decide_eq_true q'] at h5; qV absurd h5 (by decide))
   | (simp at h5; om)
 cases hwl with
 | cons w1 w2 =>
  cases w2
  cases w1 with
  | list ho hall=>qV⟨_,_,ns,rfl,rfl,ho,Cj ns _ hall,hlen⟩
~!Uv (l:OpenLaw) (args:List WData):l.row.toRowW.claim.post args (.bool true) args=true :=
 postW_of (r:=l.row.toRowW) (X:=(true == true))
  (show WShape.has [] (.bool true) .bool=true by first | rfl | decide | simp [WShape.has,WShape.arms,WShape.armsAll])
  (show (WTm.eq .res (.lit (.bool true))).value [] { args:=args,res:=some (.bool true),after:=args }=some (.bool (true == true)) from w_eq_bool (w_res rfl) w_lit) rfl
~!Bw {l:OpenLaw}{n:Nat}{q:Program}{loose:List Str}{XP:(Str->Option Value)->Heap->Prop}{YP:World->Heap->Prop}{d:DefRec}
  (hn:l.most=some n) (hdf:d.params.defaults=[])
  (call:∀ (w:World) (s₀ s₁:Shared) (mg mb:Str->Option Value) (fa:Addr) (o:Obj) (pm cd doc:Value) (a:Addr) (vs:List Value) (ns:List Int),
   Ground q loose [] XP w s₀ mg mb s₁.heap->YP w s₁.heap ->
   s₁.heap.get? fa=some o->o.data=.func (docDef d.name d.params d.body d.scope pm cd doc)->s₁.heap.CodeRec cd d.name->mg d.name=some (.ref fa) ->
   s₁.heap.get? a=some { cls:=.type "list",data:=.seq vs.toArray }->IntsAre vs ns->ns.length <= n->s₁.gens = #[] ->
   codeAny (model l.prog w) callerA (.call (.ref fa) ⟨[.ref a],[]⟩) (fun r s'=>r=.ok (.ret (.bool true))/\OldK s₁.heap s'.heap/\s'.os=s₁.os/\AllBare s'.gens) s₁) :
  WalkO q loose XP YP l.row.toRowW d [] (fun f vs=>PySem.call f vs):=by
 intro w s₀ s₁ mg mb G Y fa o pm cd doc dV kV ho hd hcd hD hmg hg args vals as hpre hlay hrd hwl hlo
 obtain rfl:dV=.none:=Dflts.none hD hdf
 obtain rfl:kV=.none:=Dflts.noKw hD
 x5⟨a,vs,ns,rfl,rfl,hobj,hints,hlen⟩:=U5 hn hpre hwl
 z5 enter_call (codeAny_mono (call w s₀ s₁ mg mb fa o pm cd doc a vs ns G Y ho (fd_plain hd) hcd hmg hobj hints hlen hg) fun r s' hq=>?_)
 x5⟨rfl,h2,h3,h4⟩:=hq
 qV⟨.inl ⟨.bool true,.bool true,[],rfl,fun _=>rfl,.bool true,Uv l _,fun _=>⟨List.Pairwise.nil,fun _ hm=>(nomatch hm)⟩⟩,h2,h3,h4⟩
end Att
namespace L2
open PySem PySem.Spec PyProof.Rows
~!wH:∀ {vs:List Value}{ns:List Int},IntsAre vs ns->Vals (ns.map V.int) vs
 | _,_,.nil=>.nil
 | _,_,.cons n t h=>.cons ⟨t,rfl⟩ (wH h)
def Only (H:Hp):Prop:=∀ b,H b=none\/∃ o xs,H b=some (.frz o (.lst xs))
~!Zg {P:Program}{w:World}{K:Frag}{mg mb:Str->Option Value}{CX:CXT}{k:Nat}{fa a:Addr}{fd:FuncData}{x:Str}{sp:Sp}{s₁:Shared}{vs:List Value}{ns:List Int}
  (KX:K.In s₁.heap) (hns:s₁.heap.Ns mainGlobals mg) (hb:s₁.heap.Ns builtinsNs mb) (hbb:∀ x:Str,x ≠ "__name__" -> mb x=bootBuiltins x) (hlim:s₁.heap.NoLimit) (hg:s₁.gens = #[])
  (ha:s₁.heap.get? a=some { cls:=.type "list",data:=.seq vs.toArray }) (hi:IntsAre vs ns) (hl:ns.length <= sizeLine) (hr:fU k callerA)
  (F:∀ base:Heap,K.In base->base.Ns mainGlobals mg->cD P w K mg base CX k fa fd [x] sp) (hbind:∀ (s:Shared) (u:Value),BindsTo s fd ⟨[u],[]⟩ [(x,u)])
  (hsp:∀ H:Hp,Only H->SqL K H a (ns.map V.int)->sp [.ref a] H (fun v _=>v=.bl true) fun _ _ _=>False)
  (hCX:∀ H e s',CX [] H s₁ (fun _ _ _=>False) e s'->False) :
  codeAny (model P w) callerA (.call (.ref fa) ⟨[.ref a],[]⟩) (fun r s'=>r=.ok (.ret (.bool true))/\OldK s₁.heap s'.heap/\s'.os=s₁.os/\AllBare s'.gens) s₁:=by
 have rv:=wH hi
 have lenV:=hi.length
 -- from an abstract heap in which nothing but the script may be tracked
 have core:∀ H:Hp,Only H->SqL K H a (ns.map V.int)->HOk P w H s₁.heap->(∀ b,H b≠none->b=a)->(H a≠none->K.lookup a=none) ->
   codeAny (model P w) callerA (.call (.ref fa) ⟨[.ref a],[]⟩) (fun r s'=>r=.ok (.ret (.bool true))/\OldK s₁.heap s'.heap/\s'.os=s₁.os/\AllBare s'.gens) s₁:=by
  intro H hO hS hok hA hK
  have base_of:∀ {b:Addr}{o:Obj},s₁.heap.get? b=some o->H b=none->(xJ s₁.heap H).get? b=some o:=fun e n=>Mv e n
  have noA:∀ {b:Addr}{o:Obj}{es:Array DictEntry}{ep:Nat},s₁.heap.get? b=some o->o.data=.dict es ep->H b=none:=fun {b o es ep} e d=>by
   cases q:H b with
   | none=>rfl
   | some u =>
    have e':b=a:=hA b (by rw [q]; simp)
    subst e'
    rw [ha] at e; cases e
    have d':Data.seq vs.toArray _=Data.dict es ep:=d
    cases d'
  have nsK:∀ {b:Addr}{m:Str->Option Value},s₁.heap.Ns b m->(xJ s₁.heap H).Ns b m:=fun {b m} ⟨o,es,ep,e,d,r⟩=>⟨o,es,ep,base_of e (noA e d),d,r⟩
  have hKb:K.In (xJ s₁.heap H):=fun b o e=>base_of (KX b o e) (by
   cases q:H b with
   | none=>rfl
   | some u =>
    have e':b=a:=hA b (by rw [q]; simp)
    subst e'
    rw [hK (by rw [q]; simp)] at e; cases e)
  have hM:Mod K mg (xJ s₁.heap H):=⟨hKb,nsK hns,⟨mb,nsK hb,hbb⟩,let ⟨mc,h1,h2⟩:=hlim; ⟨mc,nsK h1,h2⟩⟩
  have e0:DK P w K mg (xJ s₁.heap H) callerA [] s₁ H:=⟨rfl,hM,fun b o e=>Ua e,Nat.le_of_eq (I8 _ _),trivial,fun b hb=>absurd (show b∈([] : List Addr) from hb) (by simp),hok,.of_eq hg⟩
  z5 codeAny_mono ((F _ hKb (nsK hns)).run callerA [] s₁ H ⟨[.ref a],[]⟩ [.ref a] [.ref a] _ _ hr e0 (hbind s₁ (.ref a)) (.cons rfl .nil) (hsp H hO hS)) fun r s' h=>?_
  cases r with
  | error e=>qV(hCX H e s' h).elim
  | ok fl =>
   cases fl with
   | next=>qV False.elim h
   | brk=>qV False.elim h
   | cont=>qV False.elim h
   | ret u =>
    x5⟨v,H',os,bare,un,hok',r',q⟩:=h
    have q':v=.bl true:=q
    subst q'
    obtain rfl:u=Value.bool true:=r'
    z5⟨rfl,OldK.of_keep fun b o e=>?_,os,bare⟩
    cases q:H b with
    | none=>qV un.keep b o e q (by intro z; qV absurd (show b∈([] : List Addr) from z) (by simp)) (by simp)
    | some u =>
     rcases hO b with z | ⟨ob,xs,z⟩
     .rw [q] at z; cases z
     .have z2:=un.frzs b ob _ z
      x5⟨e1,_⟩:=hok b _ z
      x5⟨e2,_⟩:=hok' b _ z2
      rw [e] at e1; cases e1
      qV e2
 cases hk:K.lookup a with
 | some o =>
  -- the script is one of the module's own objects
  have e:=KX a o hk
  rw [ha] at e
  cases e
  z5 core (fun _=>none) (fun _=>.inl rfl) (.inr ⟨_,vs.toArray,_,hk,rfl,rfl,rfl,by rw [bw,lenV]; qV hl,by simpa using rv⟩) (fun b u z=>by have z':(none:Option HO)=some u:=z; cases z') (fun b z=>absurd rfl z) fun z=>absurd rfl z
 | none =>
  z5 core (fun b=>if b=a then some (.frz { cls:=.type "list",data:=.seq vs.toArray } (.lst (ns.map V.int))) else none) (fun b=>?_) (.inl (.inr ⟨{ cls:=.type "list",data:=.seq vs.toArray },if_pos rfl⟩)) (fun b u z=>?_) (fun b z=>?_) fun _=>hk
  .by_cases hb:b=a
   .exact .inr ⟨_,_,if_pos hb⟩
   .exact .inl (if_neg hb)
  .by_cases hb:b=a
   .have z':=(if_pos hb).symm.trans z
    cases z'
    subst hb
    qV⟨ha,by rw [ao]; qV hl,vs,_,rv,ha⟩
   .have z':=(if_neg hb).symm.trans z
    cases z'
  .by_cases hb:b=a
   .exact hb
   .exact absurd (if_neg hb) z
abbrev KOf {K:Frag}{h:Heap} (_:K.In h):Frag:=K
~!abg {l:PySem.W.OpenLaw}{n k:Nat}{q:Program}{loose:List Str}{XP:(Str->Option Value)->Heap->Prop}{YP:World->Heap->Prop}{d:DefRec}{K:Params->Frag}{CX:World->CXT}{sp:World->Sp}{x:Str}
  (hn:l.most=some n) (hn2:n <= sizeLine) (hdf:d.params.defaults=[]) (hr:fU k callerA)
  (hY:∀ (w:World) (h:Heap),YP w h->(K w.params).In h)
  (F:∀ (w:World) (mg:Str->Option Value) (fa:Addr) (h:Heap),(K w.params).In h->h.Ns mainGlobals mg->mg d.name=some (.ref fa) ->
   ∃ fd:FuncData,(∀ (s:Shared) (u:Value),BindsTo s fd ⟨[u],[]⟩ [(x,u)]) /\
    ∀ base:Heap,(K w.params).In base->base.Ns mainGlobals mg->cD l.prog w (K w.params) mg base (CX w) k fa fd [x] (sp w))
  (hsp:∀ (w:World) (H:Hp) (a:Addr) (ns:List Int),ns.length <= n->Only H->SqL (K w.params) H a (ns.map V.int)->sp w [.ref a] H (fun v _=>v=.bl true) fun _ _ _=>False)
  (hCX:∀ (w:World) (H:Hp) (s:Shared) (e:Value) (s':Shared),CX w [] H s (fun _ _ _=>False) e s'->False) :
  PySem.W.WalkO q loose XP YP l.row.toRowW d [] (fun f vs=>PySem.call f vs):=by
 z5 Att.Bw hn hdf fun w s₀ s₁ mg mb fa o pm cd doc a vs ns G Y ho hd hcd hmg hobj hints hlen hg=>?_
 have KX:=hY w _ Y
 x5⟨fd,hb,hF⟩:=F w mg fa _ KX G.T.g hmg
 qV Zg KX G.T.g G.T.b G.T.builtins G.T.nolimit hg hobj hints (aN hlen hn2) hr hF hb (fun H hO hS=>hsp w H a ns hlen hO hS) fun H e s'=>hCX w H s₁ e s'
end L2
/- THE LAST THEOREM (shape; LID,My.* are yours):
   My.Adr: a structure of the addresses that your layer names (classes,functions); My.Txt K t: a structure (Prop) of the equations over K;
   My.txt_mk : {K}{implicit addresses ..} (e1:nsIn K mainGlobals "law" = some (some (.ref f))) (e2:K.lookup f=some ⟨oc,od,.func (fnOf "law" "law" params body scope dV kV doc pm an cdv ct),sl⟩) (e3:codeIn K cdv "law" = true) .. : ∃ t,My.Txt K t
set_option maxRecDepth 100000 in
set_option maxHeartbeats 0 in
theorem PySem.Challenge.cw_LID_holds : PySem.Challenge.rw_LID.Holds := by
 w_on; o_law; k_head; (case hw=>w_witness2)
 k_fill
 z5 L2.abg (l:=PySem.Challenge.rw_LID) (n:=63) (k:=40) (x := "script") (CX:=fun w=>..) (sp:=fun _=>My.ahR) rfl (by decide) rfl ⟨rfl,by decide,by decide⟩ (fun w h Y=>PySem.W.kIn_of Y) ?F ?S ?C
 case F =>
  intro w mg fa h KX G hmg
  have T:∃ t,My.Txt (L2.KOf KX) t:=by
   dsimp only [L2.KOf]                          -- K must stand as «<heap const> w.params» for k_is
   refine' My.txt_mk ?e1 ?e2 ?e3 ..
   (case e1=>PySem.W.k_is)                    -- in the order: a name -> its address -> its object -> its parts
   (case e2=>PySem.W.k_is)
   ..
  x5⟨t,T⟩:=T
  have e0:=hmg.symm.trans (PySem.W.mg_of KX G T.law)
  cases e0                                       -- fa is the law's own address
  qV⟨_,fun s u=>.of_eq rfl,fun base kb nb=>My.law_fn T kb nb⟩     -- if «.of_eq rfl» comes too early: refine' ⟨_,?b,fun base kb nb=>My.law_fn T kb nb⟩; qV fun s u=>.of_eq rfl
 case S=>qV fun w H a ns hl hO hS=>..
 case C=>qV ..
(the tactic k_is has no namespace: write k_is) -/
namespace L2
open PySem PySem.Spec PyProof.Rows
abbrev CX0:CXT:=fun _ _ _ _ _ _=>False
abbrev E0:XK:=fun _ _ _=>False
~!Nz {X:Cx} : Passes CX0 X E0:=fun _ _ _ _ _ _ _ h=>h.elim
structure Fun (K:Frag) (x qual:Str) (st:Stmt) (f:Addr) (fd:FuncData):Prop where
 ex:∃ (oc:Value) (od:Option Addr) (kV doc pm:Value) (an:Option Addr) (cdv ct:Value) (osl:Array (Option Value)),
  fd=PySem.W.fnOf x qual (gQ st) (eZ st) (bO st) .none kV doc pm an cdv ct/\K.lookup f=some ⟨oc,od,.func fd,osl⟩/\PySem.W.codeIn K cdv qual=true
 kp:PySem.W.keepIn K (.ref f)=true
section
variable {P:Program}{w:World}{K:Frag}{mg:Str->Option Value}{base:Heap}
~!Fun.ok {x qual:Str}{st:Stmt}{f:Addr}{fd:FuncData}{N ps:List Str}{k:Nat}{sp:Sp} (F:Fun K x qual st f fd) (S:cj N ps (bO st)) (len:∀ vs H Q E,sp vs H Q E->vs.length=ps.length)
  (hbody:∀ (cdv:Value) (A:Around) (outer:List Env) (s:Shared) (H:Hp) (vs:List V) (Q:VK) (E:XK),fU k (A.deeper (envOfC qual (bO st) s.heap.objs.size f cdv))->sp vs H Q E ->
   ∃ t,PSs (Ce CX0 P w K mg base N qual (bO st) f cdv A outer s H E).nox (eZ st) t/\t { nx:=fun _ H'=>Q .non H',rt:=Q } (start N vs) H):cD P w K mg base CX0 (k+1) f fd ps sp:=by
 x5⟨oc,od,kV,doc,pm,an,cdv,ct,osl,rfl,lk,hcd⟩:=F.ex
 z5 Xy lk hcd S len fun A outer s H vs Q E hr hsp=>?_
 x5⟨t,h,q⟩:=hbody cdv A outer s H vs Q E hr hsp
 qV⟨t,h.nox,q⟩
~!PN {x qual:Str}{st:Stmt}{f:Addr}{oc:Value}{od an:Option Addr}{osl:Array (Option Value)}{kV doc pm cdv ct:Value} (l:K.lookup f=some ⟨oc,od,.func (PySem.W.fnOf x qual (gQ st) (eZ st) (bO st) .none kV doc pm an cdv ct),osl⟩)
  (c:PySem.W.codeIn K cdv qual=true) (k:PySem.W.keepIn K (.ref f)=true):Fun K x qual st f (PySem.W.fnOf x qual (gQ st) (eZ st) (bO st) .none kV doc pm an cdv ct):=⟨⟨oc,od,kV,doc,pm,an,cdv,ct,osl,rfl,l,c⟩,k⟩
end
~!wV {A:Around}{k:Nat} (hr:fU k A):A.units+1<cLine:=Nat.lt_of_le_of_lt (Nat.add_le_add_left (by decide:1 <= 64) _) hr.units
section
variable {X:Cx}
noncomputable def ade (sc:Scope) (x:Str):Bool:=(sc.names.lookup x).any fun k=>k == .local || k == .cell || k == .free
~!adB {sc:Scope}{x:Str} (h:ade sc x=true):Vis sc x:=by
 unfold ade at h
 unfold Vis
 cases e:sc.names.lookup x with
 | none=>rw [e] at h; cases h
 | some k=>rw [e] at h; cases k <;> first | qV .inl rfl | qV .inr (.inl rfl) | qV .inr (.inr rfl) | cases h
~!pv (i:Nat) {x:Str}{pos:Pos} (hN:X.N[i]?=some x:=by rfl) (hv:ade X.env.scope x=true:=by rfl) (hd:(x == ("__debug__" : Str))=false:=by decide)
  (hcd:(x == ("__classdict__" : Str))=false:=by decide):PE X (.Name x pos) (Ei i):=adN hN (adB hv) hd hcd
end
~!Yb {c A B:Prop} [Decidable c] (h1:c->A) (h2:¬ c->B):if c then A else B:=by
 by_cases h:c
 .rw [if_pos h]
  qV h1 h
 .rw [if_neg h]
  qV h2 h
def Same (H H':Hp):Prop:=∀ b o,H b=some o->H' b=some o
~!Same.refl (H:Hp):Same H H:=fun _ _ h=>h
~!Same.trans {H H1 H2:Hp} (a:Same H H1) (b:Same H1 H2):Same H H2:=fun c o h=>b c o (a c o h)
~!Same.free {H H':Hp} (e:Same H H') {l:Addr} (h:H' l=Option.none):H l=Option.none:=by
 cases q:H l with
 | none=>rfl
 | some o =>
  rw [e l o q] at h
  cases h
def Bd (i:Int):Prop:=i.natAbs<2 ^ 8000
~!Bd.log2 {i:Int} (h:Bd i):i.natAbs.log2<8000:=by
 by_cases h0:i.natAbs=0
 .rw [h0,Nat.log2_zero]; om
 .exact (Nat.log2_lt h0).mpr h
~!Bd.bits {i:Int} (h:Bd i):Builtin.Int.intBits i <= 2 ^ 20:=by
 have e:(2:Nat) ^ 20=1048576:=by decide
 have:=h.log2
 unfold Builtin.Int.intBits
 split
 .exact bC _
 .om
section
variable {X:Cx}
~!cZ:OpR X (binaryOp .Mult) (rI (fun i j=>Bd i/\Bd j) fun i j=>.int (i * j)):=opI fun _ _ _ _ _ _ _ hc q=>mul_int q (.of_bits hc.1.bits hc.2.bits)
~!mY:OpR X (binaryOp .FloorDiv) (rI (fun _ j=>j≠0/\Bd j) fun i j=>.int (i.fdiv j)):=opI fun _ _ _ _ _ _ _ hc q=>floordiv_int hc.1 q (.inl (PyProof.noPylong_of_log2 (by have:=hc.2.log2; om)))
~!Mu:h_ X (.builtin "isinstance") (fun xs H Q=>∃ x c cv t b,xs=[x,c]/\((∃ T,c=.ty T/\cv=Value.type T)\/∃ C,c=.ref C/\cv=Value.ref C)/\Bm X.K H x t/\PySem.W.kitOne X.K t cv=some b/\Q (.bl b) H):=by
 intro pins s σ H xs us Q I r h
 x5⟨x,c,cv,t,b,rfl,rc,ty,e,q⟩:=h
 x5⟨u,v,rfl,ru,rv⟩:=r.two
 have e2:v=cv:=by
  rcases rc with ⟨T,rfl,rfl⟩ | ⟨T,rfl,rfl⟩
  .exact rv
  .exact rv
 subst e2
 qV Vb I ru ty e fun tk=>⟨.bl b,H,I.tok _,rfl,q⟩
~!Oc:h_ X (.builtin "sorted") (fun xs H Q=>∃ l ns,xs=[.ref l]/\SqL X.K H l (ns.map V.int)/\ns.length<64/\∀ (ms:List Int) p,H p=none->ms.Perm ns->ms.Pairwise (· <= ·)->Q (.ref p) (upd H p (.lst (ms.map V.int)))):=by
 intro pins s σ H xs us Q I r h
 x5⟨l,ns,rfl,hl,h64,q⟩:=h
 x5⟨u,rfl,ru⟩:=r.one
 cases ru
 x5⟨its,rv,p,hz⟩:=I.list hl
 have hI:=intsAre_of rv
 have hlen:its.length=ns.length:=by have:=rv.length; simpa using this.symm
 z5 sorted_ints (vs:=its) p.isList hI (by om) fun out ns' a1 a2 a3=>?_
 x5⟨e,he⟩:=sortedAll_at s.heap its out
 have hfr:H (s.heap.objs.size+1)=none:=I.hok.fresh (Nat.le_succ _)
 z5⟨.ref _,_,I.laid (a:=s.heap.objs.size+1) (o:=.lst (ns'.map V.int)) (t':=s.toks) (fun b u e=>sortedAll_old e) (Nat.le_succ _) ?_,rfl,q ns' _ hfr a2 a3⟩
 z5⟨?_,out.toList,e,wH a1,he⟩
 rw [ao,a2.length_eq]
 rw [ao] at hz
 qV hz
end
section
variable {prog:Program}{w:World}{A:Around}{E:Value->Shared->Prop}{s:Shared}
~!HX {it t:Addr}{items:Array Value} (hne:t≠it):∀ (n i:Nat) (s:Shared) (Q:List Value->Shared->Prop),s.heap.IsListIter it t i->PlainL s.heap t items->i+n <= items.size ->
  (∀ h',h'.IsListIter it t (i+n)->Heap.SameBut it s.heap h'->Q ((items.toList.drop i).take n) { s with heap:=h' })->wpAny (model prog w) A (draw (.ref it) n) Q E s
 | 0,i,s,Q,hit,_,_,hQ=>by
  show wpAny _ _ (pure []) Q E s
  qV wpAny_pure (by simpa using hQ s.heap hit (Heap.SameBut.refl ..))
 | n+1,i,s,Q,hit,ht,hle,hQ=>by
  have hlt:i<items.size:=by om
  show wpAny _ _ (pyNext (.ref it) >>= _) Q E s
  z5 wpAny_bind (wpAny_pyNext_list_item hit ht.isList (x:=items[i]) (by simp [hlt]) fun h₁ hit₁ hs₁=>?_)
  have ht₁:PlainL h₁ t items:=by
   x5⟨o,k,e,r⟩:=ht
   qV⟨o,k,(hs₁.2 t hne).trans e,r⟩
  z5 wpAny_bind (wpAny_holding (HX hne n (i+1) _ _ hit₁ ht₁ (by om) fun h₂ hit₂ hs₂=>wpAny_pure ?_))
  have hd:items.toList.drop i=items[i]::items.toList.drop (i+1):=by simp [List.drop_eq_getElem_cons,hlt]
  have:=hQ h₂ (by rw [show i+(n+1)=i+1+n by om]; qV hit₂) (hs₁.trans hs₂)
  rw [hd,List.take_succ_cons] at this
  qV this
~!Aw {t:Addr}{items:Array Value}{Q:List Value->Shared->Prop} (hh:A.handled=none) (ht:PlainL s.heap t items)
  (hQ:∀ h',Heap.ExtBut s.heap.objs.size s.heap h'->Q items.toList { s with heap:=h' }):wpAny (model prog w) A (unpackItems (.ref t) items.size none) Q E s:=by
 have hlt:t≠s.heap.objs.size:=by x5⟨o,_,ho,_⟩:=ht; qV aV (aK ho)
 unfold unpackItems
 z5 wpAny_bind ?_
 .unfold notIterableAtAll
  z5 wpAny_bind (wpAny_specialOf ht.isList.typeIs slot_list_iter.lookup ?_)
  z5 wpAny_pure ?_
  simp only [Bool.false_eq_true,if_false]
  z5 wpAny_bind (wpAny_holding (wpAny_pyIter_list ht.isList ?_))
  have ht0:PlainL (s.heap.push { cls:=.type "list_iterator",data:=.fields #[.ref t,.int 0 0] }) t items:=by
   x5⟨o,k,e,r⟩:=ht
   qV⟨o,k,aH _ e,r⟩
  z5 wpAny_bind (wpAny_holding (HX hlt items.size 0 _ _ ⟨_,bh _ rfl,rfl,rfl⟩ ht0 (by om) fun h₁ hit₁ hs₁=>?_))
  have hall:List.take items.size (List.drop 0 items.toList)=items.toList:=by
   rw [List.drop_zero]; qV aM (by simp)
  rw [hall]
  rw [if_neg (by simp)]
  have ht₁:PlainL h₁ t items:=by
   x5⟨o,k,e,r⟩:=ht0
   qV⟨o,k,(hs₁.2 t hlt).trans e,r⟩
  z5 wpAny_bind (wpAny_holding (wpAny_pyNext_list_end hh hit₁ ht₁.isList (by simp) fun h₂ he₂=>?_))
  simp only [Option.isSome_none,Bool.false_eq_true,if_false]
  z5 wpAny_pure (hQ h₂ fun b o hb e=>he₂ b o hb (hs₁.extBut b o hb (aH _ e)))
~!yR {env:Env}{elts:List Expr}{x1}{pos:Pos}{t:Addr}{items:Array Value}{Q:Unit->Shared->Prop} (hh:A.handled=none) (ht:PlainL s.heap t items)
  (hn:(assignEach elts env).length=items.size) (hstar:(assignEach elts env).findIdx? (·.1)=none)
  (h:∀ h',Heap.ExtBut s.heap.objs.size s.heap h'->wpAny (model prog w) A (assignInOrder ((assignEach elts env).map (·.2)) items.toList) Q E { s with heap:=h' }) :
  wpAny (model prog w) A (assign (.Tuple elts x1 pos) env (.ref t)) Q E s:=by
 rw [assign_Tuple]
 z5 wpAny_bind (wpAny_standAt ?_)
 unfold unpack
 rw [hn,hstar]
 qV wpAny_bind (wpAny_holding (Aw hh ht h))
end
section
variable {X:Cx}{pos:Pos}
def afS (K:Frag) (n:Nat) (t:TGs):TG:=fun v σ H Q=>∃ a xs,v=.ref a/\SqL K H a xs/\xs.length=n/\t xs σ H Q
~!abH {es:List Expr}{k:Nat}{t:TGs}{n:Nat} (hc:X.calm=true) (h:PGs X es t)
  (hn:(assignEach es X.env).length=n:=by rfl) (hst:(assignEach es X.env).findIdx? (·.1)=none:=by rfl):PG X (.Tuple es k pos) (afS X.K n t):=by
 intro pins s σ H v u Q I r hw
 x5⟨a,xs,e1,hq,hl,hw⟩:=hw
 subst e1
 cases r
 x5⟨its,rv,ht,hz⟩:=I.list hq
 z5 yR (I.ok.hd hc) ht (by simp [hn,<- hl,rv.length]) hst fun h' hx=>?_
 have I1:Inv X pins σ H { s with heap:=h' }:=I.kept (t':=s.toks) fun b o e=>hx b o (aV (aK e)) e
 qV h pins _ σ H xs _ Q I1 (by simpa using rv) hw
end
~!dU.btw {P:Program}{w:World}{H H2 H':Hp}{h h':Heap}{a:Addr}{o:HO} (x:dU P w H h a o) (y:dU P w H' h' a o) (s1:Same H H2):dU P w H2 h' a o:=by
 induction o with
 | ins C dx fs=>qV⟨s1 dx _ x.1,y.2⟩
 | frz ob u ih=>qV⟨y.1,ih x.2 y.2⟩
 | _=>qV y
def Plus (H H2:Hp):Prop:=Same H H2/\∀ a o,H2 a=some o->H a=some o\/(∃ xs,o=.tup xs)\/∃ xs,o=.lst xs
~!Plus.refl (H:Hp):Plus H H:=⟨Same.refl H,fun _ _ e=>.inl e⟩
~!Plus.tup {H H1:Hp}{p:Addr}{xs:List V} (h:Plus H H1) (hp:H1 p=none):Plus H (upd H1 p (.tup xs)):=by
 z5⟨fun b o e=>?_,fun a o e=>?_⟩
 .rw [bM (bL (h.1 b o e) hp)]; qV h.1 b o e
 .by_cases z:a=p
  .subst z; rw [bK] at e; cases e; qV .inr (.inl ⟨xs,rfl⟩)
  .rw [bM z] at e; qV h.2 a o e
~!cD.forget {P:Program}{w:World}{K:Frag}{mg:Str->Option Value}{base:Heap}{CX:CXT}{k:Nat}{f:Addr}{fd:FuncData}{ps:List Str}{sp sp':Sp} (F:cD P w K mg base CX k f fd ps sp)
  (hs:∀ vs H Q E,sp' vs H Q E->∃ Q',sp vs H Q' E/\∀ v H',Q' v H'->∃ H2,Plus H H2/\Same H2 H'/\Q v H2):cD P w K mg base CX k f fd ps sp':=by
 z5⟨fun vs H Q E h=>?_,fun A outer s H args us vs Q E hr e0 hb r h=>?_⟩
 .obtain ⟨Q',h',_⟩:=hs vs H Q E h
  qV F.len vs H Q' E h'
 x5⟨Q',h',hq⟩:=hs vs H Q E h
 z5 codeAny_mono (F.run A outer s H args us vs _ E hr e0 hb r h') fun res s' hs=>?_
 cases res with
 | error e=>qV hs
 | ok fl =>
  cases fl with
  | ret u =>
   x5⟨v,H',ho,hbr,un,hok,rv,q'⟩:=hs
   x5⟨H2,⟨s1,cl⟩,s2,q⟩:=hq v H' q'
   have fr:∀ b,H' b=none->H2 b=none:=fun b e=>s2.free e
   z5⟨v,H2,ho,hbr,⟨un.keep,un.slot,fun b o e n hx=>fr b (un.free b o e n hx),un.there,fun b xs e=>s1 b _ e,fun b o u e=>s1 b _ e,fun b ps e=>⟨#[],by rw [s1 b _ e]; simp⟩⟩,fun a o e=>?_,rv,q⟩
   have z:=hok a o (s2 a o e)
   rcases cl a o e with c | ⟨xs,rfl⟩ | ⟨xs,rfl⟩
   .exact (e0.hok a o c).btw z s1
   .exact z
   .exact z
  | next=>qV hs
  | brk=>qV hs
  | cont=>qV hs
~!cD.clean {P:Program}{w:World}{K:Frag}{mg:Str->Option Value}{base:Heap}{CX:CXT}{k:Nat}{f:Addr}{fd:FuncData}{ps:List Str}{sp sp':Sp} (F:cD P w K mg base CX k f fd ps sp)
  (h:∀ vs H Q E,sp' vs H Q E->sp vs H (fun v H'=>Same H H'/\Q v H) E):cD P w K mg base CX k f fd ps sp' :=
 F.forget fun vs H Q E hs=>⟨_,h vs H Q E hs,fun v H' hP=>by x5⟨s,q⟩:=hP; qV⟨H,Plus.refl H,s,q⟩⟩
~!Same.upd {H:Hp}{p:Addr}{o:HO} (hp:H p=none):Same H (upd H p o):=fun b u e=>by
 rw [bM (bL e hp)]; qV e
~!cD.cleanP {P:Program}{w:World}{K:Frag}{mg:Str->Option Value}{base:Heap}{CX:CXT}{k:Nat}{f:Addr}{fd:FuncData}{ps:List Str}{sp sp':Sp} (F:cD P w K mg base CX k f fd ps sp)
  (h:∀ vs H Q E,sp' vs H Q E->sp vs H (fun v H'=>Same H H'/\∃ p xs,H' p=some (.tup xs)/\H p=none/\Q v (upd H p (.tup xs))) E):cD P w K mg base CX k f fd ps sp' :=
 F.forget fun vs H Q E hs=>⟨_,h vs H Q E hs,fun v H' ⟨s,p,xs,e,z,q⟩=>by
  z5⟨_,(Plus.refl H).tup (xs:=xs) z,fun b o y=>?_,q⟩
  by_cases c:b=p
  .subst c; rw [bK] at y; cases y; qV e
  .rw [bM c] at y; qV s b o y⟩
section
variable {X:Cx}
~!IxR.imp {r r':R2} (h:IxR X r) (i:∀ x y H Q,r' x y H Q->r x y H Q):IxR X r':=by
 intro b pos pins s σ H x y v u Q I rx ry q hs
 qV h _ _ _ _ _ _ _ _ _ _ _ I rx ry (i _ _ _ _ q) hs
def Rx:R2:=fun x y H Q=>∃ p xs i v,x=.ref p/\y=.int i/\H p=some (.tup xs)/\atI xs i=some v/\Q v H
def Ph:R2:=fun x y H Q=>∃ p xs i v,x=.ref p/\y=.int i/\H p=some (.lst xs)/\atI xs i=some v/\Q v H
~!dX:IxR X Rx:=cX.imp fun x y H Q hP=>by x5⟨p,xs,i,v,a,b,c,d⟩:=hP; qV⟨p,xs,i,v,a,b,.of c,d⟩
~!bY:IxR X Ph:=abB.imp fun x y H Q hP=>by x5⟨p,xs,i,v,a,b,c,d⟩:=hP; qV⟨p,xs,i,v,a,b,.of c,d⟩
~!d8 {α:Type}{x:α}{xs:List α} : atI (x::xs) 0=some x:=b_ (j:=0) rfl
~!dD {α:Type}{x y:α}{xs:List α} : atI (x::y::xs) 1=some y:=b_ (j:=1) rfl
~!h_.imp {f:Value}{r r':List V->Hp->VK->Prop} (h:h_ X f r) (i:∀ xs H Q,r' xs H Q->r xs H Q):h_ X f r':=fun pins s σ H xs us Q I rx q=>h pins s σ H xs us Q I rx (i _ _ _ q)
def Xe:List V->Hp->VK->Prop:=fun xs H Q=>∃ p ys,xs=[.ref p]/\H p=some (.tup ys)/\Q (.int ys.length) H
def RW:List V->Hp->VK->Prop:=fun xs H Q=>∃ p ys,xs=[.ref p]/\H p=some (.lst ys)/\Q (.int ys.length) H
~!eN:h_ X (.builtin "len") RW:=yK.imp fun xs H Q hP=>by x5⟨p,ys,a,b,c⟩:=hP; qV⟨p,ys,a,.inl (.of b),c⟩
def tyS (H:Hp):V->Option String
 | .non=>some "NoneType"
 | .bl _=>some "bool"
 | .int _=>some "int"
 | .str _=>some "str"
 | .ref a=>match H a with
  | some (.lst _)=>some "list"
  | some (.tup _)=>some "tuple"
  | some (.dK _)=>some "dict"
  | _=>none
 | _=>none
~!acW {K:Frag}{H:Hp}{x:V}{t:String} (h:tyS H x=some t):Bm K H x (.type t):=by
 cases x with
 | non=>cases h; qV .non
 | bl=>cases h; qV .bl _
 | int=>cases h; qV .int _
 | str=>cases h; qV .str _
 | byt=>cases h
 | flt=>cases h
 | ty=>cases h
 | ref a =>
  have h:(match H a with
   | some (.lst _)=>some "list"
   | some (.tup _)=>some "tuple"
   | some (.dK _)=>some "dict"
   | _=>none)=some t:=h
  split at h
  .cases h; qV .lst (by assumption)
  .cases h; qV .tup (by assumption)
  .cases h; qV .dK (by assumption)
  .cases h
def U4 (t T:String):Bool:=(t == T) || (t == "bool" && T == "int")
~!T_ {K:Frag}{t T:String} (ht:t∈["NoneType", "bool", "int", "str", "list", "tuple", "dict"]) (hT:T∈["bool", "int", "str", "list", "tuple", "dict"]):PySem.W.kitOne K (.type t) (.type T)=some (U4 t T):=by
 simp only [List.mem_cons,List.not_mem_nil,or_false] at ht hT
 rcases ht with rfl | rfl | rfl | rfl | rfl | rfl | rfl <;> rcases hT with rfl | rfl | rfl | rfl | rfl | rfl <;> with_unfolding_all rfl
~!Wy {H:Hp}{x:V}{t:String} (h:tyS H x=some t):t∈["NoneType", "bool", "int", "str", "list", "tuple", "dict"]:=by
 cases x with
 | non=>cases h; decide
 | bl=>cases h; decide
 | int=>cases h; decide
 | str=>cases h; decide
 | byt=>cases h
 | flt=>cases h
 | ty=>cases h
 | ref a =>
  have h:(match H a with
   | some (.lst _)=>some "list"
   | some (.tup _)=>some "tuple"
   | some (.dK _)=>some "dict"
   | _=>none)=some t:=h
  split at h <;> cases h <;> decide
def abS:List V->Hp->VK->Prop:=fun xs H Q=>∃ x T t,xs=[x,.ty T]/\T∈["bool", "int", "str", "list", "tuple", "dict"]/\tyS H x=some t/\Q (.bl (U4 t T)) H
~!jh:h_ X (.builtin "isinstance") abS:=Mu.imp fun xs H Q hP=>by x5⟨x,T,t,a,b,c,d⟩:=hP; qV⟨x,.ty T,.type T,.type t,_,a,.inl ⟨T,rfl,rfl⟩,acW c,T_ (Wy c) b,d⟩
~!PG.imp {e:Expr}{t t':TG} (h:PG X e t) (i:∀ v σ H Q,t' v σ H Q->t v σ H Q):PG X e t':=fun pins s σ H v u Q I r q=>h pins s σ H v u Q I r (i _ _ _ _ q)
def RQ (n:Nat) (t:TGs):TG:=fun v σ H Q=>∃ a xs,v=.ref a/\H a=some (.tup xs)/\xs.length=n/\t xs σ H Q
def Tr (n:Nat) (t:TGs):TG:=fun v σ H Q=>∃ a xs,v=.ref a/\H a=some (.lst xs)/\xs.length=n/\t xs σ H Q
~!gR {es:List Expr}{k:Nat}{t:TGs}{n:Nat}{pos:Pos} (hc:X.calm=true) (h:PGs X es t) (hn:(assignEach es X.env).length=n:=by rfl) (hst:(assignEach es X.env).findIdx? (·.1)=none:=by rfl):PG X (.Tuple es k pos) (RQ n t) :=
 (adC hc h hn hst).imp fun v σ H Q hP=>by x5⟨a,xs,e1,e2,e3⟩:=hP; qV⟨a,xs,e1,.of e2,e3⟩
~!aa7 {es:List Expr}{k:Nat}{t:TGs}{n:Nat}{pos:Pos} (hc:X.calm=true) (h:PGs X es t) (hn:(assignEach es X.env).length=n:=by rfl) (hst:(assignEach es X.env).findIdx? (·.1)=none:=by rfl):PG X (.Tuple es k pos) (Tr n t) :=
 (abH hc h hn hst).imp fun v σ H Q hP=>by x5⟨a,xs,e1,e2,e3⟩:=hP; qV⟨a,xs,e1,.of e2,e3⟩
def SJ:List V->Hp->VK->Prop:=fun xs H Q=>∃ l ns,xs=[.ref l]/\H l=some (.lst (ns.map V.int))/\ns.length<64/\∀ (ms:List Int) p,H p=none->ms.Perm ns->ms.Pairwise (· <= ·)->Q (.ref p) (upd H p (.lst (ms.map V.int)))
~!VG:h_ X (.builtin "sorted") SJ:=Oc.imp fun xs H Q hP=>by x5⟨l,ns,a,b,c⟩:=hP; qV⟨l,ns,a,.of b,c⟩
~!K4 {H:Hp} : tyS H .non=some "NoneType" := rfl
~!Py {H:Hp}{b:Bool} : tyS H (.bl b)=some "bool" := rfl
~!yp {H:Hp}{i:Int} : tyS H (.int i)=some "int" := rfl
~!Kz {H:Hp}{x:Str} : tyS H (.str x)=some "str" := rfl
~!Tz {H:Hp}{p:Addr}{xs:List V} (h:H p=some (.tup xs)):tyS H (.ref p)=some "tuple" := by
 show (match H p with
   | some (.lst _)=>some "list"
   | some (.tup _)=>some "tuple"
   | some (.dK _)=>some "dict"
   | _=>none)=_
 rw [h]
~!Ui {H:Hp}{p:Addr}{xs:List V} (h:H p=some (.lst xs)):tyS H (.ref p)=some "list" := by
 show (match H p with
   | some (.lst _)=>some "list"
   | some (.tup _)=>some "tuple"
   | some (.dK _)=>some "dict"
   | _=>none)=_
 rw [h]
def MJ:V->Option Bool
 | .bl b=>some b
 | .int i=>some (i != 0)
 | .non=>some false
 | _=>none
~!abp {K:Frag}{x:V}{H:Hp}{k:Bool} (h:MJ x=some k):ago K x H k:=by
 cases x <;> cases h <;> rfl
def QT (ta:TE):TT:=fun σ H Q=>ta σ H fun x H'=>∃ k,MJ x=some k/\Q k H'
~!dw {a:Expr}{ta:TE} (ha:PE X a ta) (he:∀ whole,isTrue a X.env whole=(do let v <- whole; standAt a.pos; holding [v] (truthy v))):PT X a (QT ta):=by
 intro pins s σ H Q I h
 qV isTrue_plain (thn (ha pins s σ H _ I h) fun v s1 hP=>by x5⟨x,H1,I1,r1,k,e,q1⟩:=hP; qV adA pins s1 σ H1 x v Q I1 r1 ⟨k,abp e,q1⟩) (he _)
end
def OkF (P:Program) (w:World) (K:Frag) (mg:Str->Option Value) (base:Heap) (k:Nat) (x:Str) (ps:List Str) (sp:Sp):Prop :=
 ∃ f fd,cD P w K mg base CX0 k f fd ps sp/\Binds K fd ps []/\mg x=some (.ref f)/\PySem.W.keepIn K (.ref f)=true
def eE (K:Frag) (mg:Str->Option Value) (x:Str) (st:Stmt) (ps:List Str):Prop :=
 ∃ f fd,Fun K x x st f fd/\(∀ us:List Value,us.length=ps.length->bindArgs fd ⟨us,[]⟩=pure (ps.zip us))/\mg x=some (.ref f)
~!eE.ok {P:Program}{w:World}{K:Frag}{mg:Str->Option Value}{base:Heap}{k:Nat}{x:Str}{st:Stmt}{ps:List Str}{sp:Sp} (h:eE K mg x st ps)
  (hf:∀ f fd,Fun K x x st f fd->cD P w K mg base CX0 k f fd ps sp):OkF P w K mg base k x ps sp:=by
 x5⟨f,fd,a,b,c⟩:=h
 qV⟨f,fd,hf f fd a,.all b,c,a.kp⟩
~!aap {K:Frag}{h:Heap}{mg:Str->Option Value}{x:Str}{st:Stmt}{ps:List Str}{f:Addr}{oc:Value}{od an:Option Addr}{osl:Array (Option Value)}{kV doc pm cdv ct:Value} (X:K.In h) (G:h.Ns mainGlobals mg)
  (a:PySem.W.nsIn K mainGlobals x=some (some (.ref f))) (l:K.lookup f=some ⟨oc,od,.func (PySem.W.fnOf x x (gQ st) (eZ st) (bO st) .none kV doc pm an cdv ct),osl⟩)
  (c:PySem.W.codeIn K cdv x=true) (k:PySem.W.keepIn K (.ref f)=true)
  (hb:∀ (kV doc pm:Value) (an:Option Addr) (cdv ct:Value) (us:List Value),us.length=ps.length->bindArgs (PySem.W.fnOf x x (gQ st) (eZ st) (bO st) .none kV doc pm an cdv ct) ⟨us,[]⟩=pure (ps.zip us)):eE K mg x st ps :=
 ⟨f,_,PN l c k,hb kV doc pm an cdv ct,PySem.W.mg_of X G a⟩
section
variable {X:Cx}{p pos:Pos}{e:Expr}{es:List Expr}{t:TA}{x:Str}{k:Nat}{ps:List Str}{sp:Sp}
def Ar (sp:Sp) (t:TA):TE:=fun σ H Q=>t σ H fun vs H1=>sp vs H1 Q E0
~!bU (G:OkF X.prog X.w X.K X.mg X.base k x ps sp) (hr:fU k X.A) (hg:Gl X x) (ha:PA X (e::es) t) (hdb:(x == ("__debug__" : Str))=false:=by decide)
  (he:starEach (e::es) X.env=(false,eval e X.env)::starEach es X.env:=by rfl) (hpl:(backTo pos (starEach es X.env)).any (·.1)=false:=by rfl):PE X (.Call (.Name x p) (e::es) [] pos) (Ar sp t):=by
 x5⟨f,fd,F,b,hm,kp⟩:=G
 intro pins s σ H Q I h
 z5 aby F hr hg hm kp b .nil Nz ha hdb he hpl pins s σ H Q I ?_
 show t σ H fun vs H1=>sp (vs++[]) H1 Q E0
 simp only [List.append_nil]
 qV h
end
~!Ka (a:Int):(if a<0 then -a else a)=((a.natAbs:Nat):Int):=by split <;> om
~!XM {ms:List Int}{x y:Int} (h:ms.Perm [x,y]):ms=[x,y]\/ms=[y,x]:=by
 match ms,h.length_eq with
 | [l,k],_ =>
  have h1:l∈[x,y]:=h.mem_iff.mp (by simp)
  simp only [List.mem_cons,List.not_mem_nil,or_false] at h1
  rcases h1 with rfl | rfl
  .have h2:=(List.perm_cons l).mp h
   have h3:=h2.mem_iff.mp (aQ)
   simp only [List.mem_cons,List.not_mem_nil,or_false] at h3
   qV .inl (by rw [h3])
  .have h2:=(List.perm_cons l).mp (h.trans (List.Perm.swap ..))
   have h3:=h2.mem_iff.mp (aQ)
   simp only [List.mem_cons,List.not_mem_nil,or_false] at h3
   qV .inr (by rw [h3])
~!yQ (a b:Nat):Int.fmod (a:Int) (b:Int)=((a % b:Nat):Int):=by
 rw [aZ _ (Int.natCast_nonneg b)]; rfl
~!qR (a:Int) {b:Int} (h:0<b):Int.fdiv a b=a / b:=Int.fdiv_eq_ediv_of_nonneg a (Int.le_of_lt h)
~!Bd.div {a b:Int} (h:Bd a) (hb:0<b):Bd (a / b):=by
 unfold Bd at *
 z5 Nat.lt_of_le_of_lt ?_ h
 have e:=Int.mul_ediv_add_emod a b
 have r0:=Int.emod_nonneg a (show b≠0 by om)
 have r1:=Int.emod_lt_of_pos a hb
 generalize a / b=q at *
 generalize a % b=r at *
 rcases (by om:q=0\/1 <= q\/q <= -1) with z | z | z
 .subst z; simp
 .have:=Int.mul_le_mul_of_nonneg_right (show 1 <= b by om) (show 0 <= q by om)
  om
 .have h1:b * (q+1) <= 1 * (q+1):=Int.mul_le_mul_of_nonpos_right (show 1 <= b by om) (show q+1 <= 0 by om)
  rw [Int.mul_add] at h1
  om
def TrD (h base:Heap) (e:Addr) (cls:Value) (d:Option Addr) (fl:Value):Prop :=
 ∃ oe vs T oT ts,h.get? e=some oe/\(oe.cls=cls/\oe.dict=d)/\oe.data=.fields vs/\vs[1]?=some (.ref T)/\base.get? T=none/\T≠e/\h.get? T=some oT/\oT.data=.fields ts/\ts[3]?=some fl
def sU (base:Heap) (l:List Env) (e:Addr) (cls:Value) (d:Option Addr) (fl:Value) (h:Heap):Prop :=
 base.StaysIn h/\base.get? e=none/\h.FunFrames base l/\TrD h base e cls d fl
~!sU.first {base h:Heap}{l:List Env}{e:Addr}{cls fl:Value}{d:Option Addr} (x:sU base l e cls d fl h):∃ oe vs,h.get? e=some oe/\oe.cls=cls/\oe.dict=d/\oe.data=.fields vs :=
 by x5⟨_,_,_,oe,vs,_,_,_,he,hc,hd,_⟩:=x; qV⟨oe,vs,he,hc.1,hc.2,hd⟩
section
variable {M:Model}{A:Around}{E:Value->Shared->Prop}{s:Shared}{base:Heap}{env:Env}{outer l:List Env}{L e:Addr}{cls:Value}{d:Option Addr}{Q:Unit->Shared->Prop}
~!Dc (o:Obj) (f:Array Value->Array Value):(Obj.mapFields f o).dict=o.dict:=by
 unfold Obj.mapFields
 split <;> rfl
~!Zv {oe:Obj}{vs:Array Value}{head:Value}{hadNext:Bool} (hfr:A.frames=some (env::outer)) (hl:s.heap.FunFrames base (env::outer)) (hf:env.frame=some L) (he:s.heap.get? e=some oe)
  (hkb:base.StaysIn s.heap) (hen:base.get? e=none) (hd:oe.data=.fields vs) (hsz:1<vs.size) (h:∀ h',sU base (env::outer) e oe.cls oe.dict (rawInt L) h'->s.heap.UpToSlots h'->Q () { s with heap:=h' }) :
  wpAny M A (do let a <- frameOf env; let pl <- entryPlaceOf L hadNext; let b <- EntryCells.newEntry head a .none (rawInt L) .none pl; setField (.ref e) 1 b) Q E s:=by
 have nofr:e ∉ (env::outer).filterMap (·.frame):=fun z=>by
  x5⟨_,o,ho,hnf⟩:=hl.mem z
  rw [he] at ho; cases ho; qV hnf vs hd
 z5 wpAny_bind (wpAny_frameOf_fun hfr hl hf fun g hg=>wpAny_bind (wpAny_entryPlaceOf fun pl hpl=>?_))
 unfold EntryCells.newEntry newFields
 z5 wpAny_bind (wpAny_newObj_type ?_ (hpl.sizeOk5 _ _ _ _ _))
 have eg:g.get? e=some oe:=(hg.2.1 e nofr).trans he
 have kg:base.StaysIn g:=fun b o q=>(hg.2.1 b fun z=>by rw [(hl.mem z).1] at q; cases q).trans (hkb b o q)
 generalize ho':({ cls:=.type "traceback",dict:=none,data:=.fields ([head,.ref L,.none,rawInt L,.none]++(if pl.isEmpty then List.replicate 6 Value.none else pl)).toArray } : Obj)=ot
 have nTe:g.objs.size≠e:=Nat.ne_of_gt (aK eg)
 have e2:(g.push ot).get? e=some oe:=aH _ eg
 z5 wpAny_setField e2 hd hsz (h _ ?_ ?_)
 all_goals
  have d3:=Obj.data_mapFields hd (·.setIfInBounds 1 (Value.ref g.objs.size))
  have e3:=Heap.get?_update_self (Obj.mapFields (·.setIfInBounds 1 (Value.ref g.objs.size))) e2 (Obj.isFreed_of_fields d3)
  have keep:∀ b o,b≠e->g.get? b=some o->((g.push ot).update e (Obj.mapFields (·.setIfInBounds 1 (Value.ref g.objs.size)))).get? b=some o:=fun b o nb q=>by
   rw [Heap.get?_update_other _ _ (Ne.symm nb)]; qV aH _ q
  have nr:∀ b o,s.heap.get? b=some o->(∀ ws,o.data≠.fields ws)->b≠e:=fun b o q nf z=>by
   rw [z,he] at q; cases q; qV nf vs hd
 .refine ⟨fun b o q=>keep b o (fun z=>by rw [z,hen] at q; cases q) (kg b o q),hen,hl.of_keeps fun b o q nf=>?_,?_⟩
  .obtain ⟨sl,z⟩:=hg.2.2 b o q
   qV⟨_,keep b _ (nr b o q nf) z,rfl⟩
  .refine ⟨_,_,g.objs.size,ot,_,e3,⟨Obj.cls_mapFields _ _,Dc _ _⟩,d3,by simp [hsz],kg.fresh,nTe,?_,by rw [<- ho'],?_⟩
   .rw [Heap.get?_update_other _ _ (Ne.symm nTe)]; qV bh g (by rw [<- ho']; rfl)
   .first | (simp; done) | (rcases hpl with rfl | ⟨_,_,_,_,_,_,_,rfl⟩ <;> simp)
 .intro b o q nf
  x5⟨sl,z⟩:=hg.2.2 b o q
  qV⟨sl,keep b _ (nr b o q nf) z⟩
~!Rb {oe:Obj}{vs:Array Value} (hfr:A.frames=some (env::outer)) (hl:s.heap.FunFrames base (env::outer)) (hf:env.frame=some L) (he:s.heap.get? e=some oe)
  (hkb:base.StaysIn s.heap) (hen:base.get? e=none) (hd:oe.data=.fields vs) (h1:vs[1]?=some .none) (h:∀ h',sU base (env::outer) e oe.cls oe.dict (rawInt L) h'->s.heap.UpToSlots h'->Q () { s with heap:=h' }) :
  wpAny M A (noteFrame (.ref e) env) Q E s:=by
 unfold noteFrame
 simp only [hf]
 z5 wpAny_bind (wpAny_field he hd h1 ?_)
 rw [if_neg (by decide)]
 qV Zv hfr hl hf he hkb hen hd (Array.getElem?_eq_some_iff.mp h1).1 h
~!IW (hfr:A.frames=some (env::outer)) (hf:env.frame=some L) (x:sU base (env::outer) e cls d .none s.heap)
  (h:∀ h',sU base (env::outer) e cls d (rawInt L) h'->s.heap.UpToSlots h'->Q () { s with heap:=h' }):wpAny M A (noteFrame (.ref e) env) Q E s:=by
 x5⟨hkb,hen,hl,oe,vs,T,oT,ts,he,⟨hc,hdd⟩,hd,h1,nT,nTe,hT,hdT,h3⟩:=x
 subst hc hdd
 unfold noteFrame
 simp only [hf]
 z5 wpAny_bind (wpAny_field he hd h1 ?_)
 rw [if_pos (show (Value.ref T != Value.none)=true from by simp)]
 z5 wpAny_bind (wpAny_field hT hdT h3 ?_)
 rw [if_neg (show ¬ ((Value.none == rawInt L)=true) from by simp [rawInt])]
 z5 wpAny_bind (wpAny_setField hT hdT (Array.getElem?_eq_some_iff.mp h3).1 ?_)
 have other:∀ b,b≠T->(s.heap.update T (Obj.mapFields (·.setIfInBounds 3 Value.none))).get? b=s.heap.get? b:=fun b hb=>Heap.get?_update_other _ _ (Ne.symm hb)
 have nr:∀ b o,s.heap.get? b=some o->(∀ ws,o.data≠.fields ws)->b≠T:=fun b o q nf z=>by
  rw [z,hT] at q; cases q; qV nf ts hdT
 z5 Zv (s:={ s with heap:=_ }) hfr (hl.of_keeps fun b o q nf=>⟨o,(other b (nr b o q nf)).trans q,rfl⟩) hf ((other e (Ne.symm nTe)).trans he)
  (fun b o q=>(other b fun z=>by rw [z,nT] at q; cases q).trans (hkb b o q)) hen hd (Array.getElem?_eq_some_iff.mp h1).1 fun h' y up=>h h' y fun b o q nf=>up b o ((other b (nr b o q nf)).trans q) nf
~!OJ {fl:Value} (x:sU base l e cls d fl s.heap) (h:∀ h',sU base l e cls d .none h'->s.heap.UpToSlots h'->Q () { s with heap:=h' }):wpAny M A (setFlight (.ref e) none) Q E s:=by
 x5⟨hkb,hen,hl,oe,vs,T,oT,ts,he,hc,hd,h1,nT,nTe,hT,hdT,h3⟩:=x
 have z3:3<ts.size:=(Array.getElem?_eq_some_iff.mp h3).1
 have other:∀ b,b≠T->(s.heap.update T (Obj.mapFields (·.setIfInBounds 3 ((none:Option Addr).elim Value.none fun f=>rawInt f)))).get? b=s.heap.get? b:=fun b hb=>Heap.get?_update_other _ _ (Ne.symm hb)
 have nr:∀ b o,s.heap.get? b=some o->(∀ ws,o.data≠.fields ws)->b≠T:=fun b o q nf z=>by
  rw [z,hT] at q; cases q; qV nf ts hdT
 unfold setFlight
 z5 wpAny_bind (wpAny_field he hd h1 ?_)
 rw [if_pos (show (Value.ref T != Value.none)=true from by simp)]
 z5 wpAny_setField hT hdT z3 (h _ ⟨fun b o q=>(other b fun z=>by rw [z,nT] at q; cases q).trans (hkb b o q),hen,hl.of_keeps fun b o q nf=>⟨o,(other b (nr b o q nf)).trans q,rfl⟩,?_⟩ fun b o q nf=>⟨o.slots,(other b (nr b o q nf)).trans q⟩)
 qV⟨oe,vs,T,_,_,(other e (Ne.symm nTe)).trans he,hc,hd,h1,nT,nTe,Heap.get?_update_self _ hT (Obj.isFreed_of_fields (Obj.data_mapFields hdT _)),Obj.data_mapFields hdT _,by simp [z3]⟩
~!sU.pop {fl:Value}{h:Heap} (x:sU base (env::outer) e cls d fl h):sU base outer e cls d fl h:=⟨x.1,x.2.1,x.2.2.1.2.2,x.2.2.2⟩
~!W4 (hfr:A.frames=some (env::outer)) (hf:env.frame=some L) (x:sU base (env::outer) e cls d .none s.heap)
  (h:∀ h',sU base outer e cls d .none h'->s.heap.UpToSlots h'->Q () { s with heap:=h' }):wpAny M A (leaving env (.ref e)) Q E s:=by
 unfold leaving
 qV wpAny_bind (IW hfr hf x fun h1 y up=>OJ y fun h2 z up2=>h h2 z.pop (up.trans up2))
~!I9 {h0:Heap}{oe:Obj}{vs:Array Value} (hfr:A.frames=some (env::outer)) (hf:env.frame=some L) (hkb:base.StaysIn h0) (hl:h0.FunFrames base (env::outer)) (keeps:∀ b o,h0.get? b=some o->s.heap.get? b=some o)
  (new:h0.get? e=none) (he:s.heap.get? e=some oe) (hd:oe.data=.fields vs) (h1:vs[1]?=some .none)
  (h:∀ h',sU base outer e oe.cls oe.dict .none h'->s.heap.UpToSlots h'->Q () { s with heap:=h' }):wpAny M A (leaving env (.ref e)) Q E s:=by
 have hen:base.get? e=none:=by
  cases q:base.get? e with
  | none=>rfl
  | some o=>have:=hkb e o q; rw [new] at this; cases this
 unfold leaving
 qV wpAny_bind (Rb hfr (hl.of_keeps fun b o q _=>⟨o,keeps b o q,rfl⟩) hf he (fun b o q=>keeps b o (hkb b o q)) hen hd h1 fun h1 y up=>OJ y fun h2 z up2=>h h2 z.pop (up.trans up2))
end
~!dU.there {P:Program}{w:World}{H:Hp}{h:Heap}{a:Addr}{o:HO} (x:dU P w H h a o):∃ ob,h.get? a=some ob:=by
 cases o with
 | lst xs=>x5⟨_,_,_,_,e⟩:=x; qV⟨_,e⟩
 | tup xs=>x5⟨_,_,_,o,e,_⟩:=x; qV⟨_,e⟩
 | dK kvs=>x5⟨_,_,_,_,o,_,_,e,_⟩:=x; qV⟨_,e⟩
 | set S n=>x5⟨o,_,_,_,e,_⟩:=x; qV⟨_,e⟩
 | ins C dx fs=>x5⟨_,_,_,e,_⟩:=x; qV⟨_,e⟩
 | own y=>qV x
 | xd fs=>x5⟨_,⟨_,_,_,e,_⟩,_⟩:=x; qV⟨_,e⟩
 | rng lo hi=>x5⟨_,_,_,e⟩:=x; qV⟨_,e⟩
 | frz ob u=>x5⟨e,_⟩:=x; qV⟨_,e⟩
 | tbl ps=>qV⟨_,(show h.get? a=some _ from x)⟩
 | met f y=>qV⟨_,(show h.get? a=some _ from x)⟩
 | ext φ=>x5⟨_,e,_⟩:=x; qV e
structure Fly (P:Program) (w:World) (l:List Env) (H:Hp) (s:Shared) (a:Addr) (C:Value) (H':Hp) (s':Shared) (B:Heap) (d:Option Addr):Prop where
 os:s'.os=s.os
 bare:AllBare s'.gens
 new:s.heap.get? a=none
 un:Un (frs l) [] H H' s.heap s'.heap
 hok:HOk P w H' s'.heap
 frf:∀ b∈frs l,H' b=none
 fl:sU B l a C d .none s'.heap
 cov:∀ b o,s'.heap.get? b=some o->b ∉ frs l->((∃ u,s.heap.get? b=some u)\/∃ u,H' b=some u)->B.get? b=some o
section
variable {P:Program}{w:World}{l:List Env}{H H':Hp}{s s':Shared}{a:Addr}{C:Value}{B:Heap}{d:Option Addr}{h':Heap}
~!Fly.trk (F:Fly P w l H s a C H' s' B d) {b:Addr}{u:HO}{o:Obj} (e:H' b=some u) (q:s'.heap.get? b=some o):B.get? b=some o :=
 F.cov b o q (fun z=>by rw [F.frf b z] at e; cases e) (.inr ⟨u,e⟩)
~!Fly.hok' (F:Fly P w l H s a C H' s' B d) (k:∀ b o,B.get? b=some o->h'.get? b=some o):HOk P w H' h':=fun b u e =>
 (F.hok b u e).stay (fun c v hc q=>k c v (by
  rcases hc with z | z
  .subst z; qV F.trk e q
  .exact F.trk z q)) (fun _ q=>q) fun _ _ q=>q
~!Fly.un' (F:Fly P w l H s a C H' s' B d) (k:∀ b o,B.get? b=some o->h'.get? b=some o) (up:s'.heap.UpToSlots h'):Un (frs l) [] H H' s.heap h':=by
 have nf:∀ b∈frs l,∀ o,s'.heap.get? b=some o->∀ vs,o.data≠.fields vs:=fun b hb o e=>by
  x5⟨_,o',e',d⟩:=F.fl.2.2.1.mem hb
  rw [e] at e'
  cases e'
  qV d
 z5⟨fun b o q n hb hx=>k b o (F.cov b o (F.un.keep b o q n hb hx) hb (.inl ⟨o,q⟩)),fun b o q n hb hx=>?_,F.un.free,fun b o q hx=>?_,F.un.tups,F.un.frzs,F.un.tbls⟩
 .obtain ⟨sl,e⟩:=F.un.slot b o q n hb hx
  x5⟨sl',e'⟩:=up b _ e (nf b hb _ e)
  qV⟨sl',e'⟩
 .obtain ⟨o',e⟩:=F.un.there b o q hx
  by_cases hb:b∈frs l
  .obtain ⟨sl',e'⟩:=up b _ e (nf b hb _ e)
   qV⟨_,e'⟩
  .exact ⟨o',k b o' (F.cov b o' e hb (.inl ⟨o,q⟩))⟩
end
section
variable {X:Cx}{pins:List (Addr×Obj)}{σ:List (Option V)}{H H':Hp}{s s':Shared}{a:Addr}{C:Value}{B:Heap}{d:Option Addr}{h':Heap}
~!Inv.flown (I:Inv X pins σ H s) (F:Fly X.prog X.w X.stack H s a C H' s' B d) (k:∀ b o,B.get? b=some o->h'.get? b=some o) (up:s'.heap.UpToSlots h'):Inv X pins σ H' { s' with heap:=h' } :=
 I.call' (s':={ s' with heap:=h' }) (ch:=[]) F.os (F.un' k up) (F.hok' k) F.bare fun _ z=>nomatch z
~!Inv.old (I:Inv X pins σ H s) (hx:X.ex=[]) {b:Addr}{o:Obj} (e:X.s₀.heap.get? b=some o):(∃ u,s.heap.get? b=some u)/\b≠X.env.locals:=by
 x5⟨u,q⟩:=I.base.there b o e (by rw [hx]; simp)
 qV⟨⟨u,q⟩,aV (aW (aK e) I.ok.above)⟩
~!Inv.nostk (I:Inv X pins σ H s) {b:Addr} (h1:b≠X.env.locals) (h2:b ∉ X.fs):b ∉ frs X.stack:=fun z=>by
 rcases List.mem_cons.mp (I.stkSub b z) with e | e
 .exact h1 e
 .exact h2 e
~!Inv.flyOut (I:Inv X pins σ H s) (hx:X.ex=[]) (F:Fly X.prog X.w X.stack H s a C H' s' B d) (fl:sU B X.outer a C d .none h') (up:s'.heap.UpToSlots h') :
  Fly X.prog X.w X.outer X.H₀ X.s₀ a C H' { s' with heap:=h' } B d:=by
 have J:=I.flown F fl.1 up
 z5⟨J.os,J.bare,?_,by have:=J.base; rw [hx] at this; qV this,J.hok,fun b hb=>?_,fl,fun b o e hb hc=>?_⟩
 .cases q:X.s₀.heap.get? a with
  | none=>rfl
  | some o =>
   x5⟨⟨u,z⟩,_⟩:=I.old hx q
   rw [F.new] at z; cases z
 .obtain ⟨_,o,ho,_⟩:=I.ok.funs.mem hb
  qV J.base.free b o ho (I.ok.frf b hb) fun z=>I.ok.exfs b z hb
 .rcases hc with ⟨u,q⟩ | ⟨u,q⟩
  .obtain ⟨⟨v,z⟩,n⟩:=I.old hx q
   x5⟨o',e'⟩:=F.un.there b v z (by simp)
   have y:=F.cov b o' e' (I.nostk n hb) (.inl ⟨v,z⟩)
   have e2:=fl.1 b o' y
   rw [show ({ s' with heap:=h' } : Shared).heap.get? b=h'.get? b from rfl,e2] at e
   cases e
   qV y
  .obtain ⟨o',e'⟩:=(F.hok b u q).there
   have y:=F.trk q e'
   have e2:=fl.1 b o' y
   rw [show ({ s' with heap:=h' } : Shared).heap.get? b=h'.get? b from rfl,e2] at e
   cases e
   qV y
~!Inv.flyNew (I:Inv X pins σ H s) (hx:X.ex=[]) {h1:Heap}{t:Nat} (keeps:∀ b o,s.heap.get? b=some o->h1.get? b=some o) (new:s.heap.get? a=none) (hB:B=PySem.W.hideAll s.heap (frs X.stack)) (fl:sU B X.outer a C d .none h') (up:h1.UpToSlots h') :
  Fly X.prog X.w X.outer X.H₀ X.s₀ a C H { s with heap:=h',toks:=t } B d:=by
 have inB:∀ b o,s.heap.get? b=some o->b ∉ frs X.stack->B.get? b=some o:=fun b o e n=>by rw [hB]; qV PySem.W.hideAll_get _ e n
 have trk:∀ b u o,H b=some u->s.heap.get? b=some o->B.get? b=some o:=fun b u o e q=>inB b o q fun z=>by
  rw [I.stkFree b z] at e; cases e
 have up2:s.heap.UpToSlots h':=(Heap.UpToSlots.of_keeps keeps).trans up
 have nf:∀ b∈frs X.stack,∀ o,s.heap.get? b=some o->∀ vs,o.data≠.fields vs:=fun b hb o e=>by
  x5⟨_,o',e',d⟩:=I.stack.mem hb
  rw [e] at e'
  cases e'
  qV d
 have hok:HOk X.prog X.w H h':=fun b u e=>(I.hok b u e).stay (fun c v hc q=>fl.1 c v (by
  rcases hc with z | z
  .subst z; qV trk c u v e q
  .exact trk c _ v z q)) (fun _ q=>q) fun _ _ q=>q
 have un:Un (frs X.stack) [] H H s.heap h':=by
  z5⟨fun b o q n hb _=>fl.1 b o (inB b o q hb),fun b o q n hb _=>up2 b o q (nf b hb o q),fun _ _ _ n _=>n,fun b o q _=>?_,fun _ _ q=>q,fun _ _ _ q=>q,fun _ ps q=>⟨#[],by rw [q]; simp⟩⟩
  by_cases hb:b∈frs X.stack
  .obtain ⟨sl,e⟩:=up2 b o q (nf b hb o q)
   qV⟨_,e⟩
  .exact ⟨o,fl.1 b o (inB b o q hb)⟩
 have J:Inv X pins σ H { s with heap:=h',toks:=t }:=I.call' (s':={ s with heap:=h',toks:=t }) (ch:=[]) rfl un hok I.bare fun _ z=>nomatch z
 z5⟨J.os,J.bare,?_,by have:=J.base; rw [hx] at this; qV this,J.hok,fun b hb=>?_,fl,fun b o e hb hc=>?_⟩
 .cases q:X.s₀.heap.get? a with
  | none=>rfl
  | some o =>
   x5⟨⟨u,z⟩,_⟩:=I.old hx q
   rw [new] at z; cases z
 .obtain ⟨_,o,ho,_⟩:=I.ok.funs.mem hb
  qV J.base.free b o ho (I.ok.frf b hb) fun z=>I.ok.exfs b z hb
 .rcases hc with ⟨u,q⟩ | ⟨u,q⟩
  .obtain ⟨⟨v,z⟩,n⟩:=I.old hx q
   have y:=inB b v z (I.nostk n hb)
   have e2:=fl.1 b v y
   rw [show ({ s with heap:=h',toks:=t } : Shared).heap.get? b=h'.get? b from rfl,e2] at e
   cases e
   qV y
  .obtain ⟨o',e'⟩:=(I.hok b u q).there
   have y:=trk b u o' q e'
   have e2:=fl.1 b o' y
   rw [show ({ s with heap:=h',toks:=t } : Shared).heap.get? b=h'.get? b from rfl,e2] at e
   cases e
   qV y
end
def CXO (P:Program) (w:World):CXT:=fun l H s E e s'=>∃ a C d H' B,e=.ref a/\Fly P w l H s a C H' s' B d/\E C d H'
def Fe (X:Cx) (Ex:Value->Option Addr->L2.St->Hp->Prop):Prop :=
 ∀ pins σ H s a C H' s' B d,Inv X pins σ H s->Fly X.prog X.w X.stack H s a C H' s' B d->Ex C d σ H'->X.xe (.ref a) s'
def ach (X:Cx) (Ex:Value->Option Addr->L2.St->Hp->Prop):Prop :=
 ∀ pins σ H s a C vs h1,Inv X pins σ H s->Heap.MadeExcOf s.heap h1 a C vs->Ex C none σ H->X.xe (.ref a) { s with heap:=h1 }
section
variable {P:Program}{w:World}{K:Frag}{mg:Str->Option Value}{base:Heap}{N:List Str}{qual:Str}{scope:Scope}{f:Addr}{cd:Value}{A:Around}{outer:List Env}{s:Shared}{H:Hp}{E:XK}
~!fW:Fe (Ce (CXO P w) P w K mg base N qual scope f cd A outer s H E) (fun C d _ H'=>E C d H'):=by
 intro pins σ H1 s1 a C H' s' B d I F q
 show wpAny _ _ (leaving _ (.ref a)) _ _ _
 z5 W4 (outer:=outer) I.ok.frames rfl F.fl fun h' fl up=>?_
 qV⟨a,C,d,H',B,rfl,I.flyOut rfl F fl up,q⟩
~!qZ:ach (Ce (CXO P w) P w K mg base N qual scope f cd A outer s H E) (fun C d _ H'=>E C d H'):=by
 intro pins σ H1 s1 a C vs h1 I M q
 show wpAny _ _ (leaving _ (.ref a)) _ _ _
 have hin:∀ env∈(envOfC qual scope s.heap.objs.size f cd::outer),∀ b,env.frame=some b->b∈frs (envOfC qual scope s.heap.objs.size f cd::outer):=fun env he b hb=>List.mem_filterMap.mpr ⟨env,he,hb⟩
 x5⟨t,he,_,_⟩:=M.there
 z5 I9 (base:=PySem.W.hideAll s1.heap (frs (envOfC qual scope s.heap.objs.size f cd::outer))) (h0:=s1.heap) (outer:=outer) I.ok.frames rfl (fun b o q=>PySem.W.of_hideAll _ q) (PySem.W.funFrames_hide I.stack hin) M.keeps M.new he rfl rfl fun h' fl up=>?_
 qV⟨a,C,none,H1,_,rfl,I.flyNew rfl M.keeps M.new rfl fl up,q⟩
end
section
variable {P:Program}{w:World}{K:Frag}{mg:Str->Option Value}{base:Heap}
~!Fun.okX {x qual:Str}{st:Stmt}{f:Addr}{fd:FuncData}{N ps:List Str}{k:Nat}{sp:Sp} (F:Fun K x qual st f fd) (S:cj N ps (bO st)) (len:∀ vs H Q E,sp vs H Q E->vs.length=ps.length)
  (hbody:∀ (cdv:Value) (A:Around) (outer:List Env) (s:Shared) (H:Hp) (vs:List V) (Q:VK) (E:XK),fU k (A.deeper (envOfC qual (bO st) s.heap.objs.size f cdv))->sp vs H Q E ->
   ∃ t,PSs (Ce (CXO P w) P w K mg base N qual (bO st) f cdv A outer s H E) (eZ st) t/\t { nx:=fun _ H'=>Q .non H',rt:=Q } (L2.start N vs) H):cD P w K mg base (CXO P w) (k+1) f fd ps sp:=by
 x5⟨oc,od,kV,doc,pm,an,cdv,ct,osl,rfl,lk,hcd⟩:=F.ex
 qV Xy lk hcd S len fun A outer s H vs Q E hr hsp=>hbody cdv A outer s H vs Q E hr hsp
def OkX (P:Program) (w:World) (K:Frag) (mg:Str->Option Value) (base:Heap) (k:Nat) (x:Str) (ps:List Str) (sp:Sp):Prop :=
 ∃ f fd,cD P w K mg base (CXO P w) k f fd ps sp/\Binds K fd ps []/\mg x=some (.ref f)/\PySem.W.keepIn K (.ref f)=true
~!eE.okX {k:Nat}{x:Str}{st:Stmt}{ps:List Str}{sp:Sp} (h:eE K mg x st ps)
  (hf:∀ f fd,Fun K x x st f fd->cD P w K mg base (CXO P w) k f fd ps sp):OkX P w K mg base k x ps sp:=by
 x5⟨f,fd,a,b,c⟩:=h
 qV⟨f,fd,hf f fd a,.all b,c,a.kp⟩
end
section
variable {X:Cx}{p pos:Pos}{e:Expr}{es:List Expr}{t:TA}{x:Str}{k:Nat}{ps:List Str}{sp:Sp}{Ex:Value->Option Addr->L2.St->Hp->Prop}
def Am (sp:Sp) (Ex:Value->Option Addr->L2.St->Hp->Prop) (t:TA):TE:=fun σ H Q=>t σ H fun vs H1=>sp vs H1 Q fun C d H'=>Ex C d σ H'
~!gF (G:OkX X.prog X.w X.K X.mg X.base k x ps sp) (hr:fU k X.A) (hg:Gl X x) (hx:Fe X Ex) (ha:PA X (e::es) t) (hdb:(x == ("__debug__" : Str))=false:=by decide)
  (he:starEach (e::es) X.env=(false,eval e X.env)::starEach es X.env:=by rfl) (hpl:(backTo pos (starEach es X.env)).any (·.1)=false:=by rfl):PE X (.Call (.Name x p) (e::es) [] pos) (Am sp Ex t):=by
 x5⟨f,fd,F,hb,hm,kp⟩:=G
 intro pins s σ H Q I h
 z5 wpAny_Call_Name_kw (lY I hg hm ?_ hdb)
 z5 PySem.W.callWith_K (h₀:=X.base) I.ok.mod.kin kp (thn (ha pos pins s σ H _ I h) fun us s1 ⟨vs,H1,I1,r,q⟩=>⟨I1.kIn,?_⟩) he hpl
 have hl:us.length=ps.length:=by rw [<- r.length]; qV F.len _ _ _ _ q
 have hb':=hb s1 us I1.kIn (by simpa using hl)
 simp only [List.append_nil] at hb'
 z5 wpAny_call (codeAny_mono (F.run X.A X.stack s1 H1 ⟨us,[]⟩ us vs Q _ hr I1.env0 hb' r q) fun r s' hq=>?_)
 cases r with
 | error e =>
  x5⟨a,C,d,H',B,rfl,Fl,q'⟩:=hq
  qV hx pins σ H1 s1 a C H' s' B d I1 Fl q'
 | ok fl =>
  cases fl with
  | ret u=>qV I1.after hq
  | next=>qV False.elim hq
  | brk=>qV False.elim hq
  | cont=>qV False.elim hq
end
abbrev bmV:List Value:=[.type "ValueError",.type "Exception",.type "BaseException",.type "object"]
def Mi (K:Frag) (C:Addr):Prop:=PySem.W.excIn K C bmV "ValueError.__new__" = true
~!SN {K:Frag}{h:Heap}{C:Addr} (X:K.In h) (q:Mi K C):∃ bm N nm qn bs hdct sn sub ab col dd k0 k1 k2 k3 k5 mN,h.get? C=some (excClassObj nm qn C N bs bm hdct sn sub ab col dd k0 k1 k2 k3 k5 "ValueError.__new__") /\
  h.Ns N mN/\mN "__init__" = none/\OwnTail h bmV bm:=by
 unfold Mi PySem.W.excIn at q
 split at q
 .rename_i dd cd sl ho
  split at q
  .rename_i C' bm k0 k1 k2 k3 n k5 hm hs
   simp only [Bool.and_eq_true,beq_iff_eq,Bool.not_eq_true'] at q
   x5⟨⟨⟨⟨⟨rfl,rfl⟩,hdel⟩,ht⟩,hok⟩,hni⟩:=q
   x5⟨nm,bs,mro,ns,qn,hd,sn,sub,ab,col,del⟩:=cd
   dsimp only at hm hdel hok hni
   subst hm hdel
   have hsl:sl = #[k0,k1,k2,k3,some (.builtin "ValueError.__new__"),k5]:=by
    x5⟨l⟩:=sl
    simp only at hs
    rw [hs]
   subst hsl
   qV⟨bm,ns,nm,qn,bs,hd,sn,sub,ab,col,dd,k0,k1,k2,k3,k5,_,X _ _ ho,.of_isNs (PySem.W.isNs_of_in X hok),PySem.W.nsMap_none_of_in X hok hni,PySem.W.tail_of_in X ht⟩
  .cases q
 .cases q
section
variable {X:Cx}{x:Str}{np cpos pos:Pos}{e₀:Expr}{rest:List Expr}{ta:TA}{C:Addr}{Ex:Value->Option Addr->L2.St->Hp->Prop}
def Lp (C:Addr) (Ex:Value->Option Addr->L2.St->Hp->Prop) (ta:TA):TS:=fun _ σ H=>ta σ H fun vs H1=>vs.length <= sizeLine/\Ex (.ref C) none σ H1
~!qW (hc:X.calm=true) (hg:Gl X x) (hm:X.mg x=some (.ref C)) (q:Mi X.K C) (hx:ach X Ex) (ha:PA X (e₀::rest) ta) (hd:(x == ("__debug__" : Str))=false:=by decide)
  (he:starEach (e₀::rest) X.env=(false,eval e₀ X.env)::starEach rest X.env:=by rfl) (hplain:(backTo cpos (starEach rest X.env)).any (·.1)=false:=by rfl) :
  PS X (.Raise (some (.Call (.Name x np) (e₀::rest) [] cpos)) none pos) (Lp C Ex ta):=by
 intro pins s σ H D I h
 x5⟨tl,N,nm,qn,bs,hdct,sn,sub,ab,col,dd,k0,k1,k2,k3,k5,mN,hC,hN,hni,T⟩:=SN I.ok.mod.kin q
 have FB:=PySem.F.excBase_ValueError
 z5 wpAny_Raise_call_subT (C:=C) (nm:=nm) (q:=qn) (N:=N) (bs:=bs) (bm:=tl) (hdct:=hdct) (sn:=sn) (sub:=sub) (ab:=ab) (col:=col) (dd:=dd) (k0:=k0) (k1:=k1) (k2:=k2) (k3:=k3) (k5:=k5)
  FB (mN:=mN) (T.hasType FB.hasBase) (I.ok.hd hc) (by rw [he]; show (false || (backTo cpos (starEach rest X.env)).any (·.1))=false; rw [hplain]; rfl) hni (lY I hg hm ⟨rfl,?_⟩ hd)
 have h2:=ha cpos pins s σ H _ I h
 rw [he] at h2 ⊢
 qV Calls.evalArgs_plain (wpAny_mono h2 (fun us s₂ hP=>by x5⟨vs,H1,I1,r,hl,ex⟩:=hP; qV⟨rfl,by rw [<- r.length]; qV hl,I1.bk _ _ hC,hN.keeps I1.bk,T.keeps I1.bk,fun h' e M=>hx pins σ H1 s₂ e _ us h' I1 M ex⟩) fun _ _ y=>y)
end
abbrev Cx.tryc (X:Cx) (pn:List (Addr×Obj)) (E:Value->Shared->Prop):Cx:={ X with pn:=pn,xe:=E }
abbrev Cx.marked (X:Cx) (a:Addr) (E:Value->Shared->Prop):Cx:={ X with A:=X.A.mark (some (.ref a)),calm:=false,xe:=E }
section
variable {X:Cx}{pins pins' pn:List (Addr×Obj)}{σ:L2.St}{H H':Hp}{s:Shared}{E:Value->Shared->Prop}{a:Addr}
~!Cx.Ok.tryc (ok:X.Ok):(X.tryc pn E).Ok:=⟨ok.mod,ok.kind,ok.glob,ok.blt,ok.above,ok.inj,ok.has,ok.cab,ok.hd,ok.frames,ok.stk,ok.exf,ok.bs,ok.bsz,ok.noex,ok.exfs,ok.funs,ok.frf⟩
~!Cx.Ok.untry (ok:(X.tryc pn E).Ok):X.Ok:=⟨ok.mod,ok.kind,ok.glob,ok.blt,ok.above,ok.inj,ok.has,ok.cab,ok.hd,ok.frames,ok.stk,ok.exf,ok.bs,ok.bsz,ok.noex,ok.exfs,ok.funs,ok.frf⟩
~!Inv.tryc (I:Inv X pins σ H s):Inv (X.tryc (X.pn++pins) E) [] σ H s:=⟨I.ok.tryc,I.os,I.bare,I.base,I.loc,I.cell,I.free,I.freeC,fun p hp=>I.pin p (by simpa using hp),I.hok,I.len⟩
~!Inv.untry (I:Inv (X.tryc (X.pn++pins) E) pins' σ H s):Inv X pins σ H s:=⟨I.ok.untry,I.os,I.bare,I.base,I.loc,I.cell,I.free,I.freeC,fun p hp=>I.pin p (List.mem_append_left _ hp),I.hok,I.len⟩
~!Cx.Ok.marked (ok:X.Ok):(X.marked a E).Ok:=⟨ok.mod,ok.kind,ok.glob,ok.blt,ok.above,ok.inj,ok.has,ok.cab,fun z=>(nomatch z),ok.frames,ok.stk,ok.exf,ok.bs,ok.bsz,ok.noex,ok.exfs,ok.funs,ok.frf⟩
~!Inv.marked (I:Inv X pins σ H s):Inv (X.marked a E) pins σ H s:=⟨I.ok.marked,I.os,I.bare,I.base,I.loc,I.cell,I.free,I.freeC,I.pin,I.hok,I.len⟩
~!Inv.unmarked (ok:X.Ok) (I:Inv (X.marked a E) pins σ H s):Inv X pins σ H s:=⟨ok,I.os,I.bare,I.base,I.loc,I.cell,I.free,I.freeC,I.pin,I.hok,I.len⟩
~!Inv.track {o:HO} (I:Inv X pins σ H s) (hn:H a=none) (ha:X.s₀.heap.get? a=none) (hL:a≠X.env.locals) (hC:∀ x c,X.env.cells.lookup x=some c->c≠a) (hp:∀ p∈X.pn++pins,p.1≠a)
  (ok:dU X.prog X.w (upd H a o) s.heap a o):Inv X pins σ (upd H a o) s:=by
 have ne:∀ b u,H b=some u->b≠a:=fun b u e=>bL e hn
 have ne0:∀ b u,X.s₀.heap.get? b=some u->b≠a:=fun b u e z=>by rw [z,ha] at e; cases e
 z5⟨I.ok,I.os,I.bare,⟨I.base.keep,I.base.slot,fun b ob e n hx=>by rw [bM (ne0 b ob e)]; qV I.base.free b ob e n hx,I.base.there,fun b xs e=>?_,fun b ob u e=>?_,fun b ps e=>?_⟩,I.loc,I.cell,by rw [bM hL.symm]; qV I.free,fun x c e=>by rw [bM (hC x c e)]; qV I.freeC x c e,fun p q=>?_,fun b u e=>?_,I.len⟩
 .have z:=I.base.tups b xs e
  rw [bM (ne b _ z)]; qV z
 .have z:=I.base.frzs b ob u e
  rw [bM (ne b _ z)]; qV z
 .obtain ⟨m,z⟩:=I.base.tbls b ps e
  qV⟨m,by rw [bM (ne b _ z)]; qV z⟩
 .obtain ⟨h1,h2,h3⟩:=I.pin p q
  qV⟨h1,by rw [bM (hp p q)]; qV h2,h3⟩
 .by_cases z:b=a
  .subst z; rw [bK] at e; cases e; qV ok
  .rw [bM z] at e
   qV(I.hok b u e).stay (fun _ _ _ q=>q) (fun c q=>by rw [bM (ne c _ q)]; qV q) fun c xs q=>by rw [bM (ne c _ q)]; qV q
~!Inv.unname {M:Model}{A:Around}{E:Value->Shared->Prop}{i:Nat}{n:Str}{pos:Pos}{Q:Unit->Shared->Prop} (I:Inv X pins σ H s) (hN:X.N.Nodup) (hi:X.N[i]?=some n) (hk:X.env.scope.names.lookup n=some .local)
  (h:∀ s',Inv X pins (σ.set i none) H s'->Q () s'):wpAny M A (do bindName X.env n .none; unbindBehindTheSuite X.env n pos) Q E s:=by
 x5⟨m,hn,hl⟩:=id I.loc
 have hcls:(X.env.scope.kind == .class || (X.env.scope.kind == .module && X.env.locals != X.env.globals))=false:=by rw [I.ok.kind]; rfl
 have cne:=I.cne
 have hiσ:i<σ.length:=by rw [I.len]; qV(aq.mp hi).1
 z5 wpAny_nameGoes_keeps hk hn hcls fun h' v hn' hs=>?_
 have hok:HOk X.prog X.w H h':=fun b ob e=>(I.hok b ob e).stay (fun c w' hc q=>(hs.2 c (by
  rintro rfl
  rcases hc with rfl | hc
  .rw [I.free] at e; cases e
  .rw [I.free] at hc; cases hc)).trans q) (fun _ q=>q) fun _ _ q=>q
 z5 h _ ⟨I.ok,I.os,I.bare,⟨fun b o e n' hb hx=>?_,fun b o e n' hb hx=>?_,I.base.free,fun b o e hx=>?_,I.base.tups,I.base.frzs,I.base.tbls⟩,⟨_,hn',fun j y v' e1 e2 e3=>?_⟩,fun y c e=>?_,I.free,I.freeC,fun p hp=>?_,hok,by simpa using I.len⟩
 .exact (hs.2 b (aV (aW (aK e) I.ok.above))).trans (I.base.keep b o e n' hb hx)
 .obtain ⟨sl,e1⟩:=I.base.slot b o e n' hb hx
  qV⟨sl,(hs.2 b (aV (aW (aK e) I.ok.above))).trans e1⟩
 .obtain ⟨o',e1⟩:=I.base.there b o e hx
  qV⟨o',(hs.2 b (aV (aW (aK e) I.ok.above))).trans e1⟩
 .by_cases hj:j=i
  .subst hj
   rw [List.getElem?_set_self hiσ] at e2
   cases e2
  .rw [List.getElem?_set_ne (Ne.symm hj)] at e2
   x5⟨u',r',q⟩:=hl j y v' e1 e2 e3
   z5⟨u',r',?_⟩
   rcases q with ⟨k,e⟩ | ⟨k,c,e,z⟩
   .refine .inl ⟨k,?_⟩
    have:y≠n:=fun e=>hj (qQ hN e1 (e ▸ hi))
    simp [this,e]
   .exact .inr ⟨k,c,e,z.sameBut hs (cne y c e)⟩
 .obtain ⟨w',z⟩:=I.cell y c e
  qV⟨w',z.sameBut hs (cne y c e)⟩
 .obtain ⟨e,n',ne,nf,d⟩:=I.pin p hp
  qV⟨(hs.2 p.1 ne).trans e,n',ne,nf,d⟩
end
def XO (a C:Addr) (d:Option Addr):HO:=.ext fun h=>∃ o,h.get? a=some o/\o.cls=.ref C/\o.dict=d/\∃ vs,o.data=.fields vs
~!vN {M:Model}{A:Around}{E:Value->Shared->Prop}{K:Frag}{h:Heap}{g:Array GenState}{d:Drawn}{t:Nat}{os:OsState}{a C D:Addr}{oe:Obj}{Q:Bool->Shared->Prop}{b:Bool} (X:K.In h)
  (qD:PySem.W.mroIn K D (.type "BaseException")=some true) (tyD:PySem.W.typeIn K (.ref D)=some (.type "type")) (he:h.get? a=some oe) (hc:oe.cls=.ref C) (qS:PySem.W.mroIn K C (.ref D)=some b)
  (hq:Q b ⟨h,g,d,t,os⟩):wpAny M A (excMatches (.ref a) (.ref D)) Q E ⟨h,g,d,t,os⟩:=by
 have l1:PySem.W.Looks M h (isInstance (.ref D) (.type "tuple")) false:=(PySem.W.looks_typeIn X tyD).andThen (PySem.W.Looks.of_pure tc_notTuple)
 have l2:PySem.W.Looks M h (isType (.ref D)) true:=by
  x5⟨cdD,hcD,_⟩:=Option.bind_eq_some_iff.mp qD
  unfold PySem.W.clsIn at hcD
  split at hcD
  .rename_i c' d' cd' sl' ho
   intro A' Q' E' s' k q
   unfold isType loadHead
   qV wpAny_bind (wpAny_loadPart (k _ _ (X _ _ ho)) (wpAny_pure q))
  .cases hcD
 have l3:PySem.W.Looks M h (isSubtype (.ref D) (.type "BaseException")) true:=PySem.W.looks_mroIn X qD
 have l4:PySem.W.Looks M h (isSubtype (.ref C) (.ref D)) b:=PySem.W.looks_mroIn X qS
 have l5:PySem.W.Looks M h (typeOf (.ref a)) (.ref C):=by
  intro A' Q' E' s' k q
  rw [<- hc] at q
  unfold typeOf
  qV wpAny_bind (wpAny_loadPart (k _ _ he) (wpAny_pure q))
 unfold excMatches
 z5 wpAny_bind (l1.at ?_)
 simp only [Bool.false_eq_true,if_false]
 z5 wpAny_bind (wpAny_pure ?_)
 simp only [List.forIn_cons,List.forIn_nil]
 unfold isExcClass
 z5 wpAny_bind (wpAny_bind (wpAny_bind (wpAny_bind (l2.at ?_))))
 simp only [if_true]
 z5 l3.at ?_
 simp only [Bool.not_true,Bool.false_eq_true,if_false]
 z5 wpAny_pure (wpAny_pure (wpAny_bind (l5.at ?_)))
 z5 wpAny_bind (wpAny_bind (wpAny_bind (l4.at ?_)))
 cases b with
 | true =>
  simp only [if_true]
  qV wpAny_pure (wpAny_pure (wpAny_pure hq))
 | false =>
  simp only [Bool.false_eq_true,if_false]
  qV wpAny_pure (wpAny_pure (wpAny_pure hq))
section
variable {X:Cx}{pos hpos np:Pos}{body suite:List Stmt}{b₀:Stmt}{n Dn:Str}{D:Addr}{i:Nat}{tb:(Value->Option Addr->L2.St->Hp->Prop)->TS}{th:TS}
def Ends.unset (R:Ends) (i:Nat):Ends:={ nx:=fun σ H=>R.nx (σ.set i none) H,rt:=R.rt,bk:=fun σ H=>R.bk (σ.set i none) H,ct:=fun σ H=>R.ct (σ.set i none) H }
def Rm (K:Frag) (D:Addr) (i:Nat) (tb:(Value->Option Addr->L2.St->Hp->Prop)->TS) (th:TS):TS:=fun R σ H =>
 ∃ Ex:Value->Option Addr->L2.St->Hp->Prop,tb Ex R σ H/\∀ C' d σ' H',Ex C' d σ' H'->∃ C,C'=.ref C/\PySem.W.mroIn K C (.ref D)=some true /\
  ∀ a,H' a=none->th (R.unset i) (σ'.set i (some (.ref a))) (upd H' a (XO a C d))
end
structure Q7 (K:Frag) (C:Addr):Prop where
 ga:PySem.W.findIn K (.ref C) "__getattribute__" = some (some (.builtin "BaseException.__getattribute__"))
 gn:PySem.W.findIn K (.ref C) "__getattr__" = some none
 cl:PySem.W.findIn K (.ref C) "__class__" = some (some (.builtin "object.__class__"))
 mo:PySem.W.mroIn K C (.type "object")=some true
 mb:PySem.W.mroIn K C (.type "BaseException")=some true
section
variable {prog:Program}{w:World}{A:Around}{E:Value->Shared->Prop}{h:Heap}{g:Array GenState}{d:Drawn}{t:Nat}{os:OsState}{a C:Addr}{o:Obj}{K:Frag}
~!zZ {M:Model} (hx:h.get? a=some o) (hc:o.cls=.ref C):PySem.W.Looks M h (typeOf (.ref a)) (.ref C):=by
 intro A' Q' E' s' k q
 rw [<- hc] at q
 unfold typeOf
 qV wpAny_bind (wpAny_loadPart (k _ _ hx) (wpAny_pure q))
~!KQ {M:Model}{nameV:Value}{Q:Unit->Shared->Prop} (X:K.In h) (T:Q7 K C) (hx:h.get? a=some o) (hc:o.cls=.ref C) (hq:Q () ⟨h,g,d,t,os⟩) :
  wpAny M A (checkBuiltinCall "BaseException.__getattribute__" ⟨[.ref a,nameV],[]⟩) Q E ⟨h,g,d,t,os⟩:=by
 have hk:builtinKind "BaseException.__getattribute__" = some .slot:=by decide +kernel
 have hsplit:splitId "BaseException.__getattribute__" = some ("BaseException", "__getattribute__"):=by decide +kernel
 have ha:=F.args_bexc_ga (.ref a) nameV
 have LT:=zZ (M:=M) hx hc
 have LB:=PySem.W.looks_mroIn (M:=M) X T.mb
 simp only [checkBuiltinCall,hk,hsplit]
 z5 wpAny_bind ?_
 unfold isInstance
 repeat (first | with_reducible z5 LT.at ?_ | with_reducible z5 LB.at ?_ | (with_reducible z5 wpAny_loadPart_at hx ?_; rw [hc]) | wp_step)
 qV hq
end
def Bl (cells:List (Str×Addr)):List (Str×NameKind)->List (Str×Addr)->List (Str×Addr)
 | [],acc=>acc
 | (n,k)::r,acc=>Bl cells r (if k == .free then (n,(cells.lookup n).getD 0)::acc else acc)
~!Qd {scope:Scope}{env:Env} (h:∀ y∈scope.names,y.2=.free->∃ c,env.cells.lookup y.1=some c):closureFor scope env=pure (Bl env.cells scope.names []):=by
 unfold closureFor
 have go:∀ (l:List (Str×NameKind)) (acc:List (Str×Addr)),(∀ y∈l,y.2=.free->∃ c,env.cells.lookup y.1=some c) ->
   (forIn l acc (fun (x:Str×NameKind) (r:List (Str×Addr))=>if (x.2 == NameKind.free)=true then (do let a <- cellOf env x.1; pure (ForInStep.yield ((x.1,a)::r))) else pure (ForInStep.yield r)):Sem (List (Str×Addr)))=pure (Bl env.cells l acc):=by
  intro l
  induction l with
  | nil=>intro acc _; rfl
  | cons y r ih =>
   intro acc hy
   x5⟨n,k⟩:=y
   rw [List.forIn_cons]
   by_cases hk:k=.free
   .subst hk
    x5⟨c,hc⟩:=hy (n,.free) aQ rfl
    have e1:cellOf env n=pure c:=by unfold cellOf; rw [show env.cells.lookup n=some c from hc]
    simp only [beq_self_eq_true,if_true,e1,pure_bind]
    rw [ih _ fun z hz=>hy z (aJ _ hz)]
    show pure _=pure (Bl env.cells r (if (NameKind.free == NameKind.free)=true then (n,(env.cells.lookup n).getD 0)::acc else acc))
    rw [show env.cells.lookup n=some c from hc]
    rfl
   .have hb:(k == NameKind.free)=false:=by simpa using hk
    simp only [hb,Bool.false_eq_true,if_false,pure_bind]
    rw [ih _ fun z hz=>hy z (aJ _ hz)]
    show pure _=pure (Bl env.cells r (if (k == NameKind.free)=true then (n,(env.cells.lookup n).getD 0)::acc else acc))
    rw [hb]
    rfl
 have e:=go scope.names [] h
 show (forIn scope.names [] (fun (x:Str×NameKind) (r:List (Str×Addr))=>if (x.2 == NameKind.free)=true then (do let a <- cellOf env x.1; pure (ForInStep.yield ((x.1,a)::r))) else pure (ForInStep.yield r)):Sem (List (Str×Addr))) >>= (fun cs=>pure cs)=_
 rw [e]
 rfl
~!Nr {cells:List (Str×Addr)} : ∀ {names:List (Str×NameKind)}{acc:List (Str×Addr)}{x:Str}{c:Addr},(∀ y∈names,y.2=.free->∃ c,cells.lookup y.1=some c)->(x,c)∈Bl cells names acc->(x,c)∈acc\/cells.lookup x=some c
 | [],_,_,_,_,h=>.inl h
 | (n,k)::r,acc,x,c,hf,h=>by
  unfold Bl at h
  rcases Nr (fun y hy=>hf y (aJ _ hy)) h with z | z
  .by_cases hk:k=.free
   .subst hk
    simp only [beq_self_eq_true,if_true] at z
    rcases List.mem_cons.mp z with e | e
    .obtain ⟨c',hc'⟩:=hf (n,.free) aQ rfl
     cases e
     rw [show cells.lookup n=some c' from hc']
     qV .inr rfl
    .exact .inl e
   .have hb:(k == NameKind.free)=false:=by simpa using hk
    simp only [hb,Bool.false_eq_true,if_false] at z
    qV .inl z
  .exact .inr z
~!Og {cells:List (Str×Addr)} : ∀ {names:List (Str×NameKind)}{acc:List (Str×Addr)}{x:Str},((x,NameKind.free)∈names\/∃ c,(x,c)∈acc)->∃ c,(x,c)∈Bl cells names acc
 | [],_,_,h=>by
  rcases h with h | h
  .cases h
  .exact h
 | (n,k)::r,acc,x,h=>by
  unfold Bl
  z5 Og ?_
  rcases h with h | ⟨c,h⟩
  .rcases List.mem_cons.mp h with e | e
   .cases e
    qV .inr ⟨_,by simp only [beq_self_eq_true,if_true]; qV aQ⟩
   .exact .inl e
  .refine .inr ⟨c,?_⟩
   split
   .exact aJ _ h
   .exact h
~!pP {α:Type}{x:Str}{c:α} : ∀ {l:List (Str×α)},(x,c)∈l->∃ c',l.lookup x=some c'
 | (y,d)::r,h=>by
  rw [List.lookup_cons]
  cases hb:x == y with
  | true=>qV⟨d,rfl⟩
  | false =>
   rcases List.mem_cons.mp h with e | e
   .cases e; simp at hb
   .exact pP e
section
variable {X:Cx}{elt iter:Expr}{x:Str}{px pos:Pos}{scope:Scope}{wi:TI}{te:TE}
~!Inv.nostk' {pins:List (Addr×Obj)}{σ:L2.St}{H:Hp}{s:Shared} (I:Inv X pins σ H s) {b:Addr} (h1:b≠X.env.locals) (h2:b ∉ X.fs):b ∉ frs X.stack:=fun z=>by
 rcases List.mem_cons.mp (I.stkSub b z) with e | e
 .exact h1 e
 .exact h2 e
~!yX {env:Env} : ∀ {names:List (Str×NameKind)}{y:Str},(names.map fun (n,k)=>if (k == NameKind.free && env.scope.kind == .function && env.kindOf n == some .cell) then (n,NameKind.cell) else (n,k)).lookup y=some .cell \/
  (names.map fun (n,k)=>if (k == NameKind.free && env.scope.kind == .function && env.kindOf n == some .cell) then (n,NameKind.cell) else (n,k)).lookup y=some .free->(∀ z∈names,z.2≠.cell)->(y,NameKind.free)∈names
 | [],y,h,_=>by rcases h with h | h <;> cases h
 | (n,k)::r,y,h,hc=>by
  have ih:=@yX env r y
  simp only [List.map_cons] at h
  by_cases hcond:(k == NameKind.free && env.scope.kind == .function && env.kindOf n == some .cell)=true
  .rw [if_pos hcond] at h
   simp only [List.lookup_cons] at h
   cases hb:y == n with
   | true =>
    have hk:k=.free:=by
     simp only [Bool.and_eq_true,beq_iff_eq] at hcond
     qV hcond.1.1
    have:y=n:=by simpa using hb
    subst this hk
    qV aQ
   | false =>
    rw [hb] at h
    qV aJ _ (ih h fun z hz=>hc z (aJ _ hz))
  .rw [if_neg hcond] at h
   simp only [List.lookup_cons] at h
   cases hb:y == n with
   | true =>
    rw [hb] at h
    have:y=n:=by simpa using hb
    subst this
    rcases h with h | h
    .exact absurd (Option.some.inj h) (hc (y,k) aQ)
    .have:k=.free:=Option.some.inj h
     subst this
     qV aQ
   | false =>
    rw [hb] at h
    qV aJ _ (ih h fun z hz=>hc z (aJ _ hz))
end
section
variable {X:Cx}
def adM (neg:Bool):R2:=fun x y H Q=>∃ b,y=.bl b/\Q (.bl (if neg then !decide (x=.bl b) else decide (x=.bl b))) H
def eqF:List V->List V->Bool
 | [],[]=>true
 | x::xs,y::ys=>eqV x y && eqF xs ys
 | _,_=>false
def eqH (H:Hp) (x y:V):Option Bool :=
 match x,y with
 | .ref a,.ref b=>match H a,H b with
  | some (.tup xs),some (.tup ys)=>if xs.all pO && ys.all pO then some (eqF xs ys) else none
  | some (.lst xs),some (.lst ys)=>if xs.all pO && ys.all pO then some (eqF xs ys) else none
  | some (.lst _),some (.tup _)=>some false
  | some (.tup _),some (.lst _)=>some false
  | _,_=>none
 | .ref a,y=>if pO y then (match H a with
  | some (.tup _)=>some false
  | some (.lst _)=>some false
  | _=>none) else none
 | x,.ref b=>if pO x then (match H b with
  | some (.tup _)=>some false
  | some (.lst _)=>some false
  | _=>none) else none
 | x,y=>if Uq x y then some (decide (x=y)) else none
def acN:R2:=fun x y H Q=>∃ k,eqH H x y=some k/\Q (.bl k) H
~!Inv.tupIs {pins:List (Addr×Obj)}{σ:L2.St}{H:Hp}{s:Shared}{a:Addr}{xs:List V} (I:Inv X pins σ H s) (h:H a=some (.tup xs)):∃ its,Vals xs its/\IsTup s.heap a its.toArray/\s.heap.IsTuple a its.toArray:=by
 x5⟨its,rv,ht,_⟩:=I.tuple (SqT.of h)
 qV⟨its,rv,ht,ht⟩
~!Inv.lstIs {pins:List (Addr×Obj)}{σ:L2.St}{H:Hp}{s:Shared}{a:Addr}{xs:List V} (I:Inv X pins σ H s) (h:H a=some (.lst xs)):∃ its,Vals xs its/\s.heap.IsList a its.toArray:=by
 x5⟨its,rv,ht,_⟩:=I.list (SqL.of h)
 qV⟨its,rv,ht.isList⟩
~!yt:Fe X (fun _ _ _ _=>False):=fun _ _ _ _ _ _ _ _ _ _ _ _ z=>z.elim
def IsX (H:Hp) (a C:Addr):Prop:=∃ d,H a=some (XO a C d)
def Ww (C D:Addr) (b:Bool):List V->Hp->VK->Prop:=fun xs H Q=>∃ a,xs=[.ref a,.ref D]/\IsX H a C/\Q (.bl b) H
def X8 (C:Addr) (T:String) (b:Bool):List V->Hp->VK->Prop:=fun xs H Q=>∃ a,xs=[.ref a,.ty T]/\IsX H a C/\Q (.bl b) H
end
def Rg (tk tv:TE):TE:=fun σ H Q=>∀ p,H p=none->tk σ (upd H p (.dK [])) fun x H1=>∃ i,x=.int i/\tv σ H1 fun y H2=>H2 p=some (.dK [])/\Q (.ref p) (upd H2 p (.dK [(.inl i,y)]))
open PySem.SeqAt in
section
variable {X:Cx}
structure PEB (X:Cx) (e:Expr) (t:TE):Prop where
 out:PE X e t
structure PAB (X:Cx) (es:List Expr) (t:TA):Prop where
 out:PA X es t
structure PSB (X:Cx) (st:Stmt) (t:TS):Prop where
 out:PS X st t
structure abN (X:Cx) (b:List Stmt) (t:TS):Prop where
 out:PSs X b t
~!v8 {i j pos} : PEB X (.Constant (.int i) j pos) (tC (.int i)):=⟨bH⟩
~!aax {es:List Expr}{t:TA}{pos:Pos} (h:PAB X es t):PEB X (.List es pos) (Ze t):=⟨kW h.out⟩
~!ab0:PAB X [] Cu:=⟨bI⟩
~!Jb {c:Const}{k:Nat}{p:Pos}{es:List Expr}{te:TE}{t:TA} (ha:PEB X (.Constant c k p) te) (hr:PAB X es t):PAB X (.Constant c k p::es) (sV te t):=⟨bG ha.out hr.out rfl⟩
~!aaB {i:Nat}{x:Str}{e:Expr}{te:TE}{pos pos':Pos} (hN:X.N.Nodup) (hi:X.N[i]?=some x) (hx:Loc X.env.scope x) (he:PEB X e te) (hs:swapsWith e (some (.Name x pos')) pos.line X.env=pure false:=by rfl) (hf:X.fn x=true\/X.env.scope.names.lookup x=some .local:=by first | qV .inl rfl | qV .inr rfl | assumption) :
  PSB X (.Assign [.Name x pos'] e pos) (Gu te (cU i)):=⟨cA hN hi hx he.out hs hf⟩
~!cJ {st:Stmt}{rest:List Stmt}{t u:TS} (h1:PSB X st t) (h2:abN X rest u):abN X (st::rest) (q_ t u):=⟨bN h1.out h2.out⟩
end
section
variable {P:Program}{w:World}{K:Frag}{mg:Str->Option Value}{base:Heap}
~!Fun.okB {x qual:Str}{st:Stmt}{f:Addr}{fd:FuncData}{N ps:List Str}{k:Nat}{sp:Sp} (F:Fun K x qual st f fd) (S:cj N ps (bO st)) (len:∀ vs H Q E,sp vs H Q E->vs.length=ps.length)
  (hbody:∀ (cdv:Value) (A:Around) (outer:List Env) (s:Shared) (H:Hp) (vs:List V) (Q:VK) (E:XK),fU k (A.deeper (envOfC qual (bO st) s.heap.objs.size f cdv))->sp vs H Q E ->
   ∃ t,abN (Ce CX0 P w K mg base N qual (bO st) f cdv A outer s H E).nox (eZ st) t/\t { nx:=fun _ H'=>Q .non H',rt:=Q } (L2.start N vs) H):cD P w K mg base CX0 (k+1) f fd ps sp :=
 F.ok S len fun cdv A outer s H vs Q E hr hsp=>let ⟨t,h1,h2⟩:=hbody cdv A outer s H vs Q E hr hsp; ⟨t,h1.out,h2⟩
end
mutual
inductive Shows (H:Hp):V->PyData->Prop
 | non:Shows H .non .none
 | bl (b:Bool):Shows H (.bl b) (.bool b)
 | int (i:Int):Shows H (.int i) (.int i)
 | str (x:Str):Shows H (.str x) (.str x)
 | lst {a:Addr}{xs:List V}{ds:List PyData} : H a=some (.lst xs)->fu H xs ds->Shows H (.ref a) (.list ds)
 | tup {a:Addr}{xs:List V}{ds:List PyData} : H a=some (.tup xs)->fu H xs ds->Shows H (.ref a) (.tuple ds)
inductive fu (H:Hp):List V->List PyData->Prop
 | nil:fu H [] []
 | cons {x:V}{xs:List V}{d:PyData}{ds:List PyData} : Shows H x d->fu H xs ds->fu H (x::xs) (d::ds)
end
mutual
theorem Shows.same {H H':Hp} (S:Same H H'):∀ {x:V}{d:PyData},Shows H x d->Shows H' x d
 | _,_,.non=>.non
 | _,_,.bl b=>.bl b
 | _,_,.int i=>.int i
 | _,_,.str x=>.str x
 | _,_,.lst e h=>.lst (S _ _ e) (fu.same S h)
 | _,_,.tup e h=>.tup (S _ _ e) (fu.same S h)
theorem fu.same {H H':Hp} (S:Same H H'):∀ {xs:List V}{ds:List PyData},fu H xs ds->fu H' xs ds
 | _,_,.nil=>.nil
 | _,_,.cons h t=>.cons (Shows.same S h) (fu.same S t)
end
~!fu.ints (H:Hp):∀ ns:List Int,fu H (ns.map V.int) (ns.map PyData.int)
 | []=>.nil
 | n::ns=>.cons (.int n) (fu.ints H ns)
section
variable {X:Cx}{pins:List (Addr×Obj)}{σ:L2.St}{H:Hp}{s:Shared}
mutual
theorem Inv.reads (I:Inv X pins σ H s):∀ {x:V}{d:PyData}{v:Value},Shows H x d->RelV x v->∃ as,Reads s.heap v d as
 | _,_,_,.non,r=>by cases r; qV⟨_,.none⟩
 | _,_,_,.bl b,r=>by cases r; qV⟨_,.bool b⟩
 | _,_,_,.int i,r=>by x5⟨t,rfl⟩:=r; qV⟨_,.int i t⟩
 | _,_,_,.str x,r=>by x5⟨t,rfl⟩:=r; qV⟨_,.str x t⟩
 | _,_,_,.lst e h,r=>by
  cases r
  x5⟨its,rv,⟨o,ho,hc,n,hd⟩⟩:=I.lstIs e
  x5⟨as,q⟩:=Inv.readsAll I h rv
  qV⟨_,.list ho hc hd q⟩
 | _,_,_,.tup e h,r=>by
  cases r
  x5⟨its,rv,_,⟨o,ho,hc,n,hd⟩⟩:=I.tupIs e
  x5⟨as,q⟩:=Inv.readsAll I h rv
  qV⟨_,.tuple ho hc hd q⟩
theorem Inv.readsAll (I:Inv X pins σ H s):∀ {xs:List V}{ds:List PyData}{vs:List Value},fu H xs ds->Vals xs vs->∃ as,ReadsAll s.heap vs ds as
 | _,_,_,.nil,r=>by cases r; qV⟨_,.nil⟩
 | _,_,_,.cons h t,r=>by
  cases r with
  | cons r1 r2 =>
   x5⟨a,q1⟩:=Inv.reads I h r1
   x5⟨b,q2⟩:=Inv.readsAll I t r2
   qV⟨_,.cons q1 q2⟩
end
def Wz (neg:Bool):R2:=fun x y H Q=>∃ d e,Shows H x d/\Shows H y e/\SeqAt.shaped d=true/\SeqAt.shaped e=true/\Q (.bl (if neg then !PyData.eqv d e else PyData.eqv d e)) H
~!adv (hu:X.A.units+64<cLine):OpR X (compareOp .Eq) (Wz false):=by
 intro pins s σ H x y v u Q I rx ry h
 x5⟨d,e,hd,he,sd,se,q⟩:=h
 x5⟨as,ra⟩:=I.reads hd rx
 x5⟨bs,rb⟩:=I.reads he ry
 qV SeqAt.compareEq_shaped ra rb sd se hu ⟨.bl _,H,I,rfl,q⟩
~!X5 (hu:X.A.units+64<cLine):OpR X (compareOp .NotEq) (Wz true):=by
 intro pins s σ H x y v u Q I rx ry h
 x5⟨d,e,hd,he,sd,se,q⟩:=h
 x5⟨as,ra⟩:=I.reads hd rx
 x5⟨bs,rb⟩:=I.reads he ry
 qV SeqAt.compareNe_shaped ra rb sd se hu ⟨.bl _,H,I,rfl,q⟩
def R8:List V->Hp->VK->Prop:=fun xs H Q=>∃ (l:Addr) (ns:List Int),xs=[.ref l]/\H l=some (.lst (ns.map V.int))/\Q (.int ns.sum) H
~!Bh (hc:X.calm=true):h_ X (.builtin "sum") R8:=by
 intro pins s σ H xs us Q I r h
 x5⟨l,ns,rfl,hl,q⟩:=h
 x5⟨u,rfl,ru⟩:=r.one
 cases ru
 x5⟨its,rv,p⟩:=I.lstIs hl
 have hI:=intsAre_of rv
 x5⟨xs,e⟩:=hI.allInts.items
 have hn:=hI.numsOf
 rw [show its=its.toArray.toList from rfl,e,nums_intItems] at hn
 rw [e] at p
 z5 sum_intListG (I.ok.hd hc) p fun h' tk t' k=>⟨.int ns.sum,H,I.kept k,?_,q⟩
 rw [preSum_eq,aM (by simp),hn]
 qV⟨_,rfl⟩
def W7:List V->Hp->VK->Prop:=fun xs H Q=>∃ (l:Addr) (ns:List Int),xs=[.ref l]/\H l=some (.lst (ns.map V.int))/\0<ns.length/\∀ M,M∈ns->(∀ a,a∈ns->a <= M)->Q (.int M) H
def W2:List V->Hp->VK->Prop:=fun xs H Q=>∃ (l:Addr) (ns:List Int),xs=[.ref l]/\H l=some (.lst (ns.map V.int))/\0<ns.length/\∀ M,M∈ns->(∀ a,a∈ns->M <= a)->Q (.int M) H
def acY (te ts:TE):TE:=fun σ H Q=>te σ H fun x H1=>ts σ H1 fun y H2=>y=.int (-1)/\∃ a xs,x=.ref a/\H2 a=some (.lst xs)/\∀ p,H2 p=none->Q (.ref p) (upd H2 p (.lst xs.reverse))
end
section
variable {K:Frag}{tl:TE}{ta:TA}{g:TG}{tb:TS}{D:Ends}{σ:L2.St}{H:Hp}
~!Uw (h:tl σ H fun x H1=>∃ a xs,x=.ref a/\H1 a=some (.lst xs)/\∃ J:Nat->L2.St->Hp->Prop,J 0 σ H1 /\
   (∀ k x σ' H',xs[k]?=some x->J k σ' H'->H' a=some (.lst xs)->g x σ' H' fun σ2 H2=>tb { D with nx:=fun σ3 H3=>H3 a=some (.lst xs)/\J (k+1) σ3 H3,ct:=fun σ3 H3=>H3 a=some (.lst xs)/\J (k+1) σ3 H3,bk:=D.nx } σ2 H2) /\
   ∀ σ' H',J xs.length σ' H'->H' a=some (.lst xs)->D.nx σ' H') (hm:∀ (P Q:V->Hp->Prop),(∀ x H',P x H'->Q x H')->tl σ H P->tl σ H Q):MN (Eo K tl) g tb D σ H:=by
 z5 hm _ _ ?_ h
 rintro x H1 ⟨a,xs,rfl,hx,J,j0,step,fin⟩
 z5⟨a,rfl,⟨xs,.of hx⟩,fun k m σ' H'=>k <= xs.length/\m=xs.length - k/\H' a=some (.lst xs)/\J k σ' H',⟨_,bC _,rfl,hx,j0⟩,?_⟩
 rintro k m σ' H' ⟨hk,rfl,hx',j⟩
 by_cases e:k=xs.length
 .subst e
  qV .inl ⟨⟨xs,.of hx',aG _⟩,fin σ' H' j hx'⟩
 .have hlt:k<xs.length:=by om
  have e1:xs[k]?=some xs[k]:=aj hlt
  z5 .inr ⟨⟨xs,_,.of hx',e1⟩,fun σ3 H3=>H3 a=some (.lst xs)/\J (k+1) σ3 H3,fun σ3 H3 ⟨z1,z2⟩=>⟨xs.length - (k+1),by om,by om,rfl,z1,z2⟩,?_⟩
  rintro x H'' ⟨rfl,y⟩
  qV step k x σ' H'' (y xs (.of hx')) j hx'
~!VL (h:ta σ H fun vs H1=>∃ n:Nat,vs=[.int n]/\n<2 ^ 61/\∃ J:Nat->L2.St->Hp->Prop,J 0 σ H1 /\
   (∀ (k:Nat) σ' H',k<n->J k σ' H'->g (.int k) σ' H' fun σ2 H2=>tb { D with nx:=J (k+1),ct:=J (k+1),bk:=D.nx } σ2 H2)/\∀ σ' H',J n σ' H'->D.nx σ' H')
  (hm:∀ (P Q:List V->Hp->Prop),(∀ x H',P x H'->Q x H')->ta σ H P->ta σ H Q):MN (RT ta) g tb D σ H:=by
 z5 hm _ _ ?_ h
 rintro x H1 ⟨n,rfl,hn,J,j0,step,fin⟩
 z5⟨n,rfl,by om,by om,?_⟩
 rw [Int.toNat_natCast]
 z5⟨fun k m σ' H'=>k <= n/\m=n - k/\J k σ' H',⟨_,bC _,rfl,j0⟩,?_⟩
 rintro k m σ' H' ⟨hk,rfl,j⟩
 by_cases e:k=n
 .subst e
  qV .inl ⟨aG _,fin σ' H' j⟩
 .have hlt:k<n:=by om
  z5 .inr ⟨hlt,J (k+1),fun σ3 H3 z=>⟨n - (k+1),by om,by om,rfl,z⟩,?_⟩
  rintro x H'' ⟨rfl,rfl⟩
  rw [Int.zero_add]
  qV step k σ' H'' hlt j
end
section
variable {X:Cx}
def tM (t:TE):TE:=fun σ H Q=>∃ R:VK,t σ H R/\∀ x H',R x H'->Q x H'
def tMA (t:TA):TA:=fun σ H Q=>∃ R:List V->Hp->Prop,t σ H R/\∀ x H',R x H'->Q x H'
~!PE.mono {a:Expr}{t:TE} (h:PE X a t):PE X a (tM t):=fun pins s σ H Q I ⟨R,h1,h2⟩ =>
 thn (h pins s σ H R I h1) fun v s' hP=>by x5⟨x,H',I',r,q⟩:=hP; qV⟨x,H',I',r,h2 x H' q⟩
~!PA.mono {es:List Expr}{t:TA} (h:PA X es t):PA X es (tMA t):=fun pos pins s σ H Q I ⟨R,h1,h2⟩ =>
 thn (h pos pins s σ H R I h1) fun v s' hP=>by x5⟨x,H',I',r,q⟩:=hP; qV⟨x,H',I',r,h2 x H' q⟩
~!PE.imp {a:Expr}{t t':TE} (h:PE X a t) (i:∀ σ H Q,t' σ H Q->t σ H Q):PE X a t':=fun pins s σ H Q I q=>h pins s σ H Q I (i σ H Q q)
~!acw {t:TE}{σ:L2.St}{H:Hp}{Q:VK} (h:t σ H Q):tM t σ H Q:=⟨Q,h,fun _ _ q=>q⟩
~!fj {K:Frag}{tl:TE}{g:TG}{tb:TS}{D:Ends}{σ:L2.St}{H:Hp} (h:tl σ H fun x H1=>∃ a xs,x=.ref a/\H1 a=some (.lst xs)/\∃ J:Nat->L2.St->Hp->Prop,J 0 σ H1 /\
   (∀ k x σ' H',xs[k]?=some x->J k σ' H'->H' a=some (.lst xs)->g x σ' H' fun σ2 H2=>tb { D with nx:=fun σ3 H3=>H3 a=some (.lst xs)/\J (k+1) σ3 H3,ct:=fun σ3 H3=>H3 a=some (.lst xs)/\J (k+1) σ3 H3,bk:=D.nx } σ2 H2) /\
   ∀ σ' H',J xs.length σ' H'->H' a=some (.lst xs)->D.nx σ' H'):MN (Eo K (tM tl)) g tb D σ H :=
 Uw (acw h) fun _ _ i hP=>by x5⟨R,a,b⟩:=hP; qV⟨R,a,fun x H' q=>i x H' (b x H' q)⟩
~!vY {ta:TA}{g:TG}{tb:TS}{D:Ends}{σ:L2.St}{H:Hp} (h:ta σ H fun vs H1=>∃ n:Nat,vs=[.int n]/\n<2 ^ 61/\∃ J:Nat->L2.St->Hp->Prop,J 0 σ H1 /\
   (∀ (k:Nat) σ' H',k<n->J k σ' H'->g (.int k) σ' H' fun σ2 H2=>tb { D with nx:=J (k+1),ct:=J (k+1),bk:=D.nx } σ2 H2)/\∀ σ' H',J n σ' H'->D.nx σ' H'):MN (RT (tMA ta)) g tb D σ H :=
 VL (ta:=tMA ta) ⟨_,h,fun _ _ q=>q⟩ fun _ _ i hP=>by x5⟨R,a,b⟩:=hP; qV⟨R,a,fun x H' q=>i x H' (b x H' q)⟩
def aa9 (to:TE) (t:TA):TE:=fun σ H Q=>to σ H fun x H1=>∃ l xs,x=.ref l/\H1 l=some (.lst xs)/\t σ H1 fun vs H2=>∃ y ys,vs=[y]/\H2 l=some (.lst ys)/\ys.length<sizeLine/\Q .non (upd H2 l (.lst (ys++[y])))
~!tH {o e:Expr}{to:TE}{t:TA}{apos cpos:Pos} (ho:PE X o to) (ha:PA X [e] t) (hb:attributeBase o "append" X.env (eval o X.env)=eval o X.env:=by rfl)
  (hf:((backTo cpos (starEach [e] X.env)).all (fun x=>!x.1) && (backToKw cpos (keywordEach [] X.env)).all (fun x=>x.1.isSome) && decide ([e].length+([] : List Keyword).length+(if ([] : List Keyword).isEmpty then 0 else 1)<30))=true:=by rfl)
  (hl:(apos.endLine == cpos.line)=true:=by rfl) (hs:starEach [e] X.env=(false,eval e X.env)::starEach [] X.env:=by rfl) (hp:(backTo cpos (starEach [] X.env)).any (·.1)=false:=by rfl) :
  PE X (.Call (.Attribute o "append" apos) [e] [] cpos) (aa9 to t):=by
 z5(acg PySem.F.plainAttrs_list PySem.F.slot_list_append PySem.F.type_list_append HY ho.mono ha.mono hb hf hl hs hp).imp fun σ H Q h=>?_
 z5⟨_,h,?_⟩
 rintro x H1 ⟨l,xs,rfl,hx,h2⟩
 z5⟨.inl ⟨rfl,_,SqL.of hx⟩,_,h2,?_⟩
 rintro vs H2 ⟨y,ys,rfl,hy,hz,q⟩
 qV⟨l,ys,y,rfl,rfl,hy,hz,q⟩
def adz (to:TE):TE:=fun σ H Q=>to σ H fun x H1=>∃ l xs,x=.ref l/\H1 l=some (.lst xs)/\Q .non (upd H1 l (.lst []))
def Lx:List V->Hp->VK->Prop:=fun xs H Q=>∃ p ys,xs=[.ref p]/\H p=some (.lst ys)/\∀ l,H l=none->Q (.ref l) (upd H l (.lst ys))
~!xV:h_ X (.type "list") Lx:=KD.imp fun xs H Q hP=>by x5⟨p,ys,a,b,c⟩:=hP; qV⟨p,ys,a,.inl (.of b),c⟩
end
mutual
theorem QB:∀ ns:List Int,PyData.canLayAll0 (ns.map PyData.int)=true
 | []=>rfl
 | n::ns=>by
  rw [List.map_cons]; unfold PyData.canLayAll0
  rw [QB ns]; rfl
end
inductive FL (H:Hp):List V->List (Int×Int)->Prop
 | nil:FL H [] []
 | cons {p:Addr}{f:Int×Int}{xs:List V}{fs:List (Int×Int)} : H p=some (.tup [.int f.1,.int f.2])->FL H xs fs->FL H (.ref p::xs) (f::fs)
~!FL.imp {H H':Hp} (h:∀ p a b,H p=some (.tup [.int a,.int b])->H' p=some (.tup [.int a,.int b])):∀ {xs:List V}{fs:List (Int×Int)},FL H xs fs->FL H' xs fs
 | _,_,.nil=>.nil
 | _,_,.cons e t=>.cons (h _ _ _ e) (FL.imp h t)
~!FL.same {H H':Hp} (S:Same H H') {xs:List V}{fs:List (Int×Int)} (h:FL H xs fs):FL H' xs fs:=h.imp fun p _ _ e=>S p _ e
~!FL.length {H:Hp} : ∀ {xs:List V}{fs:List (Int×Int)},FL H xs fs->xs.length=fs.length
 | _,_,.nil=>rfl
 | _,_,.cons _ t=>by rw [List.length_cons,List.length_cons,FL.length t]
~!FL.get {H:Hp}{xs:List V}{fs:List (Int×Int)}{k:Nat}{x:V} (g:FL H xs fs) (h:xs[k]?=some x):∃ p f,x=.ref p/\fs[k]?=some f/\H p=some (.tup [.int f.1,.int f.2]):=by
 induction g generalizing k with
 | nil=>cases h
 | cons e t ih =>
  cases k with
  | zero=>cases h; qV⟨_,_,rfl,rfl,e⟩
  | succ k=>qV ih h
~!FL.append {H:Hp} : ∀ {xs ys:List V}{fs gs:List (Int×Int)},FL H xs fs->FL H ys gs->FL H (xs++ys) (fs++gs)
 | _,_,_,_,.nil,h=>h
 | _,_,_,_,.cons e t,h=>.cons e (FL.append t h)
~!FL.one {H:Hp}{p:Addr}{a b:Int} (h:H p=some (.tup [.int a,.int b])):FL H [.ref p] [(a,b)]:=.cons (f:=(a,b)) h .nil
def Its (x:Str):It:=⟨fun i _=>i<x.cps.size,fun i H v H'=>H'=H/\∃ c,x.cps[i]?=some c/\v=.str ⟨#[c]⟩,fun i _=>i=x.cps.size⟩
~!Np {P:Program}{w:World}{K:Frag}{tg:Expr} (it:Addr) (x:Str) (t:Tok) (ty:String) (hty : ["enumerate", "zip", "dict_itemiterator", "dict_reverseitemiterator", "odict_iterator", "itertools.zip_longest", "itertools.pairwise"].contains ty=false)
  (W:∀ A:Around,A.handled=none->Walks P w A it [it] [it] x.cps.size (SignAt x) (fun i h=>h.IsStrIter it ty x t i))
  (hself:∀ (A:Around) (i:Nat) (s:Shared) (Q:Value->Shared->Prop) (E:Value->Shared->Prop),s.heap.IsStrIter it ty x t i->Q (.ref it) s->wpAny (model P w) A (pyIter (.ref it)) Q E s):Turn P w K tg (Its x) [it] it (fun i h=>h.IsStrIter it ty x t i) where
 mem:=by simp
 obj:=fun i h st b hb=>by
  have e:b=it:=by simpa using hb
  subst e
  x5⟨o,ho,_,hd⟩:=st
  qV⟨o,ho,fun v z=>by rw [hd] at z; cases z⟩
 keep:=fun i h h' st k=>let ⟨o,ho,r⟩:=st; ⟨o,k it (by simp) o ho,r⟩
 item:=by
  intro X hP hw hK hc i pins s σ H E I hf st hg
  subst hP hw hK
  x5⟨f0,f1,f2,f3,f4,f5⟩:=hf it (by simp)
  z5(W X.A (I.ok.hd hc)).item i s _ _ hg st fun v h' tk hv st' kk=>?_
  x5⟨c,u,hx,rfl⟩:=hv
  have I1:Inv X pins σ H { s with heap:=h',toks:=tk }:=I.turned (fun b o hb e=>kk b o (by simpa using hb) e) f0 f1 f3 f4 f5
  x5⟨o,ho,hcl,hd⟩:=id st'
  qV⟨_,rfl,Ny (s:={ s with heap:=h',toks:=tk }) ho hcl hd hty ⟨.str ⟨#[c]⟩,H,I1,⟨u,rfl⟩,⟨rfl,c,hx,rfl⟩,st',fun b hb=>(hf b hb).1⟩⟩
 done:=by
  intro X hP hw hK hc i pins s σ H E I hf st hg
  subst hP hw hK
  x5⟨f0,f1,f2,f3,f4,f5⟩:=hf it (by simp)
  have hg':i=x.cps.size:=hg
  subst hg'
  qV(W X.A (I.ok.hd hc)).done s _ _ st fun h' tk kk=>⟨rfl,I.turned (fun b o hb e=>kk b o (by simpa using hb) e) f0 f1 f3 f4 f5⟩
 self:=hself
section
variable {X:Cx}{tg:Expr}
def agn (te:TE):TI:=fun σ H R=>te σ H fun v H1=>∃ x,v=.str x/\R (Its x) H1
~!adV {l:Expr}{tl:TE} (hl:PE X l tl):PI X tg l (agn tl):=by
 intro pins s σ H R I h
 z5 thn (hl pins s σ H _ I h) fun v s1 hP=>?_
 x5⟨x,H1,I1,r1,y,ey,q⟩:=hP
 subst ey
 x5⟨t,rfl⟩:=r1
 have fp:∀ b∈[s1.heap.objs.size],BZ X pins H1 b:=fun b hb=>by
  have e:b=s1.heap.objs.size:=by simpa using hb
  subst e
  qV I1.fpOk (aG _) (I1.hok.fresh (aG _))
 have k:∀ o:Obj,Inv X pins σ H1 { s1 with heap:=s1.heap.push o }:=fun o=>I1.kept (t':=s1.toks) fun b ob z=>aH _ z
 cases ha:y.cps.all (· < 128)
 .exact wpAny_pyIter_wide ha ⟨s1.heap.objs.size,[s1.heap.objs.size],_,Its y,H1,rfl,k _,Np _ y t "str_iterator" (by decide) (fun A hA=>Walks.strWide hA _ y t) (fun A i s Q E st h=>wpAny_pyIter_striter_wide st h),⟨_,bh _ rfl,rfl,rfl⟩,fp,q⟩
 .exact wpAny_pyIter_ascii ha ⟨s1.heap.objs.size,[s1.heap.objs.size],_,Its y,H1,rfl,k _,Np _ y t "str_ascii_iterator" (by decide) (fun A hA=>Walks.strAscii hA _ y t) (fun A i s Q E st h=>wpAny_pyIter_striter_ascii st h),⟨_,bh _ rfl,rfl,rfl⟩,fp,q⟩
end
def Gg (x:Str) (lo hi:Option Int):Str:=⟨((x.cps.toList.drop (HT.sIx x.length 0 lo)).take (HT.sIx x.length x.length hi - HT.sIx x.length 0 lo)).toArray⟩
~!strIdx (lo hi:Option Int) (n:Nat):Builtin.Str.strSliceIndices lo hi 1 n=(List.range (HT.sIx n n hi - HT.sIx n 0 lo)).map (HT.sIx n 0 lo + ·):=by
 rw [<- sliceRange_one]
 unfold Builtin.Str.strSliceIndices
 have h1:∀ (o:Option Int) (d:Nat),d <= n->(match o with
   | none=>(d:Int)
   | some i=>(let i:=if i<0 then i+(n:Int) else i; if (1:Int) > 0 then max 0 (min i n) else max (-1) (min i (n - 1))))=((HT.sIx n d o:Nat):Int):=by
  intro o d hd
  cases o with
  | none=>rfl
  | some i =>
   simp only [HT.sIx,show (1:Int) > 0 by decide,if_true]
   by_cases h:i<0
   .simp only [h,if_true] <;> om
   .simp only [h,if_false] <;> om
 have e1:=h1 lo 0 (bC _)
 have e2:=h1 hi n (aG _)
 simp only [show (1:Int) > 0 by decide,if_true] at e1 e2 ⊢
 rw [<- e1,<- e2]
 rfl
~!aao (x:Str) (lo hi:Option Int):(⟨((Builtin.Str.strSliceIndices lo hi 1 x.length).filterMap (x.cps[·]?)).toArray⟩ : Str)=Gg x lo hi:=by
 rw [strIdx,pick_run]; rfl
~!PX (x:Str) (lo hi:Option Int) (h:(Builtin.Str.strSliceIndices lo hi 1 x.length).length=x.length):Gg x lo hi=x:=by
 rw [strIdx,ao,List.length_range] at h
 have h2:=HT.adY x.length x.length (aG _) hi
 unfold Gg
 have hx:x.length=x.cps.size:=rfl
 have e:x.cps.toList.length=x.length:=by simp [hx]
 by_cases z:x.length=0
 .have:x.cps.toList=[]:=List.length_eq_zero_iff.mp (by om)
  rw [this]
  x5⟨⟨l⟩⟩:=x
  simp at this
  subst this
  simp
 .have e0:HT.sIx x.length 0 lo=0:=by om
  rw [e0,List.drop_zero,aM (by om)]
def aay:V->Option Int->Option Int->Hp->VK->Prop:=fun x lo hi H Q=>∃ y,x=.str y/\y.length <= sizeLine/\Q (.str (Gg y lo hi)) H
~!part_of {v:Value}{o:Option Int} (h:IsPart v o):∃ l:Option (Int×Tok),v=partValue l/\l.map (·.1)=o:=by
 cases h with
 | none=>qV⟨none,rfl,rfl⟩
 | int i t=>qV⟨some (i,t),rfl,rfl⟩
~!Zq {X:Cx} : SlR X aay:=by
 intro pins s σ H x v vl vu lo hi sl Q I rx hs pl pu h
 x5⟨y,rfl,hz,q⟩:=h
 x5⟨t,rfl⟩:=rx
 x5⟨l,rfl,el⟩:=part_of pl
 x5⟨u,rfl,eu⟩:=part_of pu
 z5⟨"str",_,F.slot_str_getitem.lookup,typeIs_str s y t,wpAny_getItem_str_slice (l:=l) (u:=u) (st:=none) hs rfl ?_⟩
 unfold sliceMade slicePicked
 rw [el,eu]
 split
 .rename_i hw
  have hw':=(Bool.and_eq_true_iff.mp hw).2
  rw [beq_iff_eq] at hw'
  have e:=PX y lo hi hw'
  rw [e] at q
  qV⟨.str y,H,I,⟨t,rfl⟩,q⟩
 .have e:=aao y lo hi
  z5⟨?_,.str (Gg y lo hi),H,I.tok _,⟨s.toks,?_⟩,q⟩
  .refine aN ?_ hz
   z5 aN (Nat.le_of_eq (congrArg Str.length e)) ?_
   show ((y.cps.toList.drop _).take _).toArray.size <= y.cps.size
   rw [bw,bA,List.length_drop,Array.length_toList]
   om
  .rw [<- e]; rfl
def Rn (tk tv:TE):TE:=fun σ H Q=>∀ p,H p=none->tk σ (upd H p (.dK [])) fun x H1=>∃ i,x=.str i/\tv σ H1 fun y H2=>H2 p=some (.dK [])/\Q (.ref p) (upd H2 p (.dK [(.inr i,y)]))
section
variable {X:Cx}
def RB:R2:=fun x y H Q=>∃ i j,x=.str i/\y=.str j/\i.length+j.length <= sizeLine/\Q (.str (i++j)) H
~!Ug:OpR X (binaryOp .Add) RB:=Qt
def aaX:R2:=fun x y H Q=>∃ i j,x=.str i/\y=.str j/\Q (.bl (!decide (j.cps.toList<i.cps.toList))) H
~!Y8:OpR X (compareOp .LtE) aaX:=by
 intro pins s σ H x y v u Q I rx ry h
 x5⟨i,j,rfl,rfl,q⟩:=h
 x5⟨t,rfl⟩:=rx
 x5⟨t',rfl⟩:=ry
 qV PySem.P.le_str (dM I q rfl)
def acP (neg:Bool):R2:=fun x y H Q=>∃ i j,x=.str i/\y=.str j/\∃ c,i=⟨#[c]⟩/\Q (.bl (if neg then !decide (c∈j.cps.toList) else decide (c∈j.cps.toList))) H
~!OpR.imp {f:Value->Value->Sem Value}{r r':R2} (h:OpR X f r) (i:∀ x y H Q,r' x y H Q->r x y H Q):OpR X f r':=fun pins s σ H x y v u Q I rx ry q=>h pins s σ H x y v u Q I rx ry (i _ _ _ _ q)
def Xa:List V->Hp->VK->Prop:=fun xs H Q=>∃ x n,xs=[.str x]/\x.length <= 640/\PySem.intText? x=some n/\Q (.int n) H
~!A_:∀ {bs:List Bool}{us:List Value},Vals (bs.map V.bl) us->∀ (i:Nat) (v:Value),us[i]?=some v->∃ b,bs[i]?=some b/\v=.bool b
 | [],_,.nil,i,v,h=>by cases i <;> cases h
 | b::bs,_,.cons r t,0,v,h=>by
  rw [List.getElem?_cons_zero] at h
  cases h
  qV⟨b,rfl,r⟩
 | b::bs,_,.cons r t,i+1,v,h=>by
  rw [List.getElem?_cons_succ] at h
  qV A_ t i v h
def Uc:List V->Hp->VK->Prop:=fun xs H Q=>∃ (l:Addr) (bs:List Bool),xs=[.ref l]/\H l=some (.lst (bs.map V.bl))/\Q (.bl (bs.all id)) H
~!sW:∀ bs:List Bool,((List.range bs.length).all fun i=>(bs[i]?).getD true)=bs.all id
 | []=>rfl
 | b::bs=>by
  rw [List.length_cons,List.range_succ_eq_map,List.all_cons,List.all_map,List.all_cons]
  have:=sW bs
  simp only [Function.comp_def,List.getElem?_cons_succ,List.getElem?_cons_zero,Option.getD_some,id] at this ⊢
  rw [this]
~!Bg (hc:X.calm=true):h_ X (.builtin "all") Uc:=by
 intro pins s σ H xs us Q I r h
 x5⟨l,bs,rfl,hl,q⟩:=h
 x5⟨u,rfl,ru⟩:=r.one
 cases ru
 x5⟨its,rv,p⟩:=I.lstIs hl
 have hlt:l<s.heap.objs.size:=by x5⟨_,e,_⟩:=p; qV aK e
 z5 call_all_walk (wpAny_pyIter_list p ?_)
 z5⟨s.heap.objs.size,[s.heap.objs.size,l],[s.heap.objs.size],its.toArray.size,_,_,fun i=>(bs[i]?).getD true,rfl,Walks.list (A:=X.A.in1) (I.ok.hd hc) _ l (aV hlt) its.toArray,
  ⟨⟨_,bh _ rfl,rfl,rfl⟩,p.push _⟩,fun i v s' Q' E' hP hQ=>?_,fun h' tk hk=>?_⟩
 .obtain ⟨b,e,rfl⟩:=A_ rv i v (by simpa using hP)
  simp only [e,Option.getD_some] at hQ
  qV wpAny_truthy_bool hQ
 .have e:((List.range its.toArray.size).all fun i=>(bs[i]?).getD true)=bs.all id:=by
   rw [bw,<- rv.length,ao]; qV sW bs
  z5⟨.bl (bs.all id),H,I.kept (t':=tk) fun b o q=>hk b o (fun hm=>?_) (aH _ q),?_,q⟩
  .rw [List.mem_singleton.mp hm] at q
   qV Nat.lt_irrefl _ (aK q)
  .rw [e]; rfl
def JM:V->List V->Hp->VK->Prop:=fun x vs H Q=>∃ a b,x=.str a/\vs=[.str b]/\Q (.bl (decide (0+b.length <= a.length) && Builtin.Str.subAt a b 0)) H
def agY:List Nat->Int
 | i::_=>(i:Int)
 | []=>-1
def Xp:V->List V->Hp->VK->Prop:=fun x vs H Q=>∃ a b,x=.str a/\vs=[.str b]/\Q (.int (agY (Builtin.Str.occurrences a b 0 a.length 1))) H
def Ro:V->List V->Hp->VK->Prop:=fun x vs H Q=>∃ a b,x=.str a/\vs=[.str b]/\1 <= b.length/\a.length<sizeLine/\∀ p,H p=none->Q (.ref p) (upd H p (.lst ((Txt.split a b).map V.str)))
def tSM (r:V->List V->Hp->VK->Prop) (to:TE) (t:TA):TE:=fun σ H Q=>to σ H fun x H1=>(∃ y,x=.str y)/\t σ H1 fun vs H2=>r x vs H2 Q
~!ae8 {o e:Expr}{to:TE}{t:TA}{name:Str}{id:String}{r:V->List V->Hp->VK->Prop}{apos cpos:Pos} (slot:Slot "str" name id) (hty:typeOf (.builtin id)=pure (.type "method_descriptor")) (hm:MtM X id r) (ho:PE X o to) (ha:PA X [e] t)
  (hb:attributeBase o name X.env (eval o X.env)=eval o X.env:=by rfl)
  (hf:((backTo cpos (starEach [e] X.env)).all (fun x=>!x.1) && (backToKw cpos (keywordEach [] X.env)).all (fun x=>x.1.isSome) && decide ([e].length+([] : List Keyword).length+(if ([] : List Keyword).isEmpty then 0 else 1)<30))=true:=by rfl)
  (hl:(apos.endLine == cpos.line)=true:=by rfl) (hs:starEach [e] X.env=(false,eval e X.env)::starEach [] X.env:=by rfl) (hp:(backTo cpos (starEach [] X.env)).any (·.1)=false:=by rfl) :
  PE X (.Call (.Attribute o name apos) [e] [] cpos) (tSM r to t):=by
 z5(acg PySem.F.plainAttrs_str slot hty hm ho.mono ha hb hf hl hs hp).imp fun σ H Q h=>?_
 z5⟨_,h,?_⟩
 rintro x H1 ⟨⟨y,rfl⟩,h2⟩
 qV⟨rfl,h2⟩
~!Ni {x:Str}{v:V}{pos:Pos} (hg:Gl X x) (hm:∃ u,X.mg x=some u/\RelV v u) (hd:(x == ("__debug__" : Str))=false:=by decide):PE X (.Name x pos) (tC v):=by
 x5⟨u,h1,h2⟩:=hm
 qV RJ hg h1 h2 hd
def WX:R2:=fun x y H Q=>∃ i n,x=.str i/\y=.int n/\i.length=1/\0 <= n/\n <= 1000/\∀ z:Str,z.length <= n.toNat+1->Q (.str z) H
~!aaR {a b:Expr}{ta tb:TE}{pos:Pos} (ha:PEB X a ta) (hb:PE X b tb) (hs:Ue b):PEB X (.Subscript a b pos) (tOp Ph ta tb):=⟨bZ bY ha.out hb hs⟩
~!z6 {st:Stmt}{t:TS} (h1:PSB X st t):abN X [st] t:=⟨bQ h1.out⟩
end
~!cD.calm {P:Program}{w:World}{K:Frag}{mg:Str->Option Value}{base:Heap}{k:Nat}{f:Addr}{fd:FuncData}{ps:List Str}{sp:Sp} (F:cD P w K mg base (CXO P w) k f fd ps sp) :
  cD P w K mg base CX0 k f fd ps (fun vs H Q _=>sp vs H Q fun _ _ _=>False):=by
 z5⟨fun vs H Q E h=>F.len _ _ _ _ h,fun A outer s H args us vs Q E hr e0 hb r h=>?_⟩
 z5 codeAny_mono (F.run A outer s H args us vs Q _ hr e0 hb r h) fun res s' hs=>?_
 cases res with
 | error e =>
  x5⟨_,_,_,_,_,_,_,z⟩:=hs
  qV z.elim
 | ok fl =>
  cases fl with
  | ret u=>qV hs
  | next=>qV hs
  | brk=>qV hs
  | cont=>qV hs
~!OkX.calm {P:Program}{w:World}{K:Frag}{mg:Str->Option Value}{base:Heap}{k:Nat}{x:Str}{ps:List Str}{sp:Sp} (F:OkX P w K mg base k x ps sp) :
  OkF P w K mg base k x ps (fun vs H Q _=>sp vs H Q fun _ _ _=>False):=by x5⟨f,fd,a,b⟩:=F; qV⟨f,fd,a.calm,b⟩
def hid (y:Str):Str:=Str.ofString "?" ++ y
def Iw (xs:List Str) (N:List Str):List Str:=N.map fun y=>if y∈xs then hid y else y
def Cx.compG (X:Cx) (N':List Str) (scope:Scope) (xs:List Str) (C:Addr) (s₀:Shared) (H₀:Hp) (ex:List Addr) (pn:List (Addr×Obj)):Cx :=
 { X with env:=compEnvC scope (Bl X.env.cells scope.names []) C X.env,N:=xs++N',s₀:=s₀,H₀:=H₀,outer:=X.stack,ex:=ex,fn:=fun _=>false,pn:=pn,xe:=fun _ _=>False }
def PTs (X:Cx) (ifs:List Expr) (tc:TT):Prop:=∀ (pins:List (Addr×Obj)) (s:Shared) (σ:L2.St) (H:Hp) (Q:Bool->Hp->Prop),Inv X pins σ H s->tc σ H Q ->
 wpAny (model X.prog X.w) X.A (forIn ifs true fun c r=>if r=true then do let ok <- isTrue c X.env (eval c X.env); pure (ForInStep.yield ok) else pure (ForInStep.yield r)) (fun b s'=>∃ H',Inv X pins σ H' s'/\Q b H') X.xe s
def N5:TT:=fun _ H Q=>Q true H
~!c7 {X:Cx} : PTs X [] N5:=fun _ _ _ H _ I q=>wpAny_tests_nil ⟨H,I,q⟩
~!aan {X:Cx}{c:Expr}{tc:TT} (h:PT X c tc):PTs X [c] tc:=fun pins s σ H Q I q=>wpAny_tests_one (h pins s σ H Q I q)
def mF (wi:TI) (n:Nat) (gt:TG) (tc:TT) (te:TE):TE:=fun σ H Q=>wi σ H fun J H1=>∀ D,H1 D=none->∃ W:Nat->Nat->List V->Hp->Prop,(∃ m,W 0 m [] (upd H1 D (.lst [])))/\∀ i m ys Hc,W i m ys Hc ->
 (J.stop i Hc/\Q (.ref D) Hc)\/(J.go i Hc/\∀ x H',J.yld i Hc x H'->∀ pre:L2.St,pre.length=n->gt x (pre++σ) H' fun σ2 H2=>∃ pre':L2.St,pre'.length=n/\σ2=pre'++σ/\tc σ2 H2 fun b H3 =>
  match b with
  | true=>te σ2 H3 fun y H4=>ys.length<sizeLine/\H4 D=some (.lst ys)/\∃ m',m'<m/\W (i+1) m' (ys++[y]) (upd H4 D (.lst (ys++[y])))
  | false=>∃ m',m'<m/\W (i+1) m' ys H3)
section
variable {X:Cx}{elt iter:Expr}{pos:Pos}{scope:Scope}{wi:TI}{te:TE}
~!DP {use:Option (Value->Sem Unit)}{post:Value->Shared->Prop}{Qv:VK}{pins:List (Addr×Obj)}{s:Shared}{σ:L2.St}{H:Hp}{pp:Pos}{xs N':List Str}{tg:Expr}{ifs:List Expr}{gt:TG}{tc:TT} (hc:X.calm=true) (hsh:Iw xs X.N=N') (hN:(xs++N').Nodup) (hkind:scope.kind=.function) (hcell:∀ y∈scope.names,y.2≠.cell) (hnames:∀ y∈scope.names,y.2=.local->scope.names.lookup y.1=some .local)
  (hfree:∀ y∈scope.names,y.2=.free->X.env.kindOf y.1=some .cell\/X.env.kindOf y.1=some .free) (hloc:∀ y∈X.N,y ∉ xs->(relabel scope X.env).names.lookup y≠some .local) (hq:∀ y∈X.N,y∈xs->(relabel scope X.env).names.lookup (hid y)=none) (hi:PI X tg iter wi)
  (hg:∀ C s₀ H₀ ex pn,PG (X.compG N' scope xs C s₀ H₀ ex pn) tg gt) (ht:∀ C s₀ H₀ ex pn,PTs (X.compG N' scope xs C s₀ H₀ ex pn) ifs tc) (he:∀ C s₀ H₀ ex pn,PE (X.compG N' scope xs C s₀ H₀ ex pn) elt te) (hs:∀ z,foldedSetIterable iter X.env z=pure z) (I:Inv X pins σ H s) (h:mF wi xs.length gt tc te σ H Qv)
  (endC:∀ (C D:Addr) (Hc:Hp) (s6:Shared) (m:Str->Option Value) (fl:Flow),s6.heap.Ns C m->Inv X pins σ Hc s6->BZ X pins Hc C->Qv (.ref D) Hc->compPost (model X.prog X.w) X.A X.xe use post (.ref D) C (.ok fl) s6) :
  wpAny (model X.prog X.w) X.A (comprehension (.ListComp elt [⟨tg,iter,ifs,0⟩] scope pos) scope X.env pp (newList []) false (eval iter X.env) use) post X.xe s:=by
 have hfr:∀ y∈scope.names,y.2=.free->∃ c,X.env.cells.lookup y.1=some c:=fun y hy e=>I.ok.has y.1 (hfree y hy e)
 z5 wpAny_comprehension_free (use:=use) (Q:=post) rfl hs (Qd hfr) hkind hnames (thn (hi pins s σ H _ I h) fun v s1 h1=>thn h1 fun itv s2 h2=>?_)
 x5⟨it,fp,tn,J,H2,e,I2,T,st2,f2,R⟩:=h2
 subst e
 have nD:H2 s2.heap.objs.size=none:=I2.hok.fresh (aG _)
 x5⟨W,⟨m0,w0⟩,turn⟩:=R s2.heap.objs.size nD
 z5 wpAny_newObj_type ?_ (by show 0 <= sizeLine; qV bC _)
 have I3:Inv X pins σ (upd H2 s2.heap.objs.size (.lst [])) { s2 with heap:=s2.heap.push { cls:=.type "list",dict:=none,data:=.seq ([] : List Value).toArray } }:=I2.lnew (t':=s2.toks) (ys:=[]) (its:=[]) .nil (bC _)
 have oldT:∀ b o,s2.heap.get? b=some o->(s2.heap.push { cls:=.type "list",dict:=none,data:=.seq ([] : List Value).toArray }).get? b=some o:=fun b o e=>aH _ e
 generalize hs3:({ s2 with heap:=s2.heap.push { cls:=.type "list",dict:=none,data:=.seq ([] : List Value).toArray } } : Shared)=s3 at I3 ⊢
 have st3:tn 0 s3.heap:=T.keep _ _ _ st2 fun b _ o e=>by rw [<- hs3]; qV oldT b o e
 generalize hH3:upd H2 s2.heap.objs.size (.lst [])=H3 at I3 w0
 have f3:∀ b∈fp,BZ X pins H3 b:=fun b hb=>by
  x5⟨a1,a2⟩:=f2 b hb
  z5⟨?_,a2⟩
  x5⟨o,e,_⟩:=T.obj _ _ st2 b hb
  rw [<- hH3,bM (aV (aK e))]
  qV a1
 z5 wpAny_newFunctionEnv hcell (by intro y hy; simp at hy) (fun g hns hsb=>?_) hkind
 have kg:∀ b o,s3.heap.get? b=some o->g.get? b=some o:=fun b o e=>(hsb.2 b (aV (aK e))).trans (aH _ e)
 have clm:∀ {y:Str}{c:Addr},(Bl X.env.cells scope.names []).lookup y=some c->X.env.cells.lookup y=some c:=fun {y c} e=>by
  rcases Nr hfr (PySem.mem_of_lookup e) with z | z
  .cases z
  .exact z
 have kinds:∀ {y:Str},((relabel scope X.env).names.lookup y=some .cell\/(relabel scope X.env).names.lookup y=some .free)->(X.env.kindOf y=some .cell\/X.env.kindOf y=some .free)/\∃ c,(Bl X.env.cells scope.names []).lookup y=some c:=fun {y} e=>by
  have z:=yX e hcell
  x5⟨c,hc'⟩:=Og (cells:=X.env.cells) (acc:=[]) (.inl z)
  qV⟨hfree _ z rfl,pP hc'⟩
 have lt3:∀ b∈fp,b<s3.heap.objs.size:=fun b hb=>by
  x5⟨o,e,_⟩:=T.obj _ _ st3 b hb
  qV aK e
 have nst:∀ b∈fp,b ∉ frs X.stack:=fun b hb=>I3.nostk' (f3 b hb).2.1 (f3 b hb).2.2.1
 generalize hX:X.compG N' scope xs s3.heap.objs.size s3 H3 fp (X.pn++pins)=Y
 have ok':Y.Ok:=by
  subst hX
  qV⟨I3.ok.mod,hkind,I3.ok.glob,I3.ok.blt,aG _,fun y z c h1 h2=>I3.ok.inj y z c (clm h1) (clm h2),fun y hy=>(kinds hy).2,fun _ _ z=>(nomatch z),I3.ok.hd,I3.ok.frames,.inl rfl,
   fun b hb=>⟨aV (lt3 b hb),fun y c e=>(f3 b hb).2.2.2.2.1 y c (clm e)⟩,I3.bs,aN I3.ok.bsz I3.sz,fun b o e hb=>by
    rcases (f3 b hb).2.2.2.1 with z | z
    .exact I3.ok.noex b o e z
    .exact absurd (aW (aW (aK e) I3.ok.bsz) z) (Nat.lt_irrefl _),nst,I3.stack,I3.stkFree⟩
 have J4:∀ tk,Inv Y [] (List.replicate xs.length none++σ) H3 { s3 with heap:=g,toks:=tk }:=fun tk=>by
  subst hX
  z5⟨ok',rfl,I3.bare,Un.kept kg,⟨_,hns,fun i y v e1 e2 e3=>?_⟩,fun y c e=>?_,I3.hok.fresh (aG _),fun y c e=>I3.freeC y c (clm e),fun p hp=>?_,I3.hok.kept kg,?_⟩
  .by_cases hin:i<xs.length
   .rw [aF (by rw [aP]; qV hin),List.getElem?_replicate,if_pos hin] at e2
    cases e2
   .obtain ⟨j,rfl⟩ : ∃ j,i=xs.length+j:=⟨i - xs.length,by om⟩
    have e0:N'[j]?=some y:=by
     have e1:(xs++N')[xs.length+j]?=some y:=e1
     rw [aD (by om)] at e1
     rw [show xs.length+j - xs.length=j by om] at e1
     qV e1
    have e2':σ[j]?=some (some v):=by
     rw [aD (by rw [aP]; om),aP] at e2
     rw [show xs.length+j - xs.length=j by om] at e2
     qV e2
    rw [<- hsh] at e0
    obtain ⟨y0,e1',ey⟩ : ∃ y0,X.N[j]?=some y0/\(if y0∈xs then hid y0 else y0)=y:=by
     unfold Iw at e0
     rw [au] at e0
     cases hz:X.N[j]? with
     | none=>rw [hz] at e0; cases e0
     | some y0=>rw [hz] at e0; qV⟨y0,rfl,Option.some.inj e0⟩
    have e3:(relabel scope X.env).names.lookup y=some .local\/(relabel scope X.env).names.lookup y=some .cell\/(relabel scope X.env).names.lookup y=some .free:=e3
    have ne:¬ y0∈xs:=fun z=>by
     rw [if_pos z] at ey
     subst ey
     rw [hq y0 (aC e1') z] at e3
     rcases e3 with z | z | z <;> cases z
    rw [if_neg ne] at ey
    subst ey
    have e3':(relabel scope X.env).names.lookup y0=some .cell\/(relabel scope X.env).names.lookup y0=some .free:=by
     rcases e3 with z | z
     .exact absurd z (hloc y0 (aC e1') ne)
     .exact z
    x5⟨kd,c,hcl⟩:=kinds e3'
    x5⟨m,_,hl⟩:=I3.loc
    x5⟨u,r,lk⟩:=hl j y0 v e1' e2' (.inr kd)
    z5⟨u,r,.inr ⟨e3',c,hcl,?_⟩⟩
    rcases lk with ⟨k1,_⟩ | ⟨_,c',q1,o,q2,q3⟩
    .exfalso
     have k1':X.env.kindOf y0=some .local:=k1
     rcases kd with k2 | k2 <;> rw [k1'] at k2 <;> cases k2
    .rw [clm hcl] at q1
     cases q1
     qV⟨o,kg _ _ q2,q3⟩
  .obtain ⟨v,o,q2,q3⟩:=I3.cell y c (clm e)
   qV⟨v,o,kg _ _ q2,q3⟩
  .have hp':p∈X.pn++pins:=by simpa [Cx.compG] using hp
   x5⟨a1,a2,a3,a4,a5⟩:=I3.pin p hp'
   qV⟨kg _ _ a1,a2,aV (aK a1),I3.nostk' a3 a4,a5⟩
  .show (List.replicate xs.length none++σ).length=(xs++N').length
   have hln:N'.length=X.N.length:=by rw [<- hsh]; unfold Iw; rw [ao]
   rw [aB,aP,aB,I3.len,hln]
 have fpY:∀ {Hc:Hp},(∀ b∈fp,Hc b=none)->∀ b∈fp,BZ Y [] Hc b:=fun {Hc} hn b hb=>by
  subst hX
  qV⟨hn b hb,aV (lt3 b hb),nst b hb,.inl hb,fun y c e=>(f3 b hb).2.2.2.2.1 y c (clm e),fun p hp=>(f3 b hb).2.2.2.2.2 p (by simpa [Cx.compG] using hp)⟩
 have loop:∀ s4:Shared,s4={ s3 with heap:=g,toks:=s3.toks+([] : List (Str×Value)).length } ->
   codeAny (model X.prog X.w) X.A (.compLoop (.ListComp elt [⟨tg,iter,ifs,0⟩] scope pos) 0 (.ref it) (.ref s2.heap.objs.size) Y.env) (compPost (model X.prog X.w) X.A X.xe use post (.ref s2.heap.objs.size) s3.heap.objs.size) s4:=by
  rintro s4 rfl
  have YP:Y.prog=X.prog/\Y.w=X.w/\Y.K=X.K/\Y.calm=X.calm/\Y.A=X.A/\Y.env.locals=s3.heap.objs.size:=by subst hX; qV⟨rfl,rfl,rfl,rfl,rfl,rfl⟩
  x5⟨y1,y2,y3,y4,y5,y6⟩:=YP
  have he':PE Y elt te:=by subst hX; qV he _ _ _ _ _
  have hg':PG Y tg gt:=by subst hX; qV hg _ _ _ _ _
  have ht':PTs Y ifs tc:=by subst hX; qV ht _ _ _ _ _
  have xeY:Y.xe=fun _ _=>False:=by subst hX; rfl
  have yb:∀ {Hc:Hp}{w':L2.St}{pn:List (Addr×Obj)}{s':Shared},Inv Y pn w' Hc s'->Un (frs X.stack) fp H3 Hc s3.heap s'.heap:=fun {Hc w' pn s'} Z=>by
   have:=Z.base
   subst hX
   qV this
  have yos:∀ {Hc:Hp}{w':L2.St}{pn:List (Addr×Obj)}{s':Shared},Inv Y pn w' Hc s'->s'.os=s3.os:=fun {Hc w' pn s'} Z=>by
   have:=Z.os
   subst hX
   qV this
  z5 codeAny_loop rfl (fun n s'=>∃ i ys Hc,∃ w':L2.St,w'.length=xs.length/\Inv Y [] (w'++σ) Hc s'/\tn i s'.heap/\(∀ b∈fp,Hc b=none)/\W i n ys Hc) (fun n s5 hI=>?_) m0 ⟨0,[],H3,List.replicate xs.length none,aP,J4 _,T.keep _ _ _ st3 fun b _ o e=>kg b o e,fun b hb=>(f3 b hb).1,w0⟩
  x5⟨i,ys,Hc,w',hw',Z,stc,frc,wc⟩:=hI
  show wpAny _ _ ((compTurn (.ListComp elt [⟨tg,iter,ifs,0⟩] scope pos) 0 (.ref it) (.ref s2.heap.objs.size) Y.env).onRaise (fun z=>do noteFrame z Y.env; theTreesLotGoes z)) _ _ s5
  z5 wpAny_noted (wpAny_noRaise ?_)
  rw [compTurn_list]
  show wpAny (model X.prog X.w) X.A _ _ _ _
  rcases turn i n ys Hc wc with ⟨stop,qn⟩ | ⟨go,step⟩
  .have hd:=T.done Y y1 y2 y3 (y4.trans hc) i [] s5 (w'++σ) Hc (fun _ _=>False) Z (fpY frc) stc stop
   rw [y5] at hd
   z5 wpAny_bind (wpAny_standAt (wpAny_bind (thn hd fun r s6 hP=>?_)))
   x5⟨hr,Z6⟩:=hP
   subst hr
   z5 wpAny_pure ?_
   x5⟨m,hn6,_⟩:=Z6.loc
   rw [y6] at hn6
   have u6:=yb Z6
   have hok:HOk X.prog X.w Hc s6.heap:=by
    have z:=Z6.hok
    rw [y1,y2] at z
    qV z
   have cn:Hc s3.heap.objs.size=none:=by
    have z:=Z6.free
    rw [y6] at z
    qV z
   have I6:Inv X pins σ Hc s6:=I3.call' (s':=s6) (ch:=fp) (yos Z6) u6 hok Z6.bare fun b hb=>⟨(f3 b hb).2.2.2.1,(f3 b hb).2.1,(f3 b hb).2.2.2.2.1,(f3 b hb).2.2.2.2.2⟩
   have fC:BZ X pins Hc s3.heap.objs.size:=I3.fpOk (aG _) cn
   qV endC _ _ Hc s6 m _ hn6 I6 fC qn
  .have hd:=T.item Y y1 y2 y3 (y4.trans hc) i [] s5 (w'++σ) Hc (fun _ _=>False) Z (fpY frc) stc go
   rw [y5] at hd
   z5 wpAny_bind (wpAny_standAt (wpAny_bind (thn hd fun r s6 hP=>?_)))
   x5⟨u,hr,h6⟩:=hP
   subst hr
   z5 wpAny_bind (thn h6 fun _ s7 hP=>?_)
   x5⟨xv,H7,Z7,r7,yl,st7,fr7⟩:=hP
   have Z7':=Z7.pinned (fpY fr7) (T.obj _ _ st7)
   have hst:=hg' _ s7 _ H7 xv u _ Z7' r7 (step xv H7 yl w' hw')
   rw [y1,y2,y5,xeY] at hst
   z5 wpAny_bind (thn hst fun _ s8 hP=>?_)
   x5⟨σ8,H8,Z8,pre,hpre,e8,q8⟩:=hP
   subst e8
   have hte:=ht' _ s8 _ H8 _ Z8 q8
   rw [y1,y2,y5,xeY] at hte
   have fin:∀ {m':Nat}{ys':List V}{H9:Hp}{s9:Shared},Inv Y ([]++Em fp s7.heap) (pre++σ) H9 s9->m'<n->W (i+1) m' ys' H9->∃ m,m<n/\∃ i ys Hc,∃ w':L2.St,w'.length=xs.length/\Inv Y [] (w'++σ) Hc s9/\tn i s9.heap/\(∀ b∈fp,Hc b=none)/\W i m ys Hc:=fun {m' ys' H9 s9} Z9 hm' w9 =>
    ⟨m',hm',i+1,ys',H9,pre,hpre,Z9.unpinned,T.keep _ _ _ st7 fun b hb o e=>(Z9.pin (b,o) (aU _ (aU _ (pR hb e)))).1,fun b hb=>by
     x5⟨o,e,_⟩:=T.obj _ _ st7 b hb
     qV(Z9.pin (b,o) (aU _ (aU _ (pR hb e)))).2.1,w9⟩
   z5 wpAny_bind (thn hte fun ok s9 hP=>?_)
   x5⟨H9,Z9,q9⟩:=hP
   cases ok with
   | false =>
    x5⟨m',hm',w9⟩:=q9
    qV wpAny_pure ⟨rfl,fin Z9 hm' w9⟩
   | true =>
    have hel:=he' _ s9 _ H9 _ Z9 q9
    rw [y1,y2,y5,xeY] at hel
    z5 wpAny_bind (wpAny_bind (thn hel fun ev s10 hP=>?_))
    x5⟨yv,H10,Z10,r10,hz,hD10,m',hm',w10⟩:=hP
    have hap:=HY (X:=Y) _ s10 _ H10 (.ref s2.heap.objs.size) [yv] (.ref s2.heap.objs.size) [ev] (fun _ Hf=>Hf=upd H10 s2.heap.objs.size (.lst (ys++[yv]))) Z10 rfl (.cons r10 .nil) ⟨_,ys,yv,rfl,rfl,hD10,hz,rfl⟩
    rw [y1,y2,y5,xeY] at hap
    z5 wpAny_bind (thn hap fun av s11 hP=>?_)
    x5⟨_,H11,Z11,_,e11⟩:=hP
    subst e11
    qV wpAny_pure (wpAny_pure ⟨rfl,fin Z11 hm' w10⟩)
 have henv:Y.env=compEnvC scope (Bl X.env.cells scope.names []) s3.heap.objs.size X.env:=by subst hX; rfl
 rw [henv] at loop
 qV codeAny_compStart_list (loop _ rfl) (T.self _ 0 _ _ _ (T.keep _ _ _ st3 fun b _ o e=>kg b o e) (loop _ rfl))
~!YB {xs N':List Str}{tg:Expr}{ifs:List Expr}{gt:TG}{tc:TT} (hc:X.calm=true) (hsh:Iw xs X.N=N') (hN:(xs++N').Nodup) (hkind:scope.kind=.function) (hcell:∀ y∈scope.names,y.2≠.cell) (hnames:∀ y∈scope.names,y.2=.local->scope.names.lookup y.1=some .local)
  (hfree:∀ y∈scope.names,y.2=.free->X.env.kindOf y.1=some .cell\/X.env.kindOf y.1=some .free) (hloc:∀ y∈X.N,y ∉ xs->(relabel scope X.env).names.lookup y≠some .local) (hq:∀ y∈X.N,y∈xs->(relabel scope X.env).names.lookup (hid y)=none) (hi:PI X tg iter wi)
  (hg:∀ C s₀ H₀ ex pn,PG (X.compG N' scope xs C s₀ H₀ ex pn) tg gt) (ht:∀ C s₀ H₀ ex pn,PTs (X.compG N' scope xs C s₀ H₀ ex pn) ifs tc) (he:∀ C s₀ H₀ ex pn,PE (X.compG N' scope xs C s₀ H₀ ex pn) elt te) (hs:∀ z,foldedSetIterable iter X.env z=pure z:=by intro _; rfl) :
  PE X (.ListComp elt [⟨tg,iter,ifs,0⟩] scope pos) (mF wi xs.length gt tc te):=by
 intro pins s σ H Q I h
 rw [eval_ListComp]
 qV DP hc hsh hN hkind hcell hnames hfree hloc hq hi hg ht he hs I h fun C D Hc s6 m fl hn I6 fC q=>⟨m,hn,fun h' hs'=>⟨.ref D,Hc,I6.turned (it:=C) (h':=h') (t':=s6.toks) (fun b o hb e=>(hs'.2 b hb).trans e) fC.1 fC.2.1 fC.2.2.2.1 fC.2.2.2.2.1 fC.2.2.2.2.2,rfl,q⟩⟩
end
section
variable {X:Cx}{k:Nat}{f C:Addr}{fd:FuncData}{ps:List Str}{sp:Sp}{dvs:List V}{ds:List Value}{x m:Str}{p pos apos:Pos}{e o:Expr}{es:List Expr}{ta:TE}{t:TA}{Ex:Value->Option Addr->L2.St->Hp->Prop}
def acC (C:Addr) (sp:Sp) (dvs:List V) (Ex:Value->Option Addr->L2.St->Hp->Prop) (t:TA):TE:=fun σ H Q=>t σ H fun vs H1=>∀ x dx,H1 x=none->H1 dx=none->dx≠x->sp (.ref x::(vs++dvs)) (upd (upd H1 dx (.own x)) x (.ins C dx [])) (fun v H2=>v=.non/\Q (.ref x) H2) fun C d H'=>Ex C d σ H'
~!R5 {pins:List (Addr×Obj)}{σ:St}{H:Hp}{s:Shared}{Q:VK}{us:List Value}{vs:List V} (F:cD X.prog X.w X.K X.mg X.base (CXO X.prog X.w) k f fd ps sp) (hr:fU k X.A) (hb:Binds X.K fd ps ds) (hd:Vals dvs ds) (hx:Fe X Ex)
  (I:Inv X pins σ H s) (r:Vals vs us) (h:sp (vs++dvs) H Q fun C d H'=>Ex C d σ H'):wpAny (model X.prog X.w) X.A (call (.ref f) us) (EP X pins σ Q) X.xe s:=by
 have r2:Vals (vs++dvs) (us++ds):=r.append hd
 have hl:(us++ds).length=ps.length:=by rw [<- r2.length]; qV F.len _ _ _ _ h
 z5 wpAny_call (codeAny_mono (F.run X.A X.stack s H ⟨us,[]⟩ (us++ds) (vs++dvs) Q _ hr I.env0 (hb s us I.kIn hl) r2 h) fun r s' hq=>?_)
 cases r with
 | error e =>
  x5⟨a,C,d,H',B,rfl,Fl,q'⟩:=hq
  qV hx pins σ H s a C H' s' B d I Fl q'
 | ok fl =>
  cases fl with
  | ret u=>qV I.after hq
  | next=>qV False.elim hq
  | brk=>qV False.elim hq
  | cont=>qV False.elim hq
~!Vi {pins:List (Addr×Obj)}{σ:St}{H:Hp}{s:Shared}{Q:VK}{us:List Value}{vs:List V} (M:Mk X.K C f) (F:cD X.prog X.w X.K X.mg X.base (CXO X.prog X.w) k f fd ps sp) (hr:fU (k+1) X.A) (hb:Binds X.K fd ps ds) (hd:Vals dvs ds)
  (hx:Fe X Ex) (I:Inv X pins σ H s) (r:Vals vs us)
  (h:∀ x dx,H x=none->H dx=none->dx≠x->sp (.ref x::(vs++dvs)) (upd (upd H dx (.own x)) x (.ins C dx [])) (fun v H2=>v=.non/\Q (.ref x) H2) fun C d H'=>Ex C d σ H') :
  wpAny (model X.prog X.w) X.A (call (.ref C) us) (EP X pins σ Q) X.xe s:=by
 have hq:=h (s.heap.objs.size+1) s.heap.objs.size (I.hok.fresh (Nat.le_succ _)) (I.hok.fresh (aG _)) (aV (Nat.lt_succ_self _))
 have I2:=Inv.made (C:=C) I
 have r2:Vals (V.ref (s.heap.objs.size+1)::(vs++dvs)) (Value.ref (s.heap.objs.size+1)::(us++ds)):=.cons rfl (r.append hd)
 have hl:(Value.ref (s.heap.objs.size+1)::us++ds).length=ps.length:=by
  have e:=r2.length
  rw [F.len _ _ _ _ hq] at e
  qV e.symm
 z5 wpAny_call (Yx (f:=f) I.kIn M.makes M.init (beq_iff_eq.mp M.fn) (codeAny_mono (F.run _ X.stack _ _ ⟨Value.ref (s.heap.objs.size+1)::us,[]⟩ (Value.ref (s.heap.objs.size+1)::(us++ds)) _ _ _ (hr.make C us [])
  (I2.env0.make C us []) (hb _ (Value.ref (s.heap.objs.size+1)::us) I2.kIn hl) r2 hq) fun r s' hq'=>?_))
 cases r with
 | error e =>
  x5⟨a,C,d,H',B,rfl,Fl,q'⟩:=hq'
  qV hx pins σ _ _ a C H' s' B d I2 Fl q'
 | ok fl =>
  cases fl with
  | ret u =>
   x5⟨v,H',I3,rv,ev,q3⟩:=I2.after hq'
   subst ev
   qV⟨rv,⟨V.ref (s.heap.objs.size+1),H',I3,rfl,q3⟩⟩
  | next=>qV False.elim hq'
  | brk=>qV False.elim hq'
  | cont=>qV False.elim hq'
~!Zh (M:Mk X.K C f) (F:cD X.prog X.w X.K X.mg X.base (CXO X.prog X.w) k f fd ps sp) (hr:fU (k+1) X.A) (hg:Gl X x) (hm:X.mg x=some (.ref C)) (hb:Binds X.K fd ps ds) (hd:Vals dvs ds) (hx:Fe X Ex)
  (ha:PA X (e::es) t) (hdb:(x == ("__debug__" : Str))=false:=by decide) (he:starEach (e::es) X.env=(false,eval e X.env)::starEach es X.env:=by rfl) (hpl:(backTo pos (starEach es X.env)).any (·.1)=false:=by rfl) :
  PE X (.Call (.Name x p) (e::es) [] pos) (acC C sp dvs Ex t):=by
 intro pins s σ H Q I h
 z5 wpAny_Call_Name_kw (lY I hg hm ?_ hdb)
 z5 PySem.W.callWith_K (h₀:=X.base) I.ok.mod.kin M.kp (thn (ha pos pins s σ H _ I h) fun us s1 ⟨vs,H1,I1,r,q⟩=>⟨I1.kIn,?_⟩) he hpl
 qV Vi M F hr hb hd hx I1 r q
end
structure mX (K:Frag) (B:Addr) (m:Str) (f:Addr):Prop where
 ga:PySem.W.specialIn K (.ref B) "__getattribute__" = some (some (.builtin "type.__getattribute__"))
 rd:PySem.W.readsIn K B (.type "type")=true
 at_:PySem.W.findCls K (.ref B) (.type "type") m=some (.val (.ref f))
 hd:PySem.W.handedIn (.ref f)=true
 kp:PySem.W.keepIn K (.ref f)=true
section
variable {X:Cx}{k:Nat}{f B:Addr}{fd:FuncData}{ps:List Str}{sp:Sp}{dvs:List V}{ds:List Value}{x m:Str}{p pos apos:Pos}{e:Expr}{es:List Expr}{t:TA}{Ex:Value->Option Addr->L2.St->Hp->Prop}
~!mX.get {pins:List (Addr×Obj)}{σ:L2.St}{H:Hp}{s:Shared}{pl:Sem Bool}{A:Around}{E:Value->Shared->Prop}{Q:Value×List Value->Shared->Prop} (c:mX X.K B m f) (I:Inv X pins σ H s) (h:∀ t,Q (.ref f,[]) { s with toks:=t }) :
  wpAny (model X.prog X.w) A (getMethod (.ref B) m pl) Q E s :=
 PySem.W.method_cls I.kIn c.ga (PySem.W.cls_value I.kIn c.rd c.at_ c.hd (h _))
~!Y4 {pl:Sem Bool} (c:mX X.K B m f) (F:cD X.prog X.w X.K X.mg X.base (CXO X.prog X.w) k f fd ps sp) (hr:fU k X.A) (hg:Gl X x) (hm:X.mg x=some (.ref B)) (hb:Binds X.K fd ps []) (hx:Fe X Ex) (ha:PA X (e::es) t) (hdb:(x == ("__debug__" : Str))=false:=by decide)
  (hst:starEach (e::es) X.env=(false,eval e X.env)::starEach es X.env:=by rfl) (hpl:(backTo pos (starEach es X.env)).any (·.1)=false:=by rfl)
  (ht:eval (.Call (.Attribute (.Name x p) m apos) (e::es) [] pos) X.env=(do
   let ov <- eval (.Name x p) X.env
   standAt apos.atName
   let (f,first) <- holding [ov] (getMethod ov m pl)
   callWith pos f first (backTo pos (starEach (e::es) X.env)) (backToKw pos (keywordEach [] X.env))):=by rfl) :
  PE X (.Call (.Attribute (.Name x p) m apos) (e::es) [] pos) (Am sp Ex t):=by
 intro pins s σ H Q I h
 z5 PySem.W.methodCall_KW (pl:=pl) (lY I hg hm (c.get I fun tk=>?_) hdb) ht
 z5 PySem.W.callWith_K (first:=[]) (h₀:=X.base) I.ok.mod.kin c.kp (thn (ha pos pins _ σ H _ (I.tok tk) h) fun us s2 ⟨vs,H2,I2,r,q2⟩=>⟨I2.kIn,?_⟩) hst hpl
 qV R5 (us:=us) (vs:=vs) F hr hb .nil hx I2 r (by rw [List.append_nil]; qV q2)
end
section
variable {κ:Type} [DecidableEq κ]
def pW (kvs:List (κ×V)) (k:κ):Option V:=(kvs.find? fun kv=>decide (kv.1=k)).map (·.2)
def putK (kvs:List (κ×V)) (k:κ) (v:V):List (κ×V) :=
 if (kvs.any fun kv=>decide (kv.1=k))=true then kvs.map (fun kv=>if kv.1=k then (kv.1,v) else kv) else kvs++[(k,v)]
~!FT {p:κ×V}{r:List (κ×V)}{k:κ} (e:p.1=k):pW (p::r) k=some p.2:=by simp [pW,List.find?_cons,e]
~!Dz {p:κ×V}{r:List (κ×V)}{k:κ} (e:¬ p.1=k):pW (p::r) k=pW r k:=by simp [pW,List.find?_cons,e]
~!Oz (kvs:List (κ×V)) (k:κ) (v:V):(putK kvs k v).length <= kvs.length+1:=by
 unfold putK
 split
 .rw [ao]; om
 .rw [aB,List.length_cons,List.length_nil]; om
~!uh.isSome_eq {o:Option V}{u:Option Value} (r:uh o u):o.isSome=u.isSome:=by
 cases o with
 | none=>cases u with
  | none=>rfl
  | some _=>qV(show False from r).elim
 | some _=>cases u with
  | none=>qV(show False from r).elim
  | some _=>rfl
~!uh.getD {o:Option V}{u:Option Value}{d:V}{d':Value} (r:uh o u) (rd:RelV d d'):RelV (o.getD d) (u.getD d'):=by
 cases o with
 | none=>cases u with
  | none=>qV rd
  | some _=>qV(show False from r).elim
 | some _=>cases u with
  | none=>qV(show False from r).elim
  | some _=>qV r
~!KV.val {kvs:List (κ×V)}{vs:List (κ×Value)} (r:KV kvs vs) (k:κ):uh (pW kvs k) (valueAt vs k):=by
 unfold KV at r
 induction r with
 | nil=>qV True.intro
 | @cons p q ps qs h t ih =>
  x5⟨h1,h2⟩:=h
  by_cases e:p.1=k
  .have e':q.1=k:=h1.symm.trans e
   have b:valueAt (q::qs) k=some q.2:=by simp [valueAt,List.find?_cons,e']
   rw [FT e,b]; qV h2
  .have e':¬ q.1=k:=fun z=>e (h1.trans z)
   have b:valueAt (q::qs) k=valueAt qs k:=by simp [valueAt,List.find?_cons,e']
   rw [Dz e,b]; qV ih
~!KV.any {kvs:List (κ×V)}{vs:List (κ×Value)} (r:KV kvs vs) (k:κ):(kvs.any fun kv=>decide (kv.1=k))=vs.any fun kv=>decide (kv.1=k):=by
 unfold KV at r
 induction r with
 | nil=>rfl
 | cons h t ih=>rw [List.any_cons,List.any_cons,ih,h.1]
~!KV.repl {kvs:List (κ×V)}{vs:List (κ×Value)} (r:KV kvs vs) (k:κ) {y:V}{u:Value} (ry:RelV y u) :
  KV (kvs.map fun kv=>if kv.1=k then (kv.1,y) else kv) (vs.map fun kv=>if kv.1=k then (kv.1,u) else kv):=by
 unfold KV at r ⊢
 induction r with
 | nil=>qV .nil
 | @cons p q ps qs h t ih =>
  rw [List.map_cons,List.map_cons]
  z5 .cons ?_ ih
  x5⟨h1,h2⟩:=h
  by_cases e:p.1=k
  .rw [if_pos e,if_pos (h1.symm.trans e)]; qV⟨h1,ry⟩
  .rw [if_neg e,if_neg (fun z=>e (h1.trans z))]; qV⟨h1,h2⟩
~!KV.put {kvs:List (κ×V)}{vs:List (κ×Value)} (r:KV kvs vs) (k:κ) {y:V}{u:Value} (ry:RelV y u):KV (putK kvs k y) (stored vs k u):=by
 unfold putK stored
 rw [r.any k]
 by_cases e:(vs.any fun kv=>decide (kv.1=k))=true
 .rw [if_pos e,if_pos e]; qV r.repl k ry
 .rw [if_neg e,if_neg e]; qV Paired.snoc r ⟨rfl,ry⟩
~!KV.length {kvs:List (κ×V)}{vs:List (κ×Value)} (r:KV kvs vs):kvs.length=vs.length:=Paired.length r
end
~!NT {P:Program}{w:World}{k:Key}{u:Value} (r:RelV (kV k) u):(kj P w).is k u=true:=by
 cases k with
 | inl i=>x5⟨t,e⟩:=(show ∃ t,u=Value.int i t from r); subst e; qV Ow P w i t
 | inr x=>x5⟨t,e⟩:=(show ∃ t,u=Value.str x t from r); subst e; qV Oe P w x t
section
variable {P:Program}{w:World}{H:Hp}{h:Heap}{a:Addr}
~!ad6 {u:HO} (ok:HOk P w H h) (e:Rd H a u):dU P w H h a u:=e.ok ok
~!Ed {kvs:List (Key×V)} (ok:HOk P w H h) (e:Rd H a (.dK kvs)):kvs.length <= sizeLine/\(a == sysModules)=false/\∃ vs,KV kvs vs/\h.DictOf (kj P w) a vs :=
 show dU P w H h a (.dK kvs) from ad6 ok e
~!agU {kvs:List (Key×V)} (ok:HOk P w H h) (e:H a=some (.dK kvs)):kvs.length <= sizeLine/\(a == sysModules)=false/\∃ vs,KV kvs vs/\h.DictOf (kj P w) a vs:=Ed ok (.inl e)
end
def uK (H:Hp) (a:Addr) (y:V) (r:Option V):Prop :=
 (∃ kvs k,Rd H a (.dK kvs)/\y=kV k/\r=pW kvs k)\/False
def Rq (H:Hp) (a:Addr) (y v:V) (H':Hp):Prop :=
 (∃ kvs k,H a=some (.dK kvs)/\y=kV k/\kvs.length<sizeLine/\H'=upd H a (.dK (putK kvs k v)))\/False
~!uK.k {H:Hp}{a:Addr}{kvs:List (Key×V)}{k:Key} (e:H a=some (.dK kvs)):uK H a (kV k) (pW kvs k):=.inl ⟨kvs,k,.inl e,rfl,rfl⟩
~!Rq.k {H:Hp}{a:Addr}{kvs:List (Key×V)}{k:Key}{v:V} (e:H a=some (.dK kvs)) (hl:kvs.length<sizeLine):Rq H a (kV k) v (upd H a (.dK (putK kvs k v))):=.inl ⟨kvs,k,e,rfl,hl,rfl⟩
section
variable {X:Cx}{pins:List (Addr×Obj)}{σ:St}{H:Hp}{s:Shared}{a:Addr}{y v:V}{u r:Value}{o:Option V}{A:Around}{E:Value->Shared->Prop}
~!Inv.big (I:Inv X pins σ H s):sysModules<s.heap.objs.size:=by
 have h:mainGlobals<s.heap.objs.size:=(I.mod.glob.keeps I.bk).lt
 qV Nat.lt_trans (by decide) h
~!VJ {Q:Value->Shared->Prop} (hu:A.units+1<cLine) (I:Inv X pins σ H s) (g:uK H a y (some v)) (ry:RelV y u) (h:∀ w' s',Inv X pins σ H s'->RelV v w'->Q w' s') :
  wpAny (model X.prog X.w) A (getItem (.ref a) u) Q E s:=by
 rcases g with ⟨kvs,k,e,ey,l⟩ | hF
 .subst ey
  x5⟨z,hd,vs,rel,dd⟩:=Ed I.hok e
  x5⟨w',hw,rw'⟩:=uh.some_of (v:=v) (o:=valueAt vs k) (by rw [l]; qV rel.val k)
  qV wpAny_getItem_of (NT ry) dd.mapOf hw (h w' _ (I.tok _) rw')
 .exact hF.elim
~!ahG {Q:Value->Shared->Prop} (hu:A.units+1<cLine) (I:Inv X pins σ H s) (g:uK H a y o) (ry:RelV y u) (h:∀ s',Inv X pins σ H s'->Q (.bool o.isSome) s') :
  wpAny (model X.prog X.w) A (compareOp .In u (.ref a)) Q E s:=by
 rcases g with ⟨kvs,k,e,ey,l⟩ | hF
 .subst ey
  x5⟨z,hd,vs,rel,dd⟩:=Ed I.hok e
  z5 wpAny_in_of (NT ry) hd dd.mapOf ?_
  rw [<- (rel.val k).isSome_eq,<- l]
  qV h _ (I.tok _)
 .exact hF.elim
~!aav {Q:Value->Shared->Prop} (hu:A.units+1<cLine) (I:Inv X pins σ H s) (g:uK H a y o) (ry:RelV y u) (h:∀ s',Inv X pins σ H s'->Q (.bool (!o.isSome)) s') :
  wpAny (model X.prog X.w) A (compareOp .NotIn u (.ref a)) Q E s:=by
 rcases g with ⟨kvs,k,e,ey,l⟩ | hF
 .subst ey
  x5⟨z,hd,vs,rel,dd⟩:=Ed I.hok e
  z5 wpAny_notIn_of (NT ry) hd dd.mapOf ?_
  rw [<- (rel.val k).isSome_eq,<- l]
  qV h _ (I.tok _)
 .exact hF.elim
~!aaL {h':Heap}{t':Nat}{ob:HO} (I:Inv X pins σ H s) (mu:Mut (H a)) (hs:Heap.SameBut a s.heap h') (he:∃ q,h'.get? a=some q) (new:dU X.prog X.w (upd H a ob) h' a ob) :
  Inv X pins σ (upd H a ob) { s with heap:=h',toks:=t' } :=
 I.write (x:=a) (e:=a) mu (.inl rfl) (fun b q hb z=>(hs.2 b hb).trans z) he new
~!adW {P:Program}{w:World}{H':Hp}{h':Heap}{kvs:List (Key×V)}{vs:List (Key×Value)} (z:kvs.length <= sizeLine) (hd:(a == sysModules)=false) (rel:KV kvs vs) (dd:h'.DictOf (kj P w) a vs) :
  dU P w H' h' a (.dK kvs):=⟨z,hd,vs,rel,dd⟩
~!Vy {H':Hp}{Q:Unit->Shared->Prop} (hu:A.units+1<cLine) (I:Inv X pins σ H s) (g:Rq H a y v H') (ry:RelV y u) (rv:RelV v r) (h:∀ s',Inv X pins σ H' s'->Q () s') :
  wpAny (model X.prog X.w) A (setItem (.ref a) u r) Q E s:=by
 rcases g with ⟨kvs,k,e,ey,l,eH⟩ | hF
 .subst ey eH
  x5⟨z,hd,vs,rel,dd⟩:=agU I.hok e
  have hz:vs.length <= sizeLine:=by rw [<- rel.length]; qV z
  have hl:(putK kvs k v).length <= sizeLine:=by have:=Oz kvs k v; om
  z5 wpAny_setItem_pairs (hsz:=hz) (NT ry) dd fun h' dd' hs=>h _ ?_
  have he:∃ q,h'.get? a=some q:=by x5⟨q,_,_,hq,_⟩:=dd'; qV⟨q,hq⟩
  qV aaL I (by rw [e]; qV True.intro) hs he (adW hl hd (rel.put k rv) dd')
 .exact hF.elim
end
def agj (i:Expr):Prop:=∀ ov iv,subscripted i false ov iv=operate [ov,iv] (getItem ov iv)
~!aa5 {prog:Program}{w:World}{A:Around}{E:Value->Shared->Prop}{s:Shared}{env:Env}{value slice:Expr}{pos:Pos}{T id:String}{Q:Value->Shared->Prop}
  (hl:typeLookup (.type T) "__getitem__" = pure (some (.builtin id))) (hs:agj slice)
  (h:wpAny (model prog w) A (eval value env) (fun o s₁=>wpAny (model prog w) A (eval slice env) (fun i s₂=>s₂.TypeIs o T/\wpAny (model prog w) A (getItem o i) Q E s₂) E s₁) E s) :
  wpAny (model prog w) A (eval (.Subscript value slice pos) env) Q E s:=by
 z5 Subscript_ (wpAny_mono h (fun o s₁ h₁=>wpAny_mono h₁ (fun i s₂ h₂=>?_) fun _ _ x=>x) fun _ _ x=>x)
 x5⟨hT,h₂⟩:=h₂
 unfold subscriptTail
 z5 wpAny_bind ?_
 rw [getitemInPython_of_ne hT.not_modules]
 z5 wpAny_bind (wpAny_specialOf hT hl ?_)
 have fin:wpAny (model prog w) A (subscripted slice false o i) (fun r s₃=>wpAny (model prog w) A (letTemporaryGo value o r >>= fun _=>pure r) Q E s₃) E s₂:=by
  rw [hs o i]
  qV wpAny_operating (wpAny_mono h₂ (fun r s₃ h₃=>wpAny_bind (wpAny_letTemporaryGo (wpAny_pure h₃))) fun _ _ x=>x)
 first
  | qV wpAny_pure (wpAny_bind fin)
  | qV wpAny_bind (wpAny_pure (wpAny_bind fin))
  | qV wpAny_bind fin
~!Ol {X:Cx}{pins:List (Addr×Obj)}{σ:St}{H:Hp}{s:Shared}{a:Addr}{y:V}{o:Option V} (I:Inv X pins σ H s) (g:uK H a y o):s.TypeIs (.ref a) "dict" := by
 rcases g with ⟨kvs,k,e,_,_⟩ | hF
 .obtain ⟨_,_,vs,_,dd⟩:=Ed I.hok e
  qV dd.typeIs
 .exact hF.elim
def Ry (td ty:TE):TE:=fun σ H Q=>td σ H fun x H1=>ty σ H1 fun y H2=>∃ a v,x=.ref a/\uK H2 a y (some v)/\Q v H2
def ab6 (ty td:TE):TE:=fun σ H Q=>ty σ H fun y H1=>td σ H1 fun x H2=>∃ a o,x=.ref a/\uK H2 a y o/\Q (.bl o.isSome) H2
def CJ (ty td:TE):TE:=fun σ H Q=>ty σ H fun y H1=>td σ H1 fun x H2=>∃ a o,x=.ref a/\uK H2 a y o/\Q (.bl (!o.isSome)) H2
def Tc (td ty tv:TE):TS:=fun D σ H=>tv σ H fun v H1=>td σ H1 fun x H2=>ty σ H2 fun y H3=>∃ a H4,x=.ref a/\Rq H3 a y v H4/\D.nx σ H4
section
variable {X:Cx}{o i e value:Expr}{pos pos' tpos:Pos}{td ty tv:TE}
~!Jw (hu:X.A.units+1<cLine) (ho:PE X o td) (hi:PE X i ty) (hs:agj i):PE X (.Subscript o i pos) (Ry td ty):=by
 intro pins s σ H Q I h
 z5 aa5 PySem.F.slot_dict_getitem.lookup hs (thn (ho pins s σ H _ I h) fun u s1 ⟨x,H1,I1,rx,q1⟩=>thn (hi pins s1 σ H1 _ I1 q1) fun iv s2 hP=>?_)
 x5⟨y,H2,I2,ry,a,v,ex,g,q2⟩:=hP
 subst ex
 obtain rfl:u=Value.ref a:=rx
 qV⟨Ol I2 g,VJ hu I2 g ry fun w' s3 I3 rw'=>⟨v,H2,I3,rw',q2⟩⟩
~!Yu (hu:X.A.units+1<cLine) (hi:PE X i ty) (ho:PE X o td):PC X .In i o (ab6 ty td):=by
 intro pins s σ H Q I h
 z5 thn (hi pins s σ H _ I h) fun iv s1 ⟨y,H1,I1,ry,q1⟩=>thn (ho pins s1 σ H1 _ I1 q1) fun u s2 hP=>?_
 x5⟨x,H2,I2,rx,a,ov,ex,g,q2⟩:=hP
 subst ex
 obtain rfl:u=Value.ref a:=rx
 qV ahG hu I2 g ry fun s3 I3=>⟨.bl ov.isSome,H2,I3,rfl,q2⟩
~!Vt (hu:X.A.units+1<cLine) (hi:PE X i ty) (ho:PE X o td):PC X .NotIn i o (CJ ty td):=by
 intro pins s σ H Q I h
 z5 thn (hi pins s σ H _ I h) fun iv s1 ⟨y,H1,I1,ry,q1⟩=>thn (ho pins s1 σ H1 _ I1 q1) fun u s2 hP=>?_
 x5⟨x,H2,I2,rx,a,ov,ex,g,q2⟩:=hP
 subst ex
 obtain rfl:u=Value.ref a:=rx
 qV aav hu I2 g ry fun s3 I3=>⟨.bl (!ov.isSome),H2,I3,rfl,q2⟩
~!Kq (hu:X.A.units+1<cLine) (ho:PE X o td) (hi:PE X i ty) (hv:PE X value tv) (hs:swapsWith value (some (.Subscript o i pos')) pos.line X.env=pure false) :
  PS X (.Assign [.Subscript o i pos'] value pos) (Tc td ty tv):=by
 intro pins s σ H D I h
 z5 wpAny_Assign_Subscript (thn (hv pins s σ H _ I h) fun r s1 ⟨v,H1,I1,rv,q1⟩=>thn (ho pins s1 σ H1 _ I1 q1) fun u s2 ⟨x,H2,I2,rx,q2⟩=>thn (hi pins s2 σ H2 _ I2 q2) fun iv s3 hP=>?_) hs
 x5⟨y,H3,I3,ry,a,H4,ex,g,q3⟩:=hP
 subst ex
 obtain rfl:u=Value.ref a:=rx
 qV Vy hu I3 g ry rv fun s4 I4=>⟨σ,H4,I4,q3⟩
end
~!W5 {P:Program}{w:World}{H:Hp} (h:Heap) (hb:sysModules<h.objs.size):dU P w H (h.push { cls:=.type "dict",data:=.dict #[] }) h.objs.size (.dK []) :=
 ⟨bC _,beq_eq_false_iff_ne.mpr (Ne.symm (aV hb)),[],.nil,Heap.DictOf.new h⟩
def Jd:TE:=fun _ H Q=>∀ p,H p=none->Q (.ref p) (upd H p (.dK []))
section
variable {X:Cx}{pos:Pos}
~!Ec:PE X (.Dict [] [] pos) Jd:=fun pins s σ H Q I h =>
 wpAny_Dict_empty ⟨.ref s.heap.objs.size,_,I.laid (a:=s.heap.objs.size) (o:=.dK []) (t':=s.toks) (fun _ _ q=>aH _ q) (aG _) (W5 s.heap I.big),rfl,h _ (I.hok.fresh (aG _))⟩
end
structure M2 (X:Cx) (o:Expr) (m:Str) (apos:Pos) (e f:Expr) (cpos:Pos):Prop where
 base:attributeBase o m X.env (eval o X.env)=eval o X.env
 few:((backTo cpos (starEach [e,f] X.env)).all (fun x=>!x.1) && (backToKw cpos (keywordEach [] X.env)).all (fun x=>x.1.isSome)
  && decide (([e,f] : List Expr).length+([] : List Keyword).length+(if ([] : List Keyword).isEmpty then 0 else 1)<30))=true
 line:(apos.endLine == cpos.line)=true
 trees:backTo cpos (starEach [e,f] X.env)=[(false,eval e X.env),(false,eval f X.env)]
def IsD (H:Hp) (a:Addr):Prop:=(∃ kvs,Rd H a (.dK kvs))\/False
~!acR {X:Cx}{pins:List (Addr×Obj)}{σ:St}{H:Hp}{s:Shared}{a:Addr} (I:Inv X pins σ H s) (d:IsD H a) :
  s.TypeIs (.ref a) "dict" /\ (∀ b,Value.ref a=.ref b->∃ ob,s.heap.get? b=some ob/\ob.dict=none)/\(a == sysModules)=false:=by
 rcases d with ⟨kvs,e⟩ | hF
 .obtain ⟨_,hd,vs,_,dd⟩:=Ed I.hok e
  z5⟨dd.typeIs,fun b q=>?_,hd⟩
  cases q
  x5⟨ob,_,_,h1,h2,_⟩:=dd
  qV⟨ob,h1,h2.2.1⟩
 .exact hF.elim
section
variable {X:Cx}{pins:List (Addr×Obj)}{σ:St}{H:Hp}{s:Shared}{a:Addr}{y d:V}{u r:Value}{o:Option V}{A:Around}{E:Value->Shared->Prop}
~!ad0 {Q:Value->Shared->Prop} (hu:A.units+1<cLine) (I:Inv X pins σ H s) (g:uK H a y o) (ry:RelV y u) (rd:RelV d r) (h:∀ w' s',Inv X pins σ H s'->RelV (o.getD d) w'->Q w' s') :
  wpAny (model X.prog X.w) A (call (.builtin "dict.get") [.ref a,u,r]) Q E s:=by
 rcases g with ⟨kvs,k,e,ey,l⟩ | hF
 .subst ey
  x5⟨z,hd,vs,rel,dd⟩:=Ed I.hok e
  z5 call_meetsIn PySem.F.slot_dict_get dd.typeIs PySem.F.entry_dict_get (PySem.F.args_dict_get_3 _ _ _) (meets_dict_get_default (kj X.prog X.w) a (NT ry) hd r) ⟨_,dd.mapOf,h _ _ (I.tok _) ?_⟩
  rw [l]
  qV(rel.val k).getD rd
 .exact hF.elim
end
def KR (td ty tx:TE):TE:=fun σ H Q=>td σ H fun x H1=>∃ a,x=.ref a/\IsD H1 a/\ty σ H1 fun y H2=>tx σ H2 fun z H3=>∃ o,uK H3 a y o/\Q (o.getD z) H3
section
variable {X:Cx}{o e f:Expr}{apos cpos:Pos}{td ty tx:TE}
~!XD (hu:X.A.units+1<cLine) (ho:PE X o td) (he:PE X e ty) (hf:PE X f tx) (m:M2 X o "get" apos e f cpos):PE X (.Call (.Attribute o "get" apos) [e,f] [] cpos) (KR td ty tx):=by
 intro pins s σ H Q I h
 z5 wpAny_Call_method m.base m.few m.line PySem.F.plainAttrs_dict PySem.F.slot_dict_get PySem.F.type_dict_get (thn (ho pins s σ H _ I h) fun u s1 hP=>?_)
 x5⟨x,H1,I1,rx,a,ex,d,q1⟩:=hP
 subst ex
 obtain rfl:u=Value.ref a:=rx
 x5⟨t1,t2,_⟩:=acR I1 d
 z5⟨t1,t2,?_⟩
 rw [m.trees]
 z5 Calls.callWith_builtin rfl (Calls.evalArgs_plain (Calls.spliced_cons (thn (he pins s1 σ H1 _ I1 q1) fun iv s2 ⟨y,H2,I2,ry,q2⟩ =>
  Calls.spliced_cons (thn (hf pins s2 σ H2 _ I2 q2) fun fv s3 ⟨z,H3,I3,rz,ov,g,q3⟩=>Calls.spliced_nil ?_))))
 qV ad0 hu I3 g ry rz fun w' s4 I4 rw'=>⟨_,H3,I4,rw',q3⟩
end
def Itk (a:Addr) (o:Obj) (kvs:List (Key×V)):It:=⟨fun i H=>H a=some (.frz o (.dK kvs))/\i<kvs.length,fun i H v H'=>H'=H/\∃ k y,kvs[i]?=some (k,y)/\v=kV k,fun i H=>H a=some (.frz o (.dK kvs))/\i=kvs.length⟩
~!afE {P:Program}{w:World}{k:Key}{u:Value} (h:(kj P w).is k u=true):RelV (kV k) u:=by
 have h:yH k u=true:=h
 cases k with
 | inl i =>
  cases u <;> simp [yH,Value.isInt] at h
  .subst h; qV⟨_,rfl⟩
 | inr x =>
  cases u <;> simp [yH,Value.isStrOf] at h
  .subst h; qV⟨_,rfl⟩
~!KV.at {κ:Type}{kvs:List (κ×V)}{vs:List (κ×Value)} (r:KV kvs vs):∀ {i:Nat}{k:κ}{y:V},kvs[i]?=some (k,y)->∃ u,vs[i]?=some (k,u)/\RelV y u:=by
 unfold KV at r
 induction r with
 | nil=>intro i k y h; cases h
 | @cons p q ps qs h t ih =>
  intro i k y e
  cases i with
  | zero =>
   rw [List.getElem?_cons_zero] at e
   cases e
   x5⟨q1,q2⟩:=q
   x5⟨h1,h2⟩:=h
   cases h1
   qV⟨q2,rfl,h2⟩
  | succ i =>
   rw [List.getElem?_cons_succ] at e ⊢
   qV ih e
~!U3 {P:Program}{w:World}{K:Frag}{tg:Expr} (it a:Addr) (o:Obj) (kvs:List (Key×V)) (vs:List (Key×Value)) (ep:Nat) (rel:KV kvs vs) (hD:∀ h:Heap,h.get? a=some o->h.DictAt (kj P w) a vs ep) :
  Turn P w K tg (Itk a o kvs) [it] it (fun i h=>h.IsKeyIter it a i vs.length ep) where
 mem:=by simp
 obj:=fun i h st b hb=>by
  have e:b=it:=by simpa using hb
  subst e
  x5⟨o,ho,_,hd⟩:=st
  qV⟨o,ho,fun v z=>by rw [hd] at z; cases z⟩
 keep:=fun i h h' st k=>let ⟨o,ho,r⟩:=st; ⟨o,k it (by simp) o ho,r⟩
 item:=by
  intro X hP hw hK hc i pins s σ H E I hf st hg
  subst hP hw hK
  x5⟨hg,hlt⟩:=hg
  x5⟨ho,_⟩:=(show dU X.prog X.w H s.heap a (.frz o (.dK kvs)) from I.hok a _ hg)
  x5⟨f0,f1,f2,f3,f4,f5⟩:=hf it (by simp)
  obtain ⟨⟨k,y⟩,hx⟩ : ∃ p,kvs[i]?=some p:=⟨kvs[i],by simp [hlt]⟩
  x5⟨u,hu,ru⟩:=rel.at hx
  z5 wpAny_pyNext_dict_item st (hD _ ho) hu fun key h' hkey st' sb=>?_
  have I1:Inv X pins σ H { s with heap:=h' }:=I.turned (t':=s.toks) (fun b ob hb e=>(sb.2 b hb).trans e) f0 f1 f3 f4 f5
  x5⟨oi,e,c,d⟩:=id st'
  qV⟨key,rfl,Ny (s:={ s with heap:=h' }) e c d (by decide) ⟨kV k,H,I1,afE hkey,⟨rfl,k,y,hx,rfl⟩,st',fun b hb=>(hf b hb).1⟩⟩
 done:=by
  intro X hP hw hK hc i pins s σ H E I hf st hg
  subst hP hw hK
  x5⟨hg,rfl⟩:=hg
  x5⟨ho,_⟩:=(show dU X.prog X.w H s.heap a (.frz o (.dK kvs)) from I.hok a _ hg)
  x5⟨f0,f1,f2,f3,f4,f5⟩:=hf it (by simp)
  have hl:=rel.length
  qV wpAny_pyNext_dict_end (I.ok.hd hc) st (hD _ ho) (by simp; om) fun h' eb=>⟨rfl,I.turned (t':=s.toks) (fun b ob hb e=>eb b ob hb e) f0 f1 f3 f4 f5⟩
 self:=fun _ _ _ _ _ st h=>wpAny_pyIter_keyiter st h
section
variable {X:Cx}{tg:Expr}
def ace (te:TE):TI:=fun σ H R=>te σ H fun x H1=>∃ a kvs,x=.ref a/\H1 a=some (.dK kvs)/\∀ o,R (Itk a o kvs) (upd H1 a (.frz o (.dK kvs)))
~!aaN {l:Expr}{tl:TE} (hl:PE X l tl):PI X tg l (ace tl):=by
 intro pins s σ H R I h
 z5 thn (hl pins s σ H _ I h) fun v s1 hP=>?_
 x5⟨x,H1,I1,r1,a,kvs,ex,ha,q⟩:=hP
 subst ex
 cases r1
 have ok:=(show dU X.prog X.w H1 s1.heap a (.dK kvs) from I1.hok a _ ha)
 x5⟨z,hd,vs,rel,o,es,ep,e,ex,ed,ek,epr,en⟩:=ok
 have hD:∀ h:Heap,h.get? a=some o->h.DictAt (kj X.prog X.w) a vs ep:=fun h e=>⟨o,es,e,ex,ed,ek,epr,en⟩
 have I2:Inv X pins σ (upd H1 a (.frz o (.dK kvs))) s1:=by
  have:=I1.write (x:=a) (e:=a) (o:=.frz o (.dK kvs)) (h':=s1.heap) (t':=s1.toks) (by rw [ha]; qV True.intro) (.inl rfl) (fun b u hb z=>z) ⟨o,e⟩ ⟨e,z,hd,vs,rel,o,es,ep,e,ex,ed,ek,epr,en⟩
  qV this
 z5 wpAny_pyIter_dict hd (hD _ e) ?_
 z5⟨s1.heap.objs.size,[s1.heap.objs.size],_,Itk a o kvs,_,rfl,I2.kept (t':=s1.toks) fun b ob z=>aH _ z,U3 _ a o kvs vs ep rel hD,⟨_,bh _ rfl,rfl,rfl⟩,fun b hb=>?_,q o⟩
 have e:b=s1.heap.objs.size:=by simpa using hb
 subst e
 qV I2.fpOk (aG _) (I2.hok.fresh (aG _))
def tMG (g:TG):TG:=fun v σ H Q=>∃ R:L2.St->Hp->Prop,g v σ H R/\∀ σ' H',R σ' H'->Q σ' H'
def tMT (t:TT):TT:=fun σ H Q=>∃ R:Bool->Hp->Prop,t σ H R/\∀ b H',R b H'->Q b H'
~!PG.mono {e:Expr}{g:TG} (h:PG X e g):PG X e (tMG g):=fun pins s σ H v u Q I r hP=>by x5⟨R,h1,h2⟩:=hP; qV thn (h pins s σ H v u R I r h1) fun _ s' hP=>by x5⟨σ',H',I',q⟩:=hP; qV⟨σ',H',I',h2 σ' H' q⟩
~!PTs.mono {ifs:List Expr}{t:TT} (h:PTs X ifs t):PTs X ifs (tMT t):=fun pins s σ H Q I hP=>by x5⟨R,h1,h2⟩:=hP; qV thn (h pins s σ H R I h1) fun b s' hP=>by x5⟨H',I',q⟩:=hP; qV⟨H',I',h2 b H' q⟩
def Bu (n:Nat) (gt:TG) (tc:TT) (te:TE) (x:V) (σ:L2.St) (H:Hp) (Y:VK) (No:Hp->Prop):Prop:=∀ pre:L2.St,pre.length=n->gt x (pre++σ) H fun σ2 H2=>∃ pre':L2.St,pre'.length=n/\σ2=pre'++σ/\tc σ2 H2 fun b H3 =>
 match b with
 | true=>te σ2 H3 Y
 | false=>No H3
~!Bu.weak {n:Nat}{gt:TG}{tc:TT}{te:TE}{x:V}{σ:L2.St}{H:Hp}{Y Y':VK}{No No':Hp->Prop} (h:Bu n gt tc te x σ H Y No) (h1:∀ y H',Y y H'->Y' y H') (h2:∀ H',No H'->No' H'):Bu n (tMG gt) (tMT tc) (tM te) x σ H Y' No':=fun pre hp =>
 ⟨_,h pre hp,fun σ2 H2 ⟨pre',e1,e2,q⟩=>⟨pre',e1,e2,_,q,fun b H3 z=>match b,z with
  | true,z=>⟨_,z,h1⟩
  | false,z=>h2 H3 z⟩⟩
~!qb {K:Frag}{tl te:TE}{gt:TG}{tc:TT}{n:Nat}{σ:L2.St}{H:Hp}{Q:VK} (h:tl σ H fun x H1=>∃ a xs,x=.ref a/\H1 a=some (.lst xs)/\xs.length <= sizeLine/\∀ D,H1 D=none->∃ J:Nat->List V->Hp->Prop,J 0 [] (upd H1 D (.lst [])) /\
   (∀ k x ys Hc,xs[k]?=some x->J k ys Hc->ys.length <= k->Hc a=some (.lst xs)->Bu n gt tc te x σ Hc (fun y H2=>H2 D=some (.lst ys)/\H2 a=some (.lst xs)/\J (k+1) (ys++[y]) (upd H2 D (.lst (ys++[y])))) fun H2=>H2 a=some (.lst xs)/\J (k+1) ys H2) /\
   ∀ ys Hc,J xs.length ys Hc->ys.length <= xs.length->Q (.ref D) Hc):mF (Eo K (tM tl)) n (tMG gt) (tMT tc) (tM te) σ H Q:=by
 z5⟨_,h,?_⟩
 rintro x H1 ⟨a,xs,rfl,hx,hz,rest⟩
 z5⟨a,rfl,⟨xs,.of hx⟩,fun D hD=>?_⟩
 x5⟨J,j0,step,fin⟩:=rest D hD
 have ne:a≠D:=bL hx hD
 z5⟨fun k m ys Hc=>k <= xs.length/\m=xs.length - k/\ys.length <= k/\Hc a=some (.lst xs)/\J k ys Hc,⟨_,bC _,rfl,bC _,(bM ne).trans hx,j0⟩,?_⟩
 rintro k m ys Hc ⟨hk,rfl,hy,hx',j⟩
 by_cases e:k=xs.length
 .subst e
  qV .inl ⟨⟨xs,.of hx',aG _⟩,fin ys Hc j hy⟩
 .have hlt:k<xs.length:=by om
  z5 .inr ⟨⟨xs,_,.of hx',aj hlt⟩,?_⟩
  rintro x H'' ⟨rfl,y⟩
  z5(step k x ys H'' (y xs (.of hx')) j hy hx').weak ?_ ?_
  .rintro yv H2 ⟨z1,z2,z3⟩
   z5⟨by om,z1,xs.length - (k+1),by om,by om,rfl,?_,?_,z3⟩
   .rw [aB]; simp; om
   .rw [bM ne]; qV z2
  .rintro H2 ⟨z2,z3⟩
   qV⟨xs.length - (k+1),by om,by om,rfl,by om,z2,z3⟩
~!Mx {tl te:TE}{gt:TG}{tc:TT}{n:Nat}{σ:L2.St}{H:Hp}{Q:VK} (h:tl σ H fun x H1=>∃ a kvs,x=.ref a/\H1 a=some (.dK kvs)/\kvs.length <= sizeLine/\∀ o D,upd H1 a (.frz o (.dK kvs)) D=none->∃ J:Nat->List V->Hp->Prop,J 0 [] (upd (upd H1 a (.frz o (.dK kvs))) D (.lst [])) /\
   (∀ i k y ys Hc,kvs[i]?=some (k,y)->J i ys Hc->ys.length <= i->Hc a=some (.frz o (.dK kvs))->Bu n gt tc te (kV k) σ Hc (fun y H2=>H2 D=some (.lst ys)/\H2 a=some (.frz o (.dK kvs))/\J (i+1) (ys++[y]) (upd H2 D (.lst (ys++[y])))) fun H2=>H2 a=some (.frz o (.dK kvs))/\J (i+1) ys H2) /\
   ∀ ys Hc,J kvs.length ys Hc->ys.length <= kvs.length->Q (.ref D) Hc):mF (ace (tM tl)) n (tMG gt) (tMT tc) (tM te) σ H Q:=by
 z5⟨_,h,?_⟩
 rintro x H1 ⟨a,kvs,rfl,hx,hz,rest⟩
 z5⟨a,kvs,rfl,hx,fun o D hD=>?_⟩
 x5⟨J,j0,step,fin⟩:=rest o D hD
 have ne:a≠D:=bL bK hD
 z5⟨fun k m ys Hc=>k <= kvs.length/\m=kvs.length - k/\ys.length <= k/\Hc a=some (.frz o (.dK kvs))/\J k ys Hc,⟨_,bC _,rfl,bC _,(bM ne).trans bK,j0⟩,?_⟩
 rintro k m ys Hc ⟨hk,rfl,hy,hx',j⟩
 by_cases e:k=kvs.length
 .subst e
  qV .inl ⟨⟨hx',rfl⟩,fin ys Hc j hy⟩
 .have hlt:k<kvs.length:=by om
  z5 .inr ⟨⟨hx',hlt⟩,?_⟩
  rintro x H'' ⟨rfl,kk,yy,hkk,rfl⟩
  z5(step k kk yy ys H'' hkk j hy hx').weak ?_ ?_
  .rintro yv H2 ⟨z1,z2,z3⟩
   z5⟨by om,z1,kvs.length - (k+1),by om,by om,rfl,?_,?_,z3⟩
   .rw [aB]; simp; om
   .rw [bM ne]; qV z2
  .rintro H2 ⟨z2,z3⟩
   qV⟨kvs.length - (k+1),by om,by om,rfl,by om,z2,z3⟩
end
~!Same.tup {K:Frag}{H H':Hp}{a:Addr}{xs:List V} (e:Same H H') (h:SqT K H a xs):SqT K H' a xs:=by
 rcases h with (h | ⟨o,h⟩) | h
 .exact .inl (.inl (e _ _ h))
 .exact .inl (.inr ⟨o,e _ _ h⟩)
 .exact .inr h
~!SqT.updO {K:Frag}{H:Hp}{a l:Addr}{xs:List V}{o u:HO} (h:SqT K H a xs) (hl:H l=some o) (h1:∀ ys,o≠.tup ys) (h2:∀ ob ys,o≠.frz ob (.tup ys)):SqT K (upd H l u) a xs:=by
 rcases h with (h | ⟨ob,h⟩) | h
 .exact .inl (.inl ((bM (fM h hl (fun z=>h1 xs z.symm))).trans h))
 .exact .inl (.inr ⟨ob,(bM (fM h hl (fun z=>h2 ob xs z.symm))).trans h⟩)
 .exact .inr h
mutual
inductive lR (K:Frag) (H:Hp):V->PyData->Prop
 | non:lR K H .non .none
 | bl (b:Bool):lR K H (.bl b) (.bool b)
 | int (i:Int):lR K H (.int i) (.int i)
 | str (x:Str):lR K H (.str x) (.str x)
 | lst {a:Addr}{xs:List V}{ds:List PyData} : H a=some (.lst xs)->dz K H xs ds->lR K H (.ref a) (.list ds)
 | tup {a:Addr}{xs:List V}{ds:List PyData} : SqT K H a xs->dz K H xs ds->lR K H (.ref a) (.tuple ds)
inductive dz (K:Frag) (H:Hp):List V->List PyData->Prop
 | nil:dz K H [] []
 | cons {x:V}{xs:List V}{d:PyData}{ds:List PyData} : lR K H x d->dz K H xs ds->dz K H (x::xs) (d::ds)
end
mutual
theorem lR.same {K:Frag}{H H':Hp} (S:Same H H'):∀ {x:V}{d:PyData},lR K H x d->lR K H' x d
 | _,_,.non=>.non
 | _,_,.bl b=>.bl b
 | _,_,.int i=>.int i
 | _,_,.str x=>.str x
 | _,_,.lst e h=>.lst (S _ _ e) (dz.same S h)
 | _,_,.tup e h=>.tup (S.tup e) (dz.same S h)
theorem dz.same {K:Frag}{H H':Hp} (S:Same H H'):∀ {xs:List V}{ds:List PyData},dz K H xs ds->dz K H' xs ds
 | _,_,.nil=>.nil
 | _,_,.cons h t=>.cons (lR.same S h) (dz.same S t)
end
~!dz.ints (K:Frag) (H:Hp):∀ ns:List Int,dz K H (ns.map V.int) (ns.map PyData.int)
 | []=>.nil
 | n::ns=>.cons (.int n) (dz.ints K H ns)
section
variable {X:Cx}{pins:List (Addr×Obj)}{σ:L2.St}{H:Hp}{s:Shared}
mutual
theorem Inv.readsK (I:Inv X pins σ H s):∀ {x:V}{d:PyData}{v:Value},lR X.K H x d->RelV x v->∃ as,Reads s.heap v d as
 | _,_,_,.non,r=>by cases r; qV⟨_,.none⟩
 | _,_,_,.bl b,r=>by cases r; qV⟨_,.bool b⟩
 | _,_,_,.int i,r=>by x5⟨t,rfl⟩:=r; qV⟨_,.int i t⟩
 | _,_,_,.str x,r=>by x5⟨t,rfl⟩:=r; qV⟨_,.str x t⟩
 | _,_,_,.lst e h,r=>by
  cases r
  x5⟨its,rv,⟨o,ho,hc,n,hd⟩⟩:=I.lstIs e
  x5⟨as,q⟩:=Inv.readsAllK I h rv
  qV⟨_,.list ho hc hd q⟩
 | _,_,_,.tup e h,r=>by
  cases r
  x5⟨its,rv,⟨o,ho,hc,n,hd⟩,_⟩:=I.tuple e
  x5⟨as,q⟩:=Inv.readsAllK I h rv
  qV⟨_,.tuple ho hc hd q⟩
theorem Inv.readsAllK (I:Inv X pins σ H s):∀ {xs:List V}{ds:List PyData}{vs:List Value},dz X.K H xs ds->Vals xs vs->∃ as,ReadsAll s.heap vs ds as
 | _,_,_,.nil,r=>by cases r; qV⟨_,.nil⟩
 | _,_,_,.cons h t,r=>by
  cases r with
  | cons r1 r2 =>
   x5⟨a,q1⟩:=Inv.readsK I h r1
   x5⟨b,q2⟩:=Inv.readsAllK I t r2
   qV⟨_,.cons q1 q2⟩
end
def Y7 (K:Frag) (neg:Bool):R2:=fun x y H Q=>∃ d e,lR K H x d/\lR K H y e/\SeqAt.shaped d=true/\SeqAt.shaped e=true/\Q (.bl (if neg then !PyData.eqv d e else PyData.eqv d e)) H
~!adt (hu:X.A.units+64<cLine):OpR X (compareOp .NotEq) (Y7 X.K true):=by
 intro pins s σ H x y v u Q I rx ry h
 x5⟨d,e,hd,he,sd,se,q⟩:=h
 x5⟨as,ra⟩:=I.readsK hd rx
 x5⟨bs,rb⟩:=I.readsK he ry
 qV SeqAt.compareNe_shaped ra rb sd se hu ⟨.bl _,H,I,rfl,q⟩
end
section
variable {X:Cx}
def RN (K:Frag):List V->Hp->VK->Prop:=fun xs H Q=>∃ p ys,xs=[.ref p]/\SqT K H p ys/\Q (.int ys.length) H
~!Ip:h_ X (.builtin "len") (RN X.K):=yK.imp fun xs H Q hP=>by x5⟨p,ys,a,b,c⟩:=hP; qV⟨p,ys,a,.inr b,c⟩
def CT (K:Frag):List V->Hp->VK->Prop:=fun xs H Q=>∃ p T ys,xs=[.ref p,.ty T]/\T∈["bool", "int", "str", "list", "tuple", "dict"]/\SqT K H p ys/\Q (.bl (U4 "tuple" T)) H
~!pX:h_ X (.builtin "isinstance") (CT X.K):=by
 intro pins s σ H xs us Q I r h
 x5⟨p,T,ys,rfl,hT,hp,q⟩:=h
 x5⟨u,v,rfl,ru,rv⟩:=r.two
 cases ru
 cases rv
 x5⟨its,rvs,⟨o,ho,hc,n,hd⟩,_⟩:=I.tuple hp
 z5 PySem.W.kia_one (PySem.W.kitx_tuple (a:=p)) I.kIn ⟨o,ho,hc⟩ (T_ (K:=X.K) (t := "tuple") (by decide) hT) (fun z=>nomatch z) fun tk=>⟨.bl _,H,I.tok _,rfl,q⟩
end
def OkI (P:Program) (w:World) (K:Frag) (mg:Str->Option Value) (base:Heap) (CX:CXT) (k:Nat) (f:Addr) (ps:List Str) (sp:Sp):Prop:=∃ fd,cD P w K mg base CX k f fd ps sp/\Binds K fd ps []
def rP (K:Frag) (x qual:Str) (st:Stmt) (ps:List Str) (f:Addr):Prop:=∃ fd,Fun K x qual st f fd/\∀ us:List Value,us.length=ps.length->bindArgs fd ⟨us,[]⟩=pure (ps.zip us)
~!rP.ok {P:Program}{w:World}{K:Frag}{mg:Str->Option Value}{base:Heap}{CX:CXT}{k:Nat}{x qual:Str}{st:Stmt}{ps:List Str}{f:Addr}{sp:Sp} (h:rP K x qual st ps f) (hf:∀ fd,Fun K x qual st f fd->cD P w K mg base CX k f fd ps sp):OkI P w K mg base CX k f ps sp :=
 by x5⟨fd,a,b⟩:=h; qV⟨fd,hf fd a,.all b⟩
~!aad {K:Frag}{x qual:Str}{st:Stmt}{ps:List Str}{f:Addr}{oc:Value}{od an:Option Addr}{osl:Array (Option Value)}{kV doc pm cdv ct:Value}
  (l:K.lookup f=some ⟨oc,od,.func (PySem.W.fnOf x qual (gQ st) (eZ st) (bO st) .none kV doc pm an cdv ct),osl⟩) (c:PySem.W.codeIn K cdv qual=true) (k:PySem.W.keepIn K (.ref f)=true)
  (hb:∀ (kV doc pm:Value) (an:Option Addr) (cdv ct:Value) (us:List Value),us.length=ps.length->bindArgs (PySem.W.fnOf x qual (gQ st) (eZ st) (bO st) .none kV doc pm an cdv ct) ⟨us,[]⟩=pure (ps.zip us)):rP K x qual st ps f :=
 ⟨_,PN l c k,hb kV doc pm an cdv ct⟩
section
variable {X:Cx}{k:Nat}{f C B:Addr}{ps:List Str}{sp:Sp}{x m:Str}{p pos apos:Pos}{e o:Expr}{es:List Expr}{ta:TE}{t:TA}{Ex:Value->Option Addr->L2.St->Hp->Prop}
~!PE.any {ι:Sort _}{R:ι->Prop}{a:Expr}{ts:ι->TE} (h:∀ i,R i->PE X a (ts i)):PE X a (fun σ H Q=>∃ i,R i/\ts i σ H Q):=fun pins s σ H Q I hP=>by x5⟨i,r,q⟩:=hP; qV h i r pins s σ H Q I q
def Jj (C:Addr) (sp:Sp) (Ex:Value->Option Addr->L2.St->Hp->Prop) (t:TA):TE:=fun σ H Q=>t σ H fun vs H1=>∀ x dx,H1 x=none->H1 dx=none->dx≠x->sp (.ref x::vs) (upd (upd H1 dx (.own x)) x (.ins C dx [])) (fun v H2=>v=.non/\Q (.ref x) H2) fun E d H'=>Ex E d σ H'
~!tU (M:Mk X.K C f) (G:OkI X.prog X.w X.K X.mg X.base (CXO X.prog X.w) k f ps sp) (hr:fU (k+1) X.A) (hg:Gl X x) (hm:X.mg x=some (.ref C)) (hx:Fe X Ex) (ha:PA X (e::es) t) (hdb:(x == ("__debug__" : Str))=false:=by decide)
  (he:starEach (e::es) X.env=(false,eval e X.env)::starEach es X.env:=by rfl) (hpl:(backTo pos (starEach es X.env)).any (·.1)=false:=by rfl):PE X (.Call (.Name x p) (e::es) [] pos) (Jj C sp Ex t):=by
 x5⟨fd,F,hb⟩:=G
 z5(Zh M F hr hg hm hb .nil hx ha.mono hdb he hpl).imp fun σ H Q h=>⟨_,h,fun vs H1 q x dx h1 h2 h3=>?_⟩
 rw [List.append_nil]
 qV q x dx h1 h2 h3
def Di (C:Addr) (m:Str) (sp:Sp) (ta:TE) (t:TA):TE:=fun σ H Q=>ta σ H fun x H1=>∃ a dx fs,x=.ref a/\H1 a=some (.ins C dx fs)/\fs.lookup m=none/\t σ H1 fun vs H2=>sp (x::vs) H2 Q E0
~!Fv {pl:Sem Bool} (he:PE X o ta) (c:Cls X.K C) (hm:Meth X.K C m f) (G:OkI X.prog X.w X.K X.mg X.base CX0 k f ps sp) (hr:fU k X.A) (ha:PA X (e::es) t)
  (hst:starEach (e::es) X.env=(false,eval e X.env)::starEach es X.env:=by rfl) (hpl:(backTo pos (starEach es X.env)).any (·.1)=false:=by rfl)
  (ht:eval (.Call (.Attribute o m apos) (e::es) [] pos) X.env=(do
   let ov <- eval o X.env
   standAt apos.atName
   let (f,first) <- holding [ov] (getMethod ov m pl)
   callWith pos f first (backTo pos (starEach (e::es) X.env)) (backToKw pos (keywordEach [] X.env))):=by rfl) :
  PE X (.Call (.Attribute o m apos) (e::es) [] pos) (Di C m sp ta t):=by
 x5⟨fd,F,hb⟩:=G
 z5(abC (pl:=pl) he.mono c hm F hr hb .nil Nz ha.mono hst hpl ht).imp fun σ H Q h=>⟨_,h,?_⟩
 rintro x H1 ⟨a,dx,fs,h1,h2,h3,h4⟩
 z5⟨a,dx,fs,h1,h2,h3,_,h4,fun vs H2 q=>?_⟩
 show sp (x::(vs++[])) H2 Q E0
 rw [List.append_nil]
 qV q
~!qO {pl:Sem Bool} (he:PE X o ta) (c:Cls X.K C) (hm:Meth X.K C m f) (G:OkI X.prog X.w X.K X.mg X.base CX0 k f ps sp) (hr:fU k X.A)
  (ht:eval (.Call (.Attribute o m apos) [] [] pos) X.env=(do
   let ov <- eval o X.env
   standAt apos.atName
   let (f,first) <- holding [ov] (getMethod ov m pl)
   callWith pos f first (backTo pos (starEach [] X.env)) (backToKw pos (keywordEach [] X.env))):=by rfl) :
  PE X (.Call (.Attribute o m apos) [] [] pos) (Di C m sp ta Cu):=by
 x5⟨fd,F,hb⟩:=G
 z5(Xk (pl:=pl) he.mono c hm F hr hb .nil Nz ht).imp fun σ H Q h=>⟨_,h,?_⟩
 rintro x H1 ⟨a,dx,fs,h1,h2,h3,h4⟩
 qV⟨a,dx,fs,h1,h2,h3,h4⟩
~!yV {pl:Sem Bool} (c:mX X.K B m f) (G:OkI X.prog X.w X.K X.mg X.base (CXO X.prog X.w) k f ps sp) (hr:fU k X.A) (hg:Gl X x) (hm:X.mg x=some (.ref B)) (hx:Fe X Ex) (ha:PA X (e::es) t) (hdb:(x == ("__debug__" : Str))=false:=by decide)
  (hst:starEach (e::es) X.env=(false,eval e X.env)::starEach es X.env:=by rfl) (hpl:(backTo pos (starEach es X.env)).any (·.1)=false:=by rfl)
  (ht:eval (.Call (.Attribute (.Name x p) m apos) (e::es) [] pos) X.env=(do
   let ov <- eval (.Name x p) X.env
   standAt apos.atName
   let (f,first) <- holding [ov] (getMethod ov m pl)
   callWith pos f first (backTo pos (starEach (e::es) X.env)) (backToKw pos (keywordEach [] X.env))):=by rfl) :
  PE X (.Call (.Attribute (.Name x p) m apos) (e::es) [] pos) (Am sp Ex t):=by
 x5⟨fd,F,hb⟩:=G
 qV Y4 (pl:=pl) c F hr hg hm hb hx ha hdb hst hpl ht
~!gY {D:Addr}{pos:Pos} (hg:Gl X x) (hm:X.mg x=some (.ref D)) (hd:(x == ("__debug__" : Str))=false:=by decide):PE X (.Name x pos) (tC (.ref D)):=RJ hg hm rfl hd
end
~!Ub {X:Cx}{K:Frag} (e:X.K=K) (hu:X.A.units+64<cLine):OpR X (compareOp .NotEq) (Y7 K true):=e ▸ adt hu
~!Ij {h:Heap}{o ob:Obj}{b:Addr} (e:(h.push o).get? b=some ob) (hs:b≠h.objs.size):h.get? b=some ob:=by
 x5⟨e1,e2⟩:=Heap.get?_some_iff.mp e
 z5 Heap.get?_some_iff.mpr ⟨?_,e2⟩
 cases h
 simpa [Heap.push,Array.getElem?_push,hs] using e1
section
variable {X:Cx}
~!Oq:∀ {ys:List Str}{vs:List Value},Vals (ys.map V.str) vs->StrsAre vs ys
 | [],_,h=>by cases h; qV .nil
 | y::ys,_,h=>by
  rw [List.map_cons] at h
  cases h with
  | cons a b =>
   x5⟨t,rfl⟩:=a
   qV .cons y t (Oq b)
def rJoin:V->List V->Hp->VK->Prop:=fun x vs H Q=>∃ a l ys,x=.str a/\vs=[.ref l]/\H l=some (.lst (ys.map V.str))/\(ys.map (·.length)).sum+ys.length * a.length <= 16777216/\Q (.str (Txt.join a ys)) H
~!ab1:MtM X "str.join" rJoin:=by
 intro pins s σ H x vs v us Q I rx rv h
 x5⟨a,l,ys,rfl,rfl,hl,hz,q⟩:=h
 x5⟨t,rfl⟩:=rx
 x5⟨u,rfl,ru⟩:=rv.one
 cases ru
 x5⟨_,its,n,r,_,e⟩:=I.lstM hl
 qV join_list ⟨_,e,rfl,n,rfl⟩ (by simpa using Oq r) hz fun t' k=>⟨.str _,H,I.tok _,⟨_,rfl⟩,q⟩
structure Nk (K:Frag) (C:Addr):Prop where
 ha:PySem.W.findIn K (.ref C) "__class__" = some (some (.builtin "object.__class__"))
 hn:PySem.W.specialIn K (.builtin "object.__class__") "__get__" = some (some (.builtin "getset_descriptor.__get__"))
 tk:PySem.W.takesIn K (.builtin "object.__class__")=some true
 hm:PySem.W.mroIn K C (.type "object")=some true
def X_ (K:Frag):List V->Hp->VK->Prop:=fun xs H Q=>∃ a D C dx fs b,xs=[.ref a,.ref D]/\H a=some (.ins C dx fs)/\Cls K C/\Nk K C/\PySem.W.kitOne K (.ref C) (.ref D)=some b/\Q (.bl b) H
def Yq:List V->Hp->VK->Prop:=fun xs H Q=>∃ i j,xs=[.int i,.int j]/\Q (.int (if j<i then j else i)) H
def Xj:List V->Hp->VK->Prop:=fun xs H Q=>∃ i j,xs=[.int i,.int j]/\Q (.int (if j > i then j else i)) H
end
section
variable {X:Cx}{elt iter:Expr}{pos:Pos}{scope:Scope}{wi:TI}{te:TE}
~!ZL {i0:Nat}{y0:Str}{py spos:Pos}{xs N':List Str}{tg:Expr}{ifs:List Expr}{gt:TG}{tc:TT} (hc:X.calm=true) (hsh:Iw xs X.N=N') (hN:(xs++N').Nodup) (hkind:scope.kind=.function) (hcell:∀ y∈scope.names,y.2≠.cell) (hnames:∀ y∈scope.names,y.2=.local->scope.names.lookup y.1=some .local)
  (hfree:∀ y∈scope.names,y.2=.free->X.env.kindOf y.1=some .cell\/X.env.kindOf y.1=some .free) (hloc:∀ y∈X.N,y ∉ xs->(relabel scope X.env).names.lookup y≠some .local) (hq:∀ y∈X.N,y∈xs->(relabel scope X.env).names.lookup (hid y)=none) (hi:PI X tg iter wi)
  (hg:∀ C s₀ H₀ ex pn,PG (X.compG N' scope xs C s₀ H₀ ex pn) tg gt) (ht:∀ C s₀ H₀ ex pn,PTs (X.compG N' scope xs C s₀ H₀ ex pn) ifs tc) (he:∀ C s₀ H₀ ex pn,PE (X.compG N' scope xs C s₀ H₀ ex pn) elt te) (hgy:PG X (.Name y0 py) (cU i0)) (hsw:swapsWith (.ListComp elt [⟨tg,iter,ifs,0⟩] scope pos) (some (.Name y0 py)) spos.line X.env=pure true) (hs:∀ z,foldedSetIterable iter X.env z=pure z:=by intro _; rfl) :
  PS X (.Assign [.Name y0 py] (.ListComp elt [⟨tg,iter,ifs,0⟩] scope pos) spos) (Gu (mF wi xs.length gt tc te) (cU i0)):=by
 intro pins s σ H D0 I h
 have h:mF wi xs.length gt tc te σ H (fun x H1=>cU i0 x σ H1 D0.nx):=h
 rw [exec_Assign_Name_used _ _ _ _ hsw]
 z5 wpAny_bind (wpAny_standAt (wpAny_bind ?_))
 show wpAny _ X.A (comprehension (.ListComp elt [⟨tg,iter,ifs,0⟩] scope pos) scope X.env _ (newList []) false (eval iter X.env) (some (assign (.Name y0 py) X.env)) >>= fun _=>_) _ _ s
 z5 wpAny_bind (wpAny_mono (DP (use:=some (assign (.Name y0 py) X.env)) (post:=fun _ s'=>SP X pins D0 .next s') hc hsh hN hkind hcell hnames hfree hloc hq hi hg ht he hs I h fun C D Hc s6 m fl hn6 I6 fC qn=>?_) (fun _ s' hq=>wpAny_pure (wpAny_pure hq)) fun _ _ e=>e)
 x5⟨oc,es,ep,ho,hdat,_⟩:=id hn6
 have I7:=I6.pinned (fp:=[C]) (fun b hb=>by rw [List.mem_singleton.mp hb]; qV fC) fun b hb=>by
  rw [List.mem_singleton.mp hb]
  qV⟨oc,ho,fun v z=>by rw [hdat] at z; cases z⟩
 show wpAny _ X.A (assign (.Name y0 py) X.env _) _ _ s6
 z5 thn (hgy _ s6 σ Hc (.ref D) _ D0.nx I7 rfl qn) fun _ s7 hP=>?_
 x5⟨σ7,H7,Z7,q7⟩:=hP
 have pn7:=Z7.pin (C,oc) (aU _ (aU _ (pR (by simp) ho)))
 z5⟨m,hn6.at' fun o e=>?_,fun h' hs'=>⟨σ7,H7,Z7.unpinned.turned (it:=C) (h':=h') (t':=s7.toks) (fun b o hb e=>(hs'.2 b hb).trans e) pn7.2.1 fC.2.1 fC.2.2.2.1 fC.2.2.2.2.1 fC.2.2.2.2.2,q7⟩⟩
 rw [ho] at e
 cases e
 qV pn7.1
~!WT {te:TE}{x:V}{σ:L2.St}{H:Hp}{Y:VK}{No:Hp->Prop} (h:te (some x::σ) H Y):Bu 1 (cU 0) N5 te x σ H Y No:=fun pre hp=>by
 x5⟨u,rfl⟩:=List.length_eq_one_iff.mp hp
 qV⟨[some x],rfl,rfl,h⟩
~!dR {K:Frag}{tl te:TE}{σ:L2.St}{H:Hp}{Q:VK} (h:tl σ H fun x H1=>∃ a xs,x=.ref a/\H1 a=some (.lst xs)/\xs.length <= sizeLine/\∀ D,H1 D=none->∃ J:Nat->List V->Hp->Prop,J 0 [] (upd H1 D (.lst [])) /\
   (∀ k x ys Hc,xs[k]?=some x->J k ys Hc->ys.length=k->Hc a=some (.lst xs)->te (some x::σ) Hc fun y H2=>H2 D=some (.lst ys)/\H2 a=some (.lst xs)/\J (k+1) (ys++[y]) (upd H2 D (.lst (ys++[y])))) /\
   ∀ ys Hc,J xs.length ys Hc->ys.length=xs.length->Q (.ref D) Hc):mF (Eo K (tM tl)) 1 (tMG (cU 0)) (tMT N5) (tM te) σ H Q:=by
 z5⟨_,h,?_⟩
 rintro x H1 ⟨a,xs,rfl,hx,hz,rest⟩
 z5⟨a,rfl,⟨xs,.of hx⟩,fun D hD=>?_⟩
 x5⟨J,j0,step,fin⟩:=rest D hD
 have ne:a≠D:=bL hx hD
 z5⟨fun k m ys Hc=>k <= xs.length/\m=xs.length - k/\ys.length=k/\Hc a=some (.lst xs)/\J k ys Hc,⟨_,bC _,rfl,rfl,(bM ne).trans hx,j0⟩,?_⟩
 rintro k m ys Hc ⟨hk,rfl,hy,hx',j⟩
 by_cases e:k=xs.length
 .subst e
  qV .inl ⟨⟨xs,.of hx',aG _⟩,fin ys Hc j hy⟩
 .have hlt:k<xs.length:=by om
  z5 .inr ⟨⟨xs,_,.of hx',aj hlt⟩,?_⟩
  rintro x H'' ⟨rfl,y⟩
  z5(WT (No:=fun _=>False) (step k x ys H'' (y xs (.of hx')) j hy hx')).weak ?_ (fun _ z=>z.elim)
  rintro yv H2 ⟨z1,z2,z3⟩
  z5⟨by om,z1,xs.length - (k+1),by om,by om,rfl,?_,?_,z3⟩
  .rw [aB,hy]; rfl
  .rw [bM ne]; qV z2
~!Qp {te:TE}{σ:L2.St}{H:Hp}{Q:VK}{lo:Int}{n:Nat} (hn:n <= 64) (rest:∀ D,H D=none->∃ J:Nat->List V->Hp->Prop,J 0 [] (upd H D (.lst []))/\(∀ k ys Hc,k<n->J k ys Hc->ys.length=k->te (some (.int (lo+k))::σ) Hc fun y H2=>H2 D=some (.lst ys)/\J (k+1) (ys++[y]) (upd H2 D (.lst (ys++[y]))))/\∀ ys Hc,J n ys Hc->ys.length=n->Q (.ref D) Hc) :
  ∀ D,H D=none->∃ W:Nat->Nat->List V->Hp->Prop,(∃ m,W 0 m [] (upd H D (.lst [])))/\∀ i m ys Hc,W i m ys Hc->((Itr lo n).stop i Hc/\Q (.ref D) Hc)\/((Itr lo n).go i Hc/\∀ x H',(Itr lo n).yld i Hc x H'->Bu 1 (tMG (cU 0)) (tMT N5) (tM te) x σ H' (fun y H2=>ys.length<sizeLine/\H2 D=some (.lst ys)/\∃ m',m'<m/\W (i+1) m' (ys++[y]) (upd H2 D (.lst (ys++[y])))) fun H3=>∃ m',m'<m/\W (i+1) m' ys H3):=by
 intro D hD
 x5⟨J,j0,step,fin⟩:=rest D hD
 have hz:64 <= sizeLine:=by decide
 z5⟨fun k m ys Hc=>k <= n/\m=n - k/\ys.length=k/\J k ys Hc,⟨_,bC _,rfl,rfl,j0⟩,?_⟩
 rintro k m ys Hc ⟨hk,rfl,hy,j⟩
 by_cases e:k=n
 .subst e
  qV .inl ⟨aG _,fin ys Hc j hy⟩
 .have hlt:k<n:=by om
  z5 .inr ⟨hlt,?_⟩
  rintro x H'' ⟨rfl,rfl⟩
  z5(WT (No:=fun _=>False) (step k ys H'' hlt j hy)).weak ?_ (fun _ z=>z.elim)
  rintro yv H2 ⟨z1,z2⟩
  qV⟨by om,z1,n - (k+1),by om,by om,rfl,by rw [aB,hy]; rfl,z2⟩
~!pZ {ta:TA}{te:TE}{σ:L2.St}{H:Hp}{Q:VK} (h:ta σ H fun vs H1=>∃ n:Nat,vs=[.int n]/\n <= 64/\∀ D,H1 D=none->∃ J:Nat->List V->Hp->Prop,J 0 [] (upd H1 D (.lst []))/\(∀ (k:Nat) ys Hc,k<n->J k ys Hc->ys.length=k->te (some (.int k)::σ) Hc fun y H2=>H2 D=some (.lst ys)/\J (k+1) (ys++[y]) (upd H2 D (.lst (ys++[y]))))/\∀ ys Hc,J n ys Hc->ys.length=n->Q (.ref D) Hc) :
  mF (RT (tMA ta)) 1 (tMG (cU 0)) (tMT N5) (tM te) σ H Q:=by
 z5⟨_,h,?_⟩
 rintro vs H1 ⟨n,rfl,hn,rest⟩
 z5⟨n,rfl,by om,by om,?_⟩
 rw [Int.toNat_natCast]
 z5 Qp hn fun D hD=>?_
 x5⟨J,j0,step,fin⟩:=rest D hD
 qV⟨J,j0,fun k ys Hc h1 h2 h3=>by rw [Int.zero_add]; qV step k ys Hc h1 h2 h3,fin⟩
end
~!cD.wild {P:Program}{w:World}{K:Frag}{mg:Str->Option Value}{base:Heap}{k:Nat}{f:Addr}{fd:FuncData}{ps:List Str}{sp:Sp} (F:cD P w K mg base CX0 k f fd ps sp):cD P w K mg base (CXO P w) k f fd ps sp:=by
 z5⟨F.len,fun A outer s H args us vs Q E hr e0 hb r h=>?_⟩
 z5 codeAny_mono (F.run A outer s H args us vs Q E hr e0 hb r h) fun res s' hs=>?_
 cases res with
 | error e=>qV False.elim hs
 | ok fl =>
  cases fl with
  | ret u=>qV hs
  | next=>qV hs
  | brk=>qV hs
  | cont=>qV hs
~!OkF.wild {P:Program}{w:World}{K:Frag}{mg:Str->Option Value}{base:Heap}{k:Nat}{x:Str}{ps:List Str}{sp:Sp} (F:OkF P w K mg base k x ps sp):OkX P w K mg base k x ps sp:=by x5⟨f,fd,a,b⟩:=F; qV⟨f,fd,a.wild,b⟩
section
variable {X:Cx}{pins:List (Addr×Obj)}{σ:L2.St}{H:Hp}{s:Shared}{h':Heap}
~!Inv.turnedL {t':Nat}{ch:List Addr} (I:Inv X pins σ H s) (k:∀ b o,b ∉ ch->s.heap.get? b=some o->h'.get? b=some o) (hf:∀ b∈ch,BZ X pins H b):Inv X pins σ H { s with heap:=h',toks:=t' }:=by
 have nit:∀ b u,H b=some u->b ∉ ch:=fun b u e z=>by rw [(hf b z).1] at e; cases e
 z5 I.step (g':=s.gens) (d':=s.drawn) (ch:=ch) (fun b hb=>⟨(hf b hb).2.2.2.1,(hf b hb).2.1,(hf b hb).2.2.2.2.1,(hf b hb).2.2.2.2.2⟩) (fun b o _ _ hc e _=>k b o hc e) (fun b o _ _ hc e _=>⟨o.slots,k b o hc e⟩) (fun _ _ _ _ n=>n) (fun b o hc e=>⟨o,k b o hc e⟩) (fun _ _ e=>e) (fun _ _ _ e=>e) (fun b ps e=>⟨#[],by rw [e]; simp⟩) (fun m hm=>?_) (fun b u e=>?_) I.bare
 .obtain ⟨o,es,ep,ho,r⟩:=hm
  qV⟨o,es,ep,k _ o (fun z=>(hf _ z).2.1 rfl) ho,r⟩
 .refine (I.hok b u e).stay (fun c v hc q=>k c v ?_ q) (fun _ q=>q) fun _ _ q=>q
  rcases hc with z | z
  .rw [z]; qV nit b u e
  .exact nit c _ z
end
def Itz (a b:Addr):It:=⟨fun i H=>∃ xs ys,H a=some (.lst xs)/\H b=some (.lst ys)/\i<xs.length/\i<ys.length,fun i H v H'=>∃ xs ys x y t,H a=some (.lst xs)/\H b=some (.lst ys)/\xs[i]?=some x/\ys[i]?=some y/\H t=none/\v=.ref t/\H'=upd H t (.tup [x,y]),fun i H=>∃ xs ys,H a=some (.lst xs)/\H b=some (.lst ys)/\(xs.length <= i\/ys.length <= i)⟩
~!o_ {h g:Heap}{a l:Addr}{i:Nat} (x:h.IsListIter a l i) (k:∀ o,h.get? a=some o->g.get? a=some o):g.IsListIter a l i:=by x5⟨o,e,r⟩:=x; qV⟨o,k o e,r⟩
~!Lr {xs:List V}{vs:List Value} : Vals xs vs->∀ {i:Nat}{x:V},xs[i]?=some x->∃ u,vs[i]?=some u/\RelV x u:=by
 intro h
 induction h with
 | nil=>intro i x e; cases e
 | cons a b ih =>
  intro i x e
  cases i with
  | zero=>rw [List.getElem?_cons_zero] at e; cases e; qV⟨_,rfl,a⟩
  | succ i=>rw [List.getElem?_cons_succ] at e ⊢; qV ih e
~!WK {P:Program}{w:World}{K:Frag}{elts:List Expr}{x1}{pos:Pos} (z TI TO i1 i2 l1 l2:Addr) (D:ZipApart z TI TO i1 i2 l1 l2) :
  Turn P w K (.Tuple elts x1 pos) (Itz l1 l2) [z,TI,TO,i1,i2] z (fun i h=>IsZip h z TI TO .none/\IsPair h TI (.ref i1) (.ref i2)/\(∃ p q,IsPair h TO p q)/\h.IsListIter i1 l1 i/\h.IsListIter i2 l2 i) where
 mem:=by simp
 obj:=by
  rintro i h ⟨s1,s2,⟨p,q,s3⟩,⟨o4,s4,_,d4⟩,⟨o5,s5,_,d5⟩⟩ b hb
  simp only [List.mem_cons,List.not_mem_nil,or_false] at hb
  rcases hb with rfl | rfl | rfl | rfl | rfl
  .exact ⟨_,s1,fun v e=>by cases e⟩
  .exact ⟨_,s2,fun v e=>by cases e⟩
  .exact ⟨_,s3,fun v e=>by cases e⟩
  .exact ⟨_,s4,fun v e=>by rw [d4] at e; cases e⟩
  .exact ⟨_,s5,fun v e=>by rw [d5] at e; cases e⟩
 keep:=fun i h h' ⟨s1,s2,⟨p,q,s3⟩,s4,s5⟩ k=>⟨k z (by simp) _ s1,k TI (by simp) _ s2,⟨p,q,k TO (by simp) _ s3⟩,o_ s4 (k i1 (by simp)),o_ s5 (k i2 (by simp))⟩
 item:=by
  intro X hP hw hK hc i pins s σ H E I hf st hg
  subst hP hw hK
  x5⟨s1,s2,⟨p,q,s3⟩,s4,s5⟩:=st
  x5⟨xs,ys,ha,hb,lt1,lt2⟩:=hg
  x5⟨_,it1,n1,rv1,le1,g1⟩:=I.lstM ha
  x5⟨_,it2,n2,rv2,le2,g2⟩:=I.lstM hb
  have ex:xs[i]?=some xs[i]:=aj lt1
  have ey:ys[i]?=some ys[i]:=aj lt2
  x5⟨u,hu,ru⟩:=Lr rv1 ex
  x5⟨v,hv,rv⟩:=Lr rv2 ey
  z5 wpAny_pyNext_zip_item D s1 s2 s3 s4 s5 (xs:=it1.toArray) (ys:=it2.toArray) ⟨_,g1,rfl,n1,rfl⟩ ⟨_,g2,rfl,n2,rfl⟩ (x:=u) (y:=v) (by simpa using hu) (by simpa using hv) fun h' a1 a2 a3 a4 a5 a6 a7=>⟨_,rfl,?_⟩
  z5 wpAny_letOwnedTupleGo_zip a1 fun h2 st2 sb=>?_
  have nt:H s.heap.objs.size=none:=I.fresh
  have I1:=I.laid (a:=s.heap.objs.size) (o:=.tup [xs[i],ys[i]]) (h':=s.heap.push { cls:=.type "tuple",data:=.seq #[u,v] }) (t':=s.toks) (fun b q z=>aH _ z) (aG _)
   ⟨(by show 2 <= sizeLine; decide),[u,v],.cons ru (.cons rv .nil),_,bh _ rfl,rfl,_,rfl⟩
  have nz:z≠s.heap.objs.size:=aV (aK s1)
  have nO:TO≠s.heap.objs.size:=aV (aK s3)
  have nI:TI≠s.heap.objs.size:=aV (aK s2)
  have n1':i1≠s.heap.objs.size:=by x5⟨o,e,_⟩:=s4; qV aV (aK e)
  have n2':i2≠s.heap.objs.size:=by x5⟨o,e,_⟩:=s5; qV aV (aK e)
  have fpn:∀ b∈[z,TI,TO,i1,i2],upd H s.heap.objs.size (.tup [xs[i],ys[i]]) b=none:=by
   intro b hb
   have f0:=(hf b hb).1
   simp only [List.mem_cons,List.not_mem_nil,or_false] at hb
   rcases hb with rfl | rfl | rfl | rfl | rfl
   .exact (bM nz).trans f0
   .exact (bM nI).trans f0
   .exact (bM nO).trans f0
   .exact (bM n1').trans f0
   .exact (bM n2').trans f0
  have I2:=I1.turnedL (ch:=[z,TO,i1,i2]) (h':=h2) (t':=s.toks) (fun b ob hb e=>by
   simp only [List.mem_cons,List.not_mem_nil,or_false,not_or] at hb
   x5⟨b1,b2,b3,b4⟩:=hb
   z5(sb.2 b b1).trans ?_
   by_cases hs:b=s.heap.objs.size
   .subst hs
    have e2:=bh s.heap (o:={ cls:=.type "tuple",data:=.seq #[u,v] }) rfl
    have e:(s.heap.push { cls:=.type "tuple",data:=.seq #[u,v] }).get? s.heap.objs.size=some ob:=e
    rw [e2] at e
    cases e
    qV a5
   .exact a7 b _ b1 b2 b3 b4 (Ij e hs)) fun b hb=>by
    have hb':b∈[z,TI,TO,i1,i2]:=by
     simp only [List.mem_cons,List.not_mem_nil,or_false] at hb ⊢
     rcases hb with h | h | h | h <;> simp [h]
    qV⟨fpn b hb',(hf b hb').2⟩
  have mv:∀ c o,c≠z->h'.get? c=some o->h2.get? c=some o:=fun c o n e=>(sb.2 c n).trans e
  qV⟨.ref _,_,I2,rfl,⟨xs,ys,_,_,_,ha,hb,ex,ey,nt,rfl,rfl⟩,⟨st2,mv _ _ D.TIz (a7 _ _ D.TIz D.TITO D.TIi1 D.TIi2 s2),⟨_,_,mv _ _ D.TOz a2⟩,o_ a3 fun o e=>mv _ _ D.i1z e,o_ a4 fun o e=>mv _ _ D.i2z e⟩,fpn⟩
 done:=by
  intro X hP hw hK hc i pins s σ H E I hf st hg
  subst hP hw hK
  x5⟨s1,s2,⟨p,q,s3⟩,s4,s5⟩:=st
  x5⟨xs,ys,ha,hb,lt⟩:=hg
  x5⟨_,it1,n1,rv1,le1,g1⟩:=I.lstM ha
  x5⟨_,it2,n2,rv2,le2,g2⟩:=I.lstM hb
  z5 wpAny_pyNext_zip_end (I.ok.hd hc) D s1 s2 s3 s4 s5 (xs:=it1.toArray) (ys:=it2.toArray) ⟨_,g1,rfl,n1,rfl⟩ ⟨_,g2,rfl,n2,rfl⟩ (by simp; om) fun h' k=>⟨rfl,I.turnedL (ch:=[z,TO,i1,i2]) (t':=s.toks) (fun b ob hb e=>?_) fun b hb=>?_⟩
  .simp only [List.mem_cons,List.not_mem_nil,or_false,not_or] at hb
   qV k b ob hb.1 hb.2.1 hb.2.2.1 hb.2.2.2 e
  .exact hf b (by
    simp only [List.mem_cons,List.not_mem_nil,or_false] at hb ⊢
    rcases hb with h | h | h | h <;> simp [h])
 self:=fun _ _ _ _ _ ⟨s1,_⟩ h=>wpAny_pyIter_zip s1 h
section
variable {X:Cx}
~!VR (n l1 l2:Nat) (h1:l1<n) (h2:l2<n):ZipApart (n+4) (n+2) (n+3) n (n+1) l1 l2:=by
 constructor <;> first | qV aV (by om) | qV Nat.ne_of_gt (by om)
~!aam (n b:Nat) (h:b=n+4\/b=n+2\/b=n+3\/b=n\/b=n+1):n <= b:=by om
~!boot_zip:bootBuiltins "zip" = some (.type "zip"):=by decide +kernel
def adx (ta:TA):TI:=fun σ H R=>ta σ H fun vs H1=>∃ a b xs ys,vs=[.ref a,.ref b]/\H1 a=some (.lst xs)/\H1 b=some (.lst ys)/\R (Itz a b) H1
~!Q9 {a b:Expr}{ta:TA}{elts:List Expr}{x1}{p pos tpos:Pos} (hg:Gl X "zip") (hm:X.mg "zip" = none) (ha:PA X [a,b] ta) (hs:starEach [a,b] X.env=[(false,eval a X.env),(false,eval b X.env)]:=by rfl) (hs2:starEach [b] X.env=[(false,eval b X.env)]:=by rfl) :
  PI X (.Tuple elts x1 tpos) (.Call (.Name "zip" p) [a,b] [] pos) (adx ta):=by
 intro pins s σ H R I h
 z5 Call_ (Al I hg hm boot_zip (PyProof.Rows.callWith_type1 (thn (ha pos pins s σ H _ I h) fun us s1 hP=>?_) (by rw [hs,hs2]) (by rw [hs2]; rfl)))
 x5⟨vs,H1,I1,r1,q1⟩:=hP
 x5⟨l1,l2,xs,ys,e,h1,h2,q⟩:=q1
 subst e
 x5⟨u,v,rfl,ru,rv⟩:=r1.two
 cases ru
 cases rv
 x5⟨_,it1,n1,rv1,le1,g1⟩:=I1.lstM h1
 x5⟨_,it2,n2,rv2,le2,g2⟩:=I1.lstM h2
 have z1:=aK g1
 have z2:=aK g2
 z5 call_zip_2 (xs:=it1.toArray) (ys:=it2.toArray) ⟨_,g1,rfl,n1,rfl⟩ ⟨_,g2,rfl,n2,rfl⟩ fun h' a1 a2 a3 a4 a5 a6 a7=>?_
 z5 wpAny_pyIter_zip a1 ?_
 z5⟨_,[s1.heap.objs.size+4,s1.heap.objs.size+2,s1.heap.objs.size+3,s1.heap.objs.size,s1.heap.objs.size+1],_,Itz l1 l2,H1,rfl,I1.kept (t':=s1.toks) fun b ob e=>a7 b ob e,WK _ _ _ _ _ l1 l2 (VR _ _ _ z1 z2),⟨a1,a2,⟨_,_,a3⟩,a4,a5⟩,fun b hb=>?_,q⟩
 have hb':s1.heap.objs.size <= b:=by
  simp only [List.mem_cons,List.not_mem_nil,or_false] at hb
  qV aam _ _ hb
 qV I1.fpOk hb' (I1.hok.fresh hb')
end
~!Fy {ta:TA}{te:TE}{gt:TG}{tc:TT}{n:Nat}{σ:L2.St}{H:Hp}{Q:VK} (h:ta σ H fun vs H1=>∃ a b xs ys,vs=[.ref a,.ref b]/\H1 a=some (.lst xs)/\H1 b=some (.lst ys)/\xs.length=ys.length/\xs.length <= 64/\∀ D,H1 D=none->∃ J:Nat->List V->Hp->Prop,J 0 [] (upd H1 D (.lst [])) /\
   (∀ k x y zs Hc t,xs[k]?=some x->ys[k]?=some y->J k zs Hc->zs.length <= k->Hc t=none->Hc a=some (.lst xs)->Hc b=some (.lst ys)->Bu n gt tc te (.ref t) σ (upd Hc t (.tup [x,y])) (fun v H2=>H2 D=some (.lst zs)/\H2 a=some (.lst xs)/\H2 b=some (.lst ys)/\J (k+1) (zs++[v]) (upd H2 D (.lst (zs++[v])))) fun H2=>H2 a=some (.lst xs)/\H2 b=some (.lst ys)/\J (k+1) zs H2) /\
   ∀ zs Hc,J xs.length zs Hc->zs.length <= xs.length->Q (.ref D) Hc):mF (adx (tMA ta)) n (tMG gt) (tMT tc) (tM te) σ H Q:=by
 z5⟨_,h,?_⟩
 rintro vs H1 ⟨a,b,xs,ys,rfl,hx,hy,hl,h64,rest⟩
 z5⟨a,b,xs,ys,rfl,hx,hy,fun D hD=>?_⟩
 x5⟨J,j0,step,fin⟩:=rest D hD
 have na:a≠D:=bL hx hD
 have nb:b≠D:=bL hy hD
 have z64:64 <= sizeLine:=by decide
 z5⟨fun k m zs Hc=>k <= xs.length/\m=xs.length - k/\zs.length <= k/\Hc a=some (.lst xs)/\Hc b=some (.lst ys)/\J k zs Hc,⟨_,bC _,rfl,bC _,(bM na).trans hx,(bM nb).trans hy,j0⟩,?_⟩
 rintro k m zs Hc ⟨hk,rfl,hz,ha',hb',j⟩
 by_cases e:k=xs.length
 .subst e
  qV .inl ⟨⟨xs,ys,ha',hb',.inl (aG _)⟩,fin zs Hc j hz⟩
 .have hlt:k<xs.length:=by om
  z5 .inr ⟨⟨xs,ys,ha',hb',hlt,by om⟩,?_⟩
  rintro v H'' ⟨xs',ys',x,y,t,e1,e2,e3,e4,e5,rfl,rfl⟩
  rw [ha'] at e1
  rw [hb'] at e2
  cases e1
  cases e2
  z5(step k x y zs Hc t e3 e4 j hz e5 ha' hb').weak ?_ ?_
  .rintro yv H2 ⟨z1,z2,z3,z4⟩
   z5⟨by om,z1,xs.length - (k+1),by om,by om,rfl,?_,(bM na).trans z2,(bM nb).trans z3,z4⟩
   rw [aB]; simp; om
  .rintro H2 ⟨z2,z3,z4⟩
   qV⟨xs.length - (k+1),by om,by om,rfl,by om,z2,z3,z4⟩
~!Vs {ta:TA}{g:TG}{tb:TS}{D:Ends}{σ:L2.St}{H:Hp} (h:ta σ H fun vs H1=>∃ a b xs ys,vs=[.ref a,.ref b]/\H1 a=some (.lst xs)/\H1 b=some (.lst ys)/\xs.length=ys.length/\∃ J:Nat->L2.St->Hp->Prop,J 0 σ H1 /\
   (∀ k x y σ' H' t,xs[k]?=some x->ys[k]?=some y->J k σ' H'->H' a=some (.lst xs)->H' b=some (.lst ys)->H' t=none->g (.ref t) σ' (upd H' t (.tup [x,y])) fun σ2 H2=>tb { D with nx:=fun σ3 H3=>H3 a=some (.lst xs)/\H3 b=some (.lst ys)/\J (k+1) σ3 H3,ct:=fun σ3 H3=>H3 a=some (.lst xs)/\H3 b=some (.lst ys)/\J (k+1) σ3 H3,bk:=D.nx } σ2 H2) /\
   ∀ σ' H',J xs.length σ' H'->H' a=some (.lst xs)->H' b=some (.lst ys)->D.nx σ' H'):MN (adx (tMA ta)) g tb D σ H:=by
 z5⟨_,h,?_⟩
 rintro vs H1 ⟨a,b,xs,ys,rfl,hx,hy,hl,J,j0,step,fin⟩
 z5⟨a,b,xs,ys,rfl,hx,hy,fun k m σ' H'=>k <= xs.length/\m=xs.length - k/\H' a=some (.lst xs)/\H' b=some (.lst ys)/\J k σ' H',⟨_,bC _,rfl,hx,hy,j0⟩,?_⟩
 rintro k m σ' H' ⟨hk,rfl,ha',hb',j⟩
 by_cases e:k=xs.length
 .subst e
  qV .inl ⟨⟨xs,ys,ha',hb',.inl (aG _)⟩,fin σ' H' j ha' hb'⟩
 .have hlt:k<xs.length:=by om
  z5 .inr ⟨⟨xs,ys,ha',hb',hlt,by om⟩,fun σ3 H3=>H3 a=some (.lst xs)/\H3 b=some (.lst ys)/\J (k+1) σ3 H3,fun σ3 H3 ⟨z1,z2,z3⟩=>⟨xs.length - (k+1),by om,by om,rfl,z1,z2,z3⟩,?_⟩
  rintro v H'' ⟨xs',ys',x,y,t,e1,e2,e3,e4,e5,rfl,rfl⟩
  rw [ha'] at e1
  rw [hb'] at e2
  cases e1
  cases e2
  qV step k x y σ' H' t e3 e4 j ha' hb' e5
section
variable {X:Cx}
def afT:List V->Hp->VK->Prop:=fun xs H Q=>∃ (l:Addr) (bs:List Bool),xs=[.ref l]/\H l=some (.lst (bs.map V.bl))/\Q (.bl (bs.any id)) H
~!sZ:∀ bs:List Bool,((List.range bs.length).any fun i=>(bs[i]?).getD true)=bs.any id
 | []=>rfl
 | b::bs=>by
  rw [List.length_cons,List.range_succ_eq_map,List.any_cons,List.any_map,List.any_cons]
  have:=sZ bs
  simp only [Function.comp_def,List.getElem?_cons_succ,List.getElem?_cons_zero,Option.getD_some,id] at this ⊢
  rw [this]
~!Bp (hc:X.calm=true):h_ X (.builtin "any") afT:=by
 intro pins s σ H xs us Q I r h
 x5⟨l,bs,rfl,hl,q⟩:=h
 x5⟨u,rfl,ru⟩:=r.one
 cases ru
 x5⟨its,rv,p⟩:=I.lstIs hl
 have hlt:l<s.heap.objs.size:=by x5⟨_,e,_⟩:=p; qV aK e
 z5 call_any_walk (wpAny_pyIter_list p ?_)
 z5⟨s.heap.objs.size,[s.heap.objs.size,l],[s.heap.objs.size],its.toArray.size,_,_,fun i=>(bs[i]?).getD true,rfl,Walks.list (A:=X.A.in1) (I.ok.hd hc) _ l (aV hlt) its.toArray,
  ⟨⟨_,bh _ rfl,rfl,rfl⟩,p.push _⟩,fun i v s' Q' E' hP hQ=>?_,fun h' tk hk=>?_⟩
 .obtain ⟨b,e,rfl⟩:=A_ rv i v (by simpa using hP)
  simp only [e,Option.getD_some] at hQ
  qV wpAny_truthy_bool hQ
 .have e:((List.range its.toArray.size).any fun i=>(bs[i]?).getD true)=bs.any id:=by
   rw [bw,<- rv.length,ao]; qV sZ bs
  z5⟨.bl (bs.any id),H,I.kept (t':=tk) fun b o q=>hk b o (fun hm=>?_) (aH _ q),?_,q⟩
  .rw [List.mem_singleton.mp hm] at q
   qV Nat.lt_irrefl _ (aK q)
  .rw [e]; rfl
end
def Ite (l:Addr):It:=⟨fun i H=>∃ xs,H l=some (.lst xs)/\i<xs.length,fun i H v H'=>∃ xs x t,H l=some (.lst xs)/\xs[i]?=some x/\H t=none/\v=.ref t/\H'=upd H t (.tup [.int i,x]),fun i H=>∃ xs,H l=some (.lst xs)/\xs.length <= i⟩
~!Vg {P:Program}{w:World}{K:Frag}{elts:List Expr}{x1}{pos:Pos} (e it l:Addr) (hne:e≠it) :
  Turn P w K (.Tuple elts x1 pos) (Ite l) [e,it] e (fun i h=>(∃ old,IsEnum h e it ((i:Nat):Int) old)/\h.IsListIter it l i) where
 mem:=by simp
 obj:=by
  rintro i h ⟨⟨old,s1⟩,⟨o4,s4,_,d4⟩⟩ b hb
  simp only [List.mem_cons,List.not_mem_nil,or_false] at hb
  rcases hb with rfl | rfl
  .exact ⟨_,s1,fun v e=>by cases e⟩
  .exact ⟨_,s4,fun v e=>by rw [d4] at e; cases e⟩
 keep:=fun i h h' ⟨⟨old,s1⟩,s4⟩ k=>⟨⟨old,k e (by simp) _ s1⟩,o_ s4 (k it (by simp))⟩
 item:=by
  intro X hP hw hK hc i pins s σ H E I hf st hg
  subst hP hw hK
  x5⟨⟨old,s1⟩,s4⟩:=st
  x5⟨xs,ha,lt1⟩:=hg
  x5⟨_,it1,n1,rv1,le1,g1⟩:=I.lstM ha
  have ex:xs[i]?=some xs[i]:=aj lt1
  x5⟨u,hu,ru⟩:=Lr rv1 ex
  z5 wpAny_pyNext_enum_item s1 s4 (items:=it1.toArray) ⟨_,g1,rfl,n1,rfl⟩ (x:=u) (by simpa using hu) hne fun h' a1 a3 a5 a6 a7=>⟨_,rfl,?_⟩
  z5 wpAny_letOwnedTupleGo_enum a1 fun h2 st2 sb=>?_
  have nt:H s.heap.objs.size=none:=I.fresh
  have I1:=I.laid (a:=s.heap.objs.size) (o:=.tup [.int i,xs[i]]) (h':=s.heap.push { cls:=.type "tuple",data:=.seq #[.int i s.toks,u] }) (t':=s.toks+1) (fun b q z=>aH _ z) (aG _)
   ⟨(by show 2 <= sizeLine; decide),[.int i s.toks,u],.cons ⟨_,rfl⟩ (.cons ru .nil),_,bh _ rfl,rfl,_,rfl⟩
  have nz:e≠s.heap.objs.size:=aV (aK s1)
  have n1':it≠s.heap.objs.size:=by x5⟨o,e,_⟩:=s4; qV aV (aK e)
  have fpn:∀ b∈[e,it],upd H s.heap.objs.size (.tup [.int i,xs[i]]) b=none:=by
   intro b hb
   have f0:=(hf b hb).1
   simp only [List.mem_cons,List.not_mem_nil,or_false] at hb
   rcases hb with rfl | rfl
   .exact (bM nz).trans f0
   .exact (bM n1').trans f0
  have I2:=I1.turnedL (ch:=[e,it]) (h':=h2) (t':=s.toks+1) (fun b ob hb z=>by
   simp only [List.mem_cons,List.not_mem_nil,or_false,not_or] at hb
   x5⟨b1,b3⟩:=hb
   z5(sb.2 b b1).trans ?_
   by_cases hs:b=s.heap.objs.size
   .subst hs
    have e2:=bh s.heap (o:={ cls:=.type "tuple",data:=.seq #[.int i s.toks,u] }) rfl
    have z:(s.heap.push { cls:=.type "tuple",data:=.seq #[.int i s.toks,u] }).get? s.heap.objs.size=some ob:=z
    rw [e2] at z
    cases z
    qV a5
   .exact a7 b _ b1 b3 (Ij z hs)) fun b hb=>⟨fpn b hb,(hf b hb).2⟩
  have mv:∀ c o,c≠e->h'.get? c=some o->h2.get? c=some o:=fun c o n z=>(sb.2 c n).trans z
  qV⟨.ref _,_,I2,rfl,⟨xs,_,_,ha,ex,nt,rfl,rfl⟩,⟨⟨_,by rw [Int.natCast_add]; qV st2⟩,o_ a3 fun o z=>mv _ _ (fun y=>hne y.symm) z⟩,fpn⟩
 done:=by
  intro X hP hw hK hc i pins s σ H E I hf st hg
  subst hP hw hK
  x5⟨⟨old,s1⟩,s4⟩:=st
  x5⟨xs,ha,lt⟩:=hg
  x5⟨_,it1,n1,rv1,le1,g1⟩:=I.lstM ha
  have hl:=rv1.length
  z5 wpAny_pyNext_enum_end (I.ok.hd hc) s1 s4 (items:=it1.toArray) ⟨_,g1,rfl,n1,rfl⟩ (by simp; om) fun h' k=>⟨rfl,I.turnedL (ch:=[e,it]) (t':=s.toks) (fun b ob hb z=>?_) hf⟩
  simp only [List.mem_cons,List.not_mem_nil,or_false,not_or] at hb
  qV k b ob hb.2 z
 self:=fun _ _ _ _ _ ⟨⟨_,s1⟩,_⟩ h=>wpAny_pyIter_enum s1 h
section
variable {X:Cx}
def acq (ta:TA):TI:=fun σ H R=>ta σ H fun vs H1=>∃ a xs,vs=[.ref a]/\H1 a=some (.lst xs)/\R (Ite a) H1
~!ab7 {a:Expr}{ta:TA}{elts:List Expr}{x1}{p pos tpos:Pos} (hg:Gl X "enumerate") (hm:X.mg "enumerate" = none) (ha:PA X [a] ta) (hs:starEach [a] X.env=[(false,eval a X.env)]:=by rfl) :
  PI X (.Tuple elts x1 tpos) (.Call (.Name "enumerate" p) [a] [] pos) (acq ta):=by
 intro pins s σ H R I h
 z5 Call_ (Al I hg hm boot_enumerate (PyProof.Rows.callWith_type1 (thn (ha pos pins s σ H _ I h) fun us s1 hP=>?_) (by rw [hs]; rfl) (by rfl)))
 x5⟨vs,H1,I1,r1,q1⟩:=hP
 x5⟨l1,xs,e,h1,q⟩:=q1
 subst e
 x5⟨u,rfl,ru⟩:=r1.one
 cases ru
 x5⟨_,it1,n1,rv1,le1,g1⟩:=I1.lstM h1
 z5 call_enumerate_list (items:=it1.toArray) ⟨_,g1,rfl,n1,rfl⟩ fun h' a1 a2 a3 a7=>?_
 z5 wpAny_pyIter_enum a1 ?_
 z5⟨_,[s1.heap.objs.size+1,s1.heap.objs.size],_,Ite l1,H1,rfl,I1.kept (t':=s1.toks) fun b ob e=>a7 b ob e,Vg _ _ l1 (Nat.succ_ne_self _),⟨⟨_,a1⟩,a2⟩,fun b hb=>?_,q⟩
 have hb':s1.heap.objs.size <= b:=by
  simp only [List.mem_cons,List.not_mem_nil,or_false] at hb
  rcases hb with z | z
  .rw [z]; qV Nat.le_succ _
  .rw [z]; qV aG _
 qV I1.fpOk hb' (I1.hok.fresh hb')
end
~!QK {ta:TA}{g:TG}{tb:TS}{D:Ends}{σ:L2.St}{H:Hp} (h:ta σ H fun vs H1=>∃ a xs,vs=[.ref a]/\H1 a=some (.lst xs)/\∃ J:Nat->L2.St->Hp->Prop,J 0 σ H1 /\
   (∀ (k:Nat) x σ' H' t,xs[k]?=some x->J k σ' H'->H' a=some (.lst xs)->H' t=none->g (.ref t) σ' (upd H' t (.tup [.int k,x])) fun σ2 H2=>tb { D with nx:=fun σ3 H3=>H3 a=some (.lst xs)/\J (k+1) σ3 H3,ct:=fun σ3 H3=>H3 a=some (.lst xs)/\J (k+1) σ3 H3,bk:=D.nx } σ2 H2) /\
   ∀ σ' H',J xs.length σ' H'->H' a=some (.lst xs)->D.nx σ' H'):MN (acq (tMA ta)) g tb D σ H:=by
 z5⟨_,h,?_⟩
 rintro vs H1 ⟨a,xs,rfl,hx,J,j0,step,fin⟩
 z5⟨a,xs,rfl,hx,fun k m σ' H'=>k <= xs.length/\m=xs.length - k/\H' a=some (.lst xs)/\J k σ' H',⟨_,bC _,rfl,hx,j0⟩,?_⟩
 rintro k m σ' H' ⟨hk,rfl,ha',j⟩
 by_cases e:k=xs.length
 .subst e
  qV .inl ⟨⟨xs,ha',aG _⟩,fin σ' H' j ha'⟩
 .have hlt:k<xs.length:=by om
  z5 .inr ⟨⟨xs,ha',hlt⟩,fun σ3 H3=>H3 a=some (.lst xs)/\J (k+1) σ3 H3,fun σ3 H3 ⟨z1,z3⟩=>⟨xs.length - (k+1),by om,by om,rfl,z1,z3⟩,?_⟩
  rintro v H'' ⟨xs',x,t,e1,e3,e5,rfl,rfl⟩
  rw [ha'] at e1
  cases e1
  qV step k x σ' H' t e3 j ha' e5
section
variable {X:Cx}
def afz:List V->Hp->VK->Prop:=fun xs H Q=>∃ p kvs,xs=[.ref p]/\H p=some (.dK kvs)/\Q (.int kvs.length) H
~!Ie:h_ X (.builtin "len") afz:=by
 intro pins s σ H xs us Q I r h
 x5⟨p,kvs,rfl,hq,q⟩:=h
 x5⟨u,rfl,rx⟩:=vals1 r
 cases rx
 x5⟨z,y,vs,kv,d⟩:=(show dU X.prog X.w H s.heap p (.dK kvs) from I.hok p _ hq)
 have hl:=uq
 have hlen:kvs.length=vs.length:=kv.length
 qV call_len_dict y d (by om) ⟨.int kvs.length,H,I.tok _,⟨_,by rw [hlen]⟩,q⟩
~!aaf {e:Expr}{ta:TE}{f:Str}{pos:Pos}{K':Frag} (hK:X.K=K') (he:PE X e ta) (hb:attributeBase e f X.env (eval e X.env)=eval e X.env):PE X (.Attribute e f pos) (W3 K' ta f):=hK ▸ ug he hb
~!R7 (c:Nat):∀ (n:Nat) (acc:Array Nat),((List.replicate n #[c]).foldl (· ++ ·) acc).toList=acc.toList++List.replicate n c
 | 0,acc=>by simp
 | n+1,acc=>by
  rw [List.replicate_succ,List.foldl_cons,R7 c n,Array.toList_append,List.append_assoc]
  rfl
def acr:R2:=fun x y H Q=>∃ c n,x=.str ⟨#[c]⟩/\y=.int n/\1 <= n/\n <= 1000/\∀ z:Str,z.cps.toList=List.replicate n.toNat c->Q (.str z) H
~!abG:OpR X (binaryOp .Mult) acr:=by
 intro pins s σ H x y v u Q I rx ry h
 x5⟨c,n,rfl,rfl,h0,h1,q⟩:=h
 x5⟨t,rfl⟩:=rx
 x5⟨t',rfl⟩:=ry
 have hi:(⟨#[c]⟩ : Str).length=1:=rfl
 have made:∀ z:Str,z.cps.toList=List.replicate n.toNat c->(Made.str z).post (EP X pins σ Q) s:=fun z hz=>⟨by
  have:z.length=n.toNat:=by
   show z.cps.size=_
   rw [<- Array.length_toList,hz,aP]
  qV aN (show z.length <= 1001 by om) (by decide),.str z,H,I.tok _,⟨_,rfl⟩,q z hz⟩
 z5 PySem.P.mul_str ?_ (fun _ _=>?_) (fun _ _=>?_) ?_
 .rw [decide_eq_false (by om),decide_eq_false (by om)]; rfl
 .rw [hi]
  have:1 <= (2 ^ 63 - 1:Int) / n:=Int.le_ediv_of_mul_le (by om) (by om)
  om
 .rw [hi]
  unfold Builtin.Str.tooLong
  qV decide_eq_false (by
   have:n.toNat <= 1000:=by om
   have e:1000 <= sizeLine:=by decide
   om)
 .split
  .om
  .split
   .rename_i hc
    rw [hi] at hc
    have e:n.toNat=1:=by
     simp at hc
     om
    z5⟨.str ⟨#[c]⟩,H,I,⟨t,rfl⟩,q _ ?_⟩
    rw [e]; rfl
   .refine made _ ?_
    show ((List.replicate n.toNat #[c]).foldl (· ++ ·) #[]).toList=_
    rw [R7]; rfl
~!OkI.wild {P:Program}{w:World}{K:Frag}{mg:Str->Option Value}{base:Heap}{k:Nat}{f:Addr}{ps:List Str}{sp:Sp} (h:OkI P w K mg base CX0 k f ps sp):OkI P w K mg base (CXO P w) k f ps sp:=by x5⟨fd,a,b⟩:=h; qV⟨fd,a.wild,b⟩
end
section
variable {X:Cx}{p pos:Pos}{e:Expr}{es:List Expr}{t:TA}{tv:TE}{x:Str}{k:Nat}{ps:List Str}{sp:Sp}{f:Addr}
def ad1 (f:Addr) (sp:Sp) (tv:TE) (t:TA):TE:=fun σ H Q=>tv σ H fun v H0=>v=.ref f/\t σ H0 fun vs H1=>sp vs H1 Q E0
end
section
variable {prog:Program}{w:World}{A:Around}{E:Value->Shared->Prop}{h:Heap}{g:Array GenState}{d:Drawn}{t:Nat}{os:OsState}{nm q:Str}{C N:Addr}{bs bm bmB:List Value}{hdct:Bool}{sn:List Str}{sub:List Value}{ab:Bool}{col:Option Bool}{dd:Option Addr}{k0 k1 k2 k3 k5:Option Value}{B newId initId:String}
abbrev Jc (h:Heap) (C:Addr) (us:List Value):Heap:=(h.push { cls:=.type "tuple",data:=.seq us.toArray }).push { cls:=.ref C,data:=.fields #[.ref h.objs.size,.none,.none,.none,.bool false,.none] }
~!Bx {us:List Value} (b:Addr) (o:Obj) (e:h.get? b=some o):(Jc h C us).get? b=some o:=aH _ (aH _ e)
~!Gv (F:ExcBaseFacts B newId initId bmB) (T:OwnTail h bmB bm) {mN:Str->Option Value}{us:List Value}{fI:Addr}{oI:Obj}{Q:Fin->Shared->Prop} (hC:h.get? C=some (excClassObj nm q C N bs bm hdct sn sub ab col dd k0 k1 k2 k3 k5 newId)) (hn:h.Ns N mN) (hi:mN "__init__" = some (.ref fI)) (hf:h.get? fI=some oI) (hc:oI.cls=.type "function") (hl:us.length <= sizeLine)
  (hq:wpAny (model prog w) A (call (.ref fI) (.ref (h.objs.size+1)::us)) (fun r s'=>r=.none/\Q (.done (.ret (.ref (h.objs.size+1)))) s') E ⟨Jc h C us,g,d,t,os⟩):wpAny (model prog w) A (Builtin.«type.__call__» ⟨.ref C::us,[]⟩) Q E ⟨h,g,d,t,os⟩:=by
 have K:=Bx (h:=h) (C:=C) (us:=us)
 have C1:=K _ _ hC
 have T1:=T.keeps K
 have at_:(Jc h C us).get? (h.objs.size+1)=some { cls:=.ref C,data:=.fields #[.ref h.objs.size,.none,.none,.none,.bool false,.none] }:=by heap_get
 have isC:(Value.ref C::bm).contains (.ref C)=true:=by simp
 repeat (first | with_reducible z5 wpAny_loadPart_at hC ?_ | with_reducible z5 wpAny_madeBy_exc hC ?_ | wp_step)
 z5 codeAny_call_builtin_code (Code.quiet_builtin _ F.quiet) (wpAny_check_new_subT F T hC (codeAny_exc_new_subT F T hC ?_ hl))
 show wpAny _ _ _ _ _ _
 unfold isInstance
 repeat (first | with_reducible z5 wpAny_loadPart_at at_ ?_ | (with_reducible z5 wpAny_isSubtype_exc C1 ?_; rw [isC]) | wp_step)
 show wpAny _ _ (typeLookup (.ref C) _) _ _ _
 z5 wpAny_typeLookup_tail C1 (hn.keeps K) T1 F.mroIs F.init.lookup ?_
 rw [hi]
 z5 wpAny_holding (wpAny_bind ?_)
 unfold bindSpecial
 z5 wpAny_bind (wpAny_typeOf (T := "function") ⟨_,K _ _ hf,hc⟩ ?_)
 rw [if_pos (by decide)]
 z5 wpAny_pure (wpAny_bind (wpAny_mono hq (fun r s' hP=>?_) fun _ _ x=>x))
 x5⟨e,z⟩:=hP
 subst e
 wp_walk
 qV z
~!X6 (F:ExcBaseFacts B newId initId bmB) (T:OwnTail h bmB bm) {mN:Str->Option Value}{us:List Value}{fI:Addr}{oI:Obj}{Q:Value->Shared->Prop} (hC:h.get? C=some (excClassObj nm q C N bs bm hdct sn sub ab col dd k0 k1 k2 k3 k5 newId)) (hn:h.Ns N mN) (hi:mN "__init__" = some (.ref fI)) (hf:h.get? fI=some oI) (hc:oI.cls=.type "function") (hl:us.length <= sizeLine)
  (hq:wpAny (model prog w) (A.under (.builtin "type.__call__" ⟨.ref C::us,[]⟩)) (call (.ref fI) (.ref (h.objs.size+1)::us)) (fun r s'=>r=.none/\Q (.ref (h.objs.size+1)) s') E ⟨Jc h C us,g,d,t,os⟩):wpAny (model prog w) A (call (.ref C) us) Q E ⟨h,g,d,t,os⟩:=by
 have a1:=tc_lookup
 have a2:=tc_bind (.ref C)
 have a3:(⟨h,g,d,t,os⟩ : Shared).TypeIs (.ref C) "type" := ⟨_,hC,rfl⟩
 z5 wpAny_call (codeAny_of_tree ?_)
 show wpAny _ _ (callAny (.ref C) _) _ _ _
 repeat (any_goals (first | assumption | with_reducible z5 wpAny_loadPart_at hC ?_ | wp_step))
 qV⟨rfl,codeAny_call_builtin_at (Code.quiet_builtin _ (by decide +kernel)) entry_typeCall (wpAny_check_type_call_sub hC (Gv F T hC hn hi hf hc hl hq))⟩
end
def Ma:List Value->Bool
 | .ref _::l=>Ma l
 | l=>l == bmV
~!Ri {self:Value}{l:List Value} (h:Ma l=true):refuseLoop self "__setattr__" l=pure ():=by
 induction l with
 | nil=>cases h
 | cons x l ih =>
  cases x with
  | ref C=>rw [refuseLoop_ref]; qV ih h
  | type n =>
   have e:Value.type n::l=bmV:=beq_iff_eq.mp h
   rw [e]
   qV PySem.F.store_ValueError.passes self
  | _=>qV absurd (beq_iff_eq.mp h) (by intro z; cases z)
structure Zr (K:Frag) (C:Addr):Prop where
 cd:∃ cd,PySem.W.clsIn K C=some cd/\cd.hasDict=true/\Ma cd.mro=true
 sa:PySem.W.findIn K (.ref C) "__setattr__" = some (some (.builtin "object.__setattr__"))
 mo:PySem.W.mroIn K C (.type "object")=some true
section
variable {prog:Program}{w:World}{A:Around}{E:Value->Shared->Prop}{K:Frag}{s:Shared}{x C:Addr}{ox:Obj}{f:Str}{v:Value}{vs:Array Value}
~!aaO {Q:Unit->Shared->Prop} (X:K.In s.heap) (S:Zr K C) (n:cI K C f) (hx:s.heap.get? x=some ox) (hc:ox.cls=.ref C) (hd:ox.dict=none) (hv:ox.data=.fields vs)
  (hq:∀ h' t',h'.Ns1 s.heap.objs.size (fun y=>if y=f then some v else none)->h'.get? x=some { ox with dict:=some s.heap.objs.size }->(∀ b,b≠x->b≠s.heap.objs.size->h'.get? b=s.heap.get? b)->Q () ⟨h',s.gens,s.drawn,t',s.os⟩):wpAny (model prog w) A (setAttr (.ref x) f v) Q E s:=by
 x5⟨cd,hcd,hdi,hm⟩:=S.cd
 have J:PySem.W.InstAt s.heap x ox C none:=⟨hx,hc,by unfold PySem.W.notCls; rw [hv],by rw [hd]; trivial⟩
 have SF:=PySem.F.store_object
 z5 PySem.W.set_plain X J S.sa ?_
 have sub:PySem.W.Looks (model prog w) s.heap (isInstance (.ref x) (.type "object")) true:=J.type.andThen (PySem.W.looks_mroIn X S.mo)
 have lm:PySem.W.Looks (model prog w) s.heap (mroOf (.ref C)) cd.mro:=(PySem.W.looks_clsIn X hcd).andThen .now
 generalize hs1:({ s with toks:=s.toks+1 } : Shared)=s1
 have e1:s1.heap=s.heap:=by rw [<- hs1]
 rw [<- e1] at sub lm X J
 z5 codeAny_call_builtin SF.slot.plain SF.entry (@PySem.W.check_slot (model prog w) _ _ s1 "object.__setattr__" "object" "__setattr__" (.ref x) [.str f s.toks,v] [] _ SF.kind SF.split sub (SF.args (.ref x) (.str f s.toks) v) ?_)
 rw [PySem.W.osa_eq,refuse_eq]
 z5 wpAny_bind (wpAny_bind (J.type.here (wpAny_bind (lm.here ?_))))
 rw [Ri hm]
 z5 wpAny_pure (wpAny_bind (J.type.here (wpAny_bind ((PySem.W.looks_findIn X n).here (wpAny_bind (wpAny_pure ?_))))))
 have hx1:s1.heap.get? x=some ox:=by rw [e1]; qV hx
 x5⟨oc,odi,oda,osl⟩:=ox
 dsimp only at hc hd hv
 subst hc hd hv
 z5 wpAny_bind (wpAny_pure (wpAny_bind (wpAny_bind (wpAny_loadPart hx1 (wpAny_bind ((PySem.W.looks_clsIn X hcd).here ?_))))))
 rw [hdi,if_neg (by simp),if_neg (by simp [typeHasDict])]
 have e0:=hs1
 x5⟨hp,gg,dr,tk,os⟩:=s1
 dsimp only at hx1 e1 ⊢
 cases e0
 have hxs:x≠s.heap.objs.size:=aV (aK hx)
 z5 wpAny_bind (wpAny_alloc' (wpAny_bind (wpAny_update' (aH _ hx) (wpAny_pure ?_))))
 generalize hu:(s.heap.push { cls:=.type "dict",data:=.dict #[] }).update x _=hU
 have q1:hU.get? s.heap.objs.size=some { cls:=.type "dict",data:=.dict #[] }:=by
  rw [<- hu]; qV(Heap.get?_update_ne _ _ _ _ hxs.symm).trans (Heap.get?_push_at rfl rfl)
 have q2:hU.get? x=some { cls:=.ref C,dict:=some s.heap.objs.size,data:=.fields vs,slots:=osl }:=by
  rw [<- hu]; qV Heap.get?_update_self _ (aH _ hx) rfl
 have q3:∀ b,b≠x->b≠s.heap.objs.size->hU.get? b=s.heap.get? b:=fun b n1 n2=>by
  rw [<- hu]; qV(Heap.get?_update_ne _ _ _ _ n1).trans (Heap.get?_push_ne _ _ _ n2)
 dsimp only
 unfold Builtin.ObjectAttr.storeInDict Builtin.ObjectAttr.newKeyGuard
 z5 wpAny_bind (wpAny_pure (wpAny_bind (wpAny_nsSet1 (Heap.Ns1.of_empty ⟨_,#[],_,q1,rfl,fun _ z=>absurd z (by simp),fun _=>rfl⟩) fun h' hn hs=>?_)))
 x5⟨oD,esD,epD,hoD,hdD,hcD⟩:=hn.count (Within.cons f v Within.nil)
 z5 wpAny_bind (wpAny_lookBehind hoD (by rw [hdD]; qV pastItsLine_dict (aN hcD (by rw [List.length_cons,List.length_nil,sizeLine_eq]; om))) ?_)
 wp_walk
 qV hq h' _ hn ((hs.2 x hxs).trans q2) fun b n1 n2=>(hs.2 b n2).trans (q3 b n1 n2)
end
structure O2 (K:Frag) (C HE fI:Addr):Prop where
 ex:∃ nm qn N bs sn sub ab col dd k0 k1 k2 k3 k5,K.lookup C=some (excClassObj nm qn C N bs (.ref HE::bmV) true sn sub ab col dd k0 k1 k2 k3 k5 "ValueError.__new__")/\PySem.W.nsOkIn K N=true/\PySem.W.nsIn K N "__init__" = some (some (.ref fI))
 he:Mi K HE
 fn:∃ o,K.lookup fI=some o/\o.cls=.type "function"
 kp:PySem.W.keepIn K (.ref C)=true
~!abf {K:Frag}{h:Heap}{N:Addr}{m:Str->Option Value}{n:Str}{v:Value} (X:K.In h) (G:h.Ns N m) (e:PySem.W.nsIn K N n=some (some v)):m n=some v:=by
 x5⟨o,es,ep,ho,hd,_,hf⟩:=G
 rw [<- hf]
 unfold PySem.W.nsIn at e
 split at e
 .rename_i q
  cases (X _ _ q).symm.trans ho
  cases hd
  unfold nsFind findBy
  rw [<- Array.find?_toList]
  split at e
  .rename_i en he
   cases e
   rw [he]; rfl
  .split at e <;> cases e
 .cases e
~!O2.obj {K:Frag}{h:Heap}{C HE fI:Addr} (q:O2 K C HE fI) (X:K.In h):∃ nm qn N bs sn sub ab col dd k0 k1 k2 k3 k5 mN o,h.get? C=some (excClassObj nm qn C N bs (.ref HE::bmV) true sn sub ab col dd k0 k1 k2 k3 k5 "ValueError.__new__") /\
  h.Ns N mN/\mN "__init__" = some (.ref fI)/\h.get? fI=some o/\o.cls=.type "function" /\ OwnTail h bmV (.ref HE::bmV):=by
 x5⟨nm,qn,N,bs,sn,sub,ab,col,dd,k0,k1,k2,k3,k5,l,a,b⟩:=q.ex
 x5⟨o,lo,ho⟩:=q.fn
 x5⟨bm,N',nm',qn',bs',hd',sn',sub',ab',col',dd',k0',k1',k2',k3',k5',mN',hC,hN,hi,T⟩:=SN X q.he
 qV⟨nm,qn,N,bs,sn,sub,ab,col,dd,k0,k1,k2,k3,k5,_,o,X _ _ l,.of_isNs (PySem.W.isNs_of_in X a),abf X (.of_isNs (PySem.W.isNs_of_in X a)) b,X _ _ lo,ho,.own hC hN hi .base⟩
abbrev O8 (C t:Addr) (d:Option Addr):Obj:={ cls:=.ref C,dict:=d,data:=.fields #[.ref t,.none,.none,.none,.bool false,.none] }
def XN (a C:Addr) (d:Option Addr):HO:=.ext fun h=>∃ t,h.get? a=some (O8 C t d)
~!XH {P:Program}{w:World}{H:Hp}{h:Heap}{a C t:Addr}{d:Option Addr} (e:h.get? a=some (O8 C t d)):dU P w H h a (XN a C d):=⟨⟨t,e⟩,⟨_,e⟩,fun _ _ ⟨u,z⟩ k=>⟨u,k _ z⟩⟩
~!TV {P:Program}{w:World}{H:Hp}{h:Heap}{a C:Addr}{d:Option Addr} (e:dU P w H h a (XN a C d)):∃ t,h.get? a=some (O8 C t d):=e.1
~!acS {H:Hp}{a:Addr}{o:HO} (e:H a=some o):upd H a o=H:=by
 funext b; unfold upd; split
 .rename_i z; rw [z,e]
 .rfl
structure YX (K:Frag) (B:Addr):Prop where
 ga:PySem.W.specialIn K (.ref B) "__getattribute__" = some (some (.builtin "type.__getattribute__"))
 rd:PySem.W.readsIn K B (.type "type")=true
 at_:PySem.W.findCls K (.ref B) (.type "type") "__init__" = some (.val (.builtin "ValueError.__init__"))
section
variable {X:Cx}{B C HE fI:Addr}{x:Str}{p pos apos:Pos}{e:Expr}{es:List Expr}{t:TA}{pins:List (Addr×Obj)}{σ:L2.St}{H:Hp}{s:Shared}
~!init_exc {A:Around}{E:Value->Shared->Prop}{Q:Value->Shared->Prop}{a:Addr}{us:List Value} (I:Inv X pins σ H s) (q:O2 X.K C HE fI) (ha:H a=some (XN a C none)) (hl:us.length <= sizeLine)
  (h:∀ s',Inv X pins σ H s'->Q .none s'):wpAny (model X.prog X.w) A (call (.builtin "ValueError.__init__") (.ref a::us)) Q E s:=by
 x5⟨nm,qn,N,bs,sn,sub,ab,col,dd,k0,k1,k2,k3,k5,mN,o,hC,hN,hi,hf,hfc,T⟩:=q.obj I.kIn
 x5⟨u,hx⟩:=TV (I.hok a _ ha)
 have F:=PySem.F.excBase_ValueError
 x5⟨hp,gs,dr,tk,os⟩:=s
 z5 wpAny_call (codeAny_call_builtin F.init.plain F.initEntry (wpAny_check_init_subT F T hC hx rfl ?_))
 wp_walk
 z5 h _ ?_
 have e1:(hp.push { cls:=.type "tuple",data:=.seq us.toArray }).get? a=some (O8 C u none):=aH _ hx
 have J:=I.write (x:=a) (e:=a) (o:=XN a C none) (t':=tk) (h':=(hp.push { cls:=.type "tuple",data:=.seq us.toArray }).update a (Obj.mapFields fun x=>x.setIfInBounds 0 (Value.ref hp.objs.size))) (by rw [ha]; trivial) (.inl rfl)
  (fun b v n z=>(Heap.get?_update_other _ _ (Ne.symm n)).trans (aH _ z)) ⟨_,Heap.get?_update_self _ e1 rfl⟩ (XH (t:=hp.objs.size) (Heap.get?_update_self _ e1 rfl))
 rwa [acS ha] at J
def adH (C:Addr) (t:TA):TE:=fun σ H Q=>t σ H fun vs H1=>∃ a ws,vs=.ref a::ws/\H1 a=some (XN a C none)/\ws.length <= sizeLine/\Q .non H1
~!Zb {pl:Sem Bool} (c:YX X.K B) (q:O2 X.K C HE fI) (hg:Gl X x) (hm:X.mg x=some (.ref B)) (ha:PA X (e::es) t) (hdb:(x == ("__debug__" : Str))=false:=by decide)
  (hst:starEach (e::es) X.env=(false,eval e X.env)::starEach es X.env:=by rfl) (hpl:(backTo pos (starEach es X.env)).any (·.1)=false:=by rfl)
  (ht:eval (.Call (.Attribute (.Name x p) "__init__" apos) (e::es) [] pos) X.env=(do
   let ov <- eval (.Name x p) X.env
   standAt apos.atName
   let (f,first) <- holding [ov] (getMethod ov "__init__" pl)
   callWith pos f first (backTo pos (starEach (e::es) X.env)) (backToKw pos (keywordEach [] X.env))):=by rfl) :
  PE X (.Call (.Attribute (.Name x p) "__init__" apos) (e::es) [] pos) (adH C t):=by
 intro pins s σ H Q I h
 z5 PySem.W.methodCall_KW (pl:=pl) (lY I hg hm (PySem.W.method_cls I.kIn c.ga (PySem.W.cls_value I.kIn c.rd c.at_ (by decide) ?_)) hdb) ht
 show wpAny _ _ (callWith pos (.builtin "ValueError.__init__") [] (backTo pos (starEach (e::es) X.env)) []) _ _ _
 have h2:=ha pos pins _ σ H _ (I.tok (s.toks+1)) h
 rw [hst] at h2 ⊢
 z5 PySem.W.callWith_of (P:=fun _=>True) (by show ((false || (backTo pos (starEach es X.env)).any (·.1)) || false)=false; rw [hpl]; rfl) (fun _ _=>⟨.machine,.inr (.inl rfl),.now⟩) (Calls.evalArgs_plain (thn h2 fun us s2 ⟨vs,H2,I2,r,a,ws,e1,e2,e3,e4⟩=>⟨trivial,?_⟩))
 subst e1
 cases r with
 | cons r1 r2 =>
  cases r1
  qV init_exc I2 q e2 (by rw [<- r2.length]; qV e3) fun s' J=>⟨.non,H2,J,rfl,e4⟩
end
section
variable {X:Cx}{pins:List (Addr×Obj)}{σ:L2.St}{H:Hp}{s:Shared}{a C HE fI:Addr}{f:Str}{v:V}{A:Around}{E:Value->Shared->Prop}
~!U6 {u:Value}{Q:Unit->Shared->Prop} (I:Inv X pins σ H s) (e:H a=some (XN a C none)) (c:Zr X.K C) (n:cI X.K C f) (r:RelV v u)
  (h:∀ d s',H d=none->d≠a->Inv X pins σ (upd (upd H a (XN a C (some d))) d (.xd [(f,v)])) s'->Q () s'):wpAny (model X.prog X.w) A (setAttr (.ref a) f u) Q E s:=by
 x5⟨t,ha⟩:=TV (I.hok a _ e)
 have nd:H s.heap.objs.size=none:=I.hok.fresh (aG _)
 have na:s.heap.objs.size≠a:=(aV (aK ha)).symm
 z5 aaO I.kIn c n ha rfl rfl rfl fun h' t' hn hx ho=>h s.heap.objs.size _ nd na ?_
 have J:=I.write (x:=a) (e:=a) (o:=XN a C (some s.heap.objs.size)) (t':=t') (h':=h') (by rw [e]; trivial) (.inl rfl) (fun b w z q=>(ho b z (aV (aK q))).trans q) ⟨_,hx⟩ (XH hx)
 z5 J.track ((bM na).trans nd) (Heap.get?_none_of_le I.sz) (Nat.ne_of_gt I.lt) (fun x c q z=>?_) (fun p q z=>?_) ⟨_,hn,fun g=>?_⟩
 .obtain ⟨w,o,q',_⟩:=I.cell x c q
  rw [z] at q'
  qV Nat.lt_irrefl _ (aK q')
 .have q':=(I.pin p q).1
  rw [z] at q'
  qV Nat.lt_irrefl _ (aK q')
 .by_cases z:g=f
  .subst z
   simp [List.lookup]
   qV r
  .have:(g == f)=false:=by simp [z]
   simp [List.lookup,this,z]
   trivial
def af8 (K:Frag) (ta tv:TE) (f:Str):TS:=fun D σ H=>tv σ H fun y H1=>ta σ H1 fun x H2=>∃ a C,x=.ref a/\H2 a=some (XN a C none)/\Zr K C/\cI K C f/\∀ d,H2 d=none->d≠a->D.nx σ (upd (upd H2 a (XN a C (some d))) d (.xd [(f,y)]))
~!aaI {o value:Expr}{ta tv:TE}{pos pos':Pos} (ha:PE X o ta) (hv:PE X value tv) (hs:swapsWith value (some (.Attribute o f pos')) pos.line X.env=pure false):PS X (.Assign [.Attribute o f pos'] value pos) (af8 X.K ta tv f):=by
 intro pins s σ H D I h
 z5 plainObj_wpAny_Assign_Attribute (thn (hv pins s σ H _ I h) fun u s1 ⟨y,H1,I1,ry,q⟩=>thn (ha pins s1 σ H1 _ I1 q) fun ov s2 hP=>?_) hs
 x5⟨x,H2,I2,rx,a,C,ex,ea,c,n,q2⟩:=hP
 subst ex
 obtain rfl:ov=Value.ref a:=rx
 qV U6 I2 ea c n ry fun d s3 h1 h2 I3=>⟨σ,_,I3,q2 d h1 h2⟩
~!Inv.madeE {us:List Value} (I:Inv X pins σ H s):Inv X pins σ (upd H (s.heap.objs.size+1) (XN (s.heap.objs.size+1) C none)) { s with heap:=Jc s.heap C us } :=
 I.laid (a:=s.heap.objs.size+1) (o:=XN (s.heap.objs.size+1) C none) (h':=Jc s.heap C us) (t':=s.toks) Bx (Nat.le_succ _) (XH (t:=s.heap.objs.size) (by heap_get))
~!VH {k:Nat}{fd:FuncData}{ps:List Str}{sp:Sp}{us:List Value}{vs:List V}{Q:Addr->Hp->Prop} (q:O2 X.K C HE fI) (F:cD X.prog X.w X.K X.mg X.base CX0 k fI fd ps sp) (hr:fU (k+1) X.A) (hb:Binds X.K fd ps [])
  (I:Inv X pins σ H s) (r:Vals vs us) (hl:us.length <= sizeLine) (h:∀ x,H x=none->sp (.ref x::vs) (upd H x (XN x C none)) (fun v H2=>v=.non/\Q x H2) E0) :
  wpAny (model X.prog X.w) X.A (call (.ref C) us) (fun u s'=>∃ a H',u=.ref a/\X.s₀.heap.objs.size <= a/\Inv X pins σ H' s'/\Q a H') X.xe s:=by
 x5⟨nm,qn,N,bs,sn,sub,ab,col,dd,k0,k1,k2,k3,k5,mN,o,hC,hN,hi,hf,hfc,T⟩:=q.obj I.kIn
 have hq:=h (s.heap.objs.size+1) (I.hok.fresh (Nat.le_succ _))
 have I2:=I.madeE (C:=C) (us:=us)
 have r2:Vals (V.ref (s.heap.objs.size+1)::vs) (Value.ref (s.heap.objs.size+1)::us):=.cons rfl r
 have hl2:(Value.ref (s.heap.objs.size+1)::us++[]).length=ps.length:=by
  rw [List.append_nil,<- r2.length]
  qV F.len _ _ _ _ hq
 have hb':=hb _ (Value.ref (s.heap.objs.size+1)::us) I2.kIn hl2
 rw [List.append_nil] at hb'
 have sz:=I.sz
 x5⟨hp,g,d,t,os⟩:=s
 z5 X6 PySem.F.excBase_ValueError T hC hN hi hf hfc hl (wpAny_call (codeAny_mono (F.run _ X.stack _ _ ⟨Value.ref (hp.objs.size+1)::us,[]⟩ _ _ _ E0 (hr.make C us []) (I2.env0.make C us []) hb' r2 hq) fun r s' hq'=>?_))
 cases r with
 | error e=>qV Nz pins σ _ _ e s' I2 hq'
 | ok fl =>
  cases fl with
  | ret u =>
   x5⟨v,H',I3,rv,ev,q3⟩:=I2.after hq'
   subst ev
   qV⟨rv,hp.objs.size+1,H',rfl,Nat.le_succ_of_le sz,I3,q3⟩
  | next=>qV False.elim hq'
  | brk=>qV False.elim hq'
  | cont=>qV False.elim hq'
end
def out (H:Hp) (a:Addr):Hp:=fun b=>if b=a then none else H b
~!O1 {H:Hp}{a:Addr} : out H a a=none:=by unfold out; rw [if_pos rfl]
~!tW {H:Hp}{a b:Addr} (n:b≠a):out H a b=H b:=by unfold out; rw [if_neg n]
~!Pj {H:Hp}{a b:Addr}{o:HO} (e:out H a b=some o):b≠a/\H b=some o:=by
 by_cases z:b=a
 .subst z; rw [O1] at e; cases e
 .exact ⟨z,by rw [tW z] at e; qV e⟩
section
variable {X:Cx}{pins:List (Addr×Obj)}{σ:L2.St}{H:Hp}{s:Shared}{a C:Addr}{B h':Heap}{d:Option Addr}
~!Inv.flyMade (I:Inv X pins σ H s) (hx:X.ex=[]) (e:H a=some (XN a C d)) (sz:X.s₀.heap.objs.size <= a) (hB:B=PySem.W.hideAll (s.heap.hide a) (frs X.stack)) (fl:sU B X.outer a (.ref C) d .none h') (up:s.heap.UpToSlots h') :
  Fly X.prog X.w X.outer X.H₀ X.s₀ a (.ref C) (out H a) { s with heap:=h' } B d:=by
 have inB:∀ b o,b≠a->s.heap.get? b=some o->b ∉ frs X.stack->B.get? b=some o:=fun b o n q m=>by rw [hB]; qV PySem.W.hideAll_get _ ((Heap.hide_ne _ n).trans q) m
 have ni:∀ b u,H b=some u->b ∉ frs X.stack:=fun b u q z=>by rw [I.stkFree b z] at q; cases q
 have trk:∀ b u o,b≠a->H b=some u->s.heap.get? b=some o->B.get? b=some o:=fun b u o n q r=>inB b o n r (ni b u q)
 have na:∀ b,H b=none->b≠a:=fun b q z=>by rw [z,e] at q; cases q
 have nf:∀ b∈frs X.stack,∀ o,s.heap.get? b=some o->∀ vs,o.data≠.fields vs:=fun b hb o q=>by
  x5⟨_,o',e',z⟩:=I.stack.mem hb
  rw [q] at e'
  cases e'
  qV z
 have hok:HOk X.prog X.w (out H a) h':=fun b u q=>by
  x5⟨n,q⟩:=Pj q
  z5(I.hok b u q).stay (fun c v hc r=>?_) (fun c r=>?_) fun c xs r=>?_
  .rcases hc with z | z
   .subst z; qV fl.1 c v (trk c u v n q r)
   .exact fl.1 c v (trk c _ v (fM z e (by intro z; cases z)) z r)
  .rw [tW (fM r e (by intro z; cases z))]; qV r
  .rw [tW (fM r e (by intro z; cases z))]; qV r
 have un:Un (frs X.stack) [a] H (out H a) s.heap h':=by
  z5⟨fun b o q n hb _=>fl.1 b o (inB b o (na b n) q hb),fun b o q n hb _=>up b o q (nf b hb o q),fun b o _ n _=>by rw [tW (na b n)]; qV n,fun b o q hb=>?_,fun b xs q=>?_,fun b o u q=>?_,fun b ps q=>⟨#[],?_⟩⟩
  .by_cases m:b∈frs X.stack
   .obtain ⟨sl,r⟩:=up b o q (nf b m o q)
    qV⟨_,r⟩
   .exact ⟨o,fl.1 b o (inB b o (by simpa using hb) q m)⟩
  .rw [tW (fM q e (by intro z; cases z))]; qV q
  .rw [tW (fM q e (by intro z; cases z))]; qV q
  .rw [tW (fM q e (by intro z; cases z)),q]; simp
 have J:Inv X pins σ (out H a) { s with heap:=h' }:=I.call' (s':={ s with heap:=h' }) (ch:=[a]) rfl un hok I.bare fun b hb=>by
  obtain rfl:b=a:=by simpa using hb
  qV⟨.inr sz,(fun z=>by have:=I.free; rw [<- z,e] at this; cases this),(fun x c q z=>by have:=I.freeC x c q; rw [z,e] at this; cases this),(fun p hp z=>by have:=(I.pin p hp).2.1; rw [z,e] at this; cases this)⟩
 have lta:∀ b o,X.s₀.heap.get? b=some o->b≠a:=fun b o q z=>Nat.lt_irrefl a (aW (z ▸ aK q) sz)
 z5⟨J.os,J.bare,Heap.get?_none_of_le sz,by have:=J.base; rw [hx] at this; qV this,J.hok,fun b hb=>?_,fl,fun b o q hb hc=>?_⟩
 .obtain ⟨_,o,ho,_⟩:=I.ok.funs.mem hb
  qV J.base.free b o ho (I.ok.frf b hb) fun z=>I.ok.exfs b z hb
 .have fin:∀ v,B.get? b=some v->B.get? b=some o:=fun v y=>by
   have e2:=fl.1 b v y
   rw [show ({ s with heap:=h' } : Shared).heap.get? b=h'.get? b from rfl,e2] at q
   cases q
   qV y
  rcases hc with ⟨u,r⟩ | ⟨u,r⟩
  .obtain ⟨⟨v,z⟩,n⟩:=I.old hx r
   qV fin v (inB b v (lta b u r) z (I.nostk n hb))
  .obtain ⟨n,r⟩:=Pj r
   x5⟨o',e'⟩:=(I.hok b u r).there
   qV fin o' (trk b u o' n r e')
end
def Zy (X:Cx) (Ex:Value->Option Addr->L2.St->Hp->Prop):Prop :=
 ∀ pins σ H s a C d,Inv X pins σ H s->H a=some (XN a C d)->X.s₀.heap.objs.size <= a->Ex (.ref C) d σ (out H a)->X.xe (.ref a) s
section
variable {P:Program}{w:World}{K:Frag}{mg:Str->Option Value}{base:Heap}{N:List Str}{qual:Str}{scope:Scope}{f:Addr}{cd:Value}{A:Around}{outer:List Env}{s:Shared}{H:Hp}{E:XK}
~!Vn:Zy (Ce (CXO P w) P w K mg base N qual scope f cd A outer s H E) (fun C d _ H'=>E C d H'):=by
 intro pins σ H1 s1 a C d I e sz q
 show wpAny _ _ (leaving _ (.ref a)) _ _ _
 have hin:∀ env∈(envOfC qual scope s.heap.objs.size f cd::outer),∀ b,env.frame=some b->b∈frs (envOfC qual scope s.heap.objs.size f cd::outer):=fun env he b hb=>List.mem_filterMap.mpr ⟨env,he,hb⟩
 x5⟨t,ha⟩:=TV (I.hok a _ e)
 have fr:(s1.heap.hide a).FunFrames base (envOfC qual scope s.heap.objs.size f cd::outer):=PySem.W.funFrames_hideAll (as:=[a]) I.stack fun env he b hb z=>by
  obtain rfl:b=a:=by simpa using hb
  have:=I.stkFree b (hin env he b z)
  rw [e] at this; cases this
 z5 I9 (base:=PySem.W.hideAll (s1.heap.hide a) (frs (envOfC qual scope s.heap.objs.size f cd::outer))) (h0:=s1.heap.hide a) (outer:=outer) I.ok.frames rfl (fun b o q=>PySem.W.of_hideAll _ q) (PySem.W.funFrames_hide fr hin) (fun b o q=>Heap.of_hide q) (Heap.hide_self _ _) ha rfl rfl fun h' fl up=>?_
 qV⟨a,.ref C,d,out H1 a,_,rfl,I.flyMade rfl e sz rfl fl up,q⟩
end
section
variable {prog:Program}{w:World}{A:Around}{E:Value->Shared->Prop}{s:Shared}{env:Env}{nm qn:Str}{C N:Addr}{bs bm:List Value}{hd:Bool}{sn:List Str}{sub:List Value}{ab:Bool}{col:Option Bool}{dd:Option Addr}{k0 k1 k2 k3 k5:Option Value}
~!U_ {x:Sem Value}{Q:Flow->Shared->Prop} (hb:bm.contains (.type "BaseException")=true) (hh:A.handled=none)
  (h:wpAny (model prog w) A x (fun v s1=>∃ a t d,v=.ref a/\s1.heap.get? C=some (excClassObj nm qn C N bs bm hd sn sub ab col dd k0 k1 k2 k3 k5 "ValueError.__new__")/\s1.heap.get? a=some (O8 C t d)/\E (.ref a) s1) E s):wpAny (model prog w) A (raiseStmt env (some x) none) Q E s:=by
 have hB:(Value.ref C::bm).contains (.type "BaseException")=true:=by rw [List.contains_cons,hb,Bool.or_true]
 unfold raiseStmt
 z5 wpAny_bind (wpAny_mono h (fun v s1 z=>?_) fun _ _ z=>z)
 x5⟨a,t,d,rfl,hC,ha,hE⟩:=z
 x5⟨hp,gs,dr,tk,os⟩:=s1
 repeat (first | with_reducible z5 wpAny_loadPart_at ha ?_ | with_reducible z5 wpAny_loadPart_at hC ?_ | (with_reducible z5 wpAny_isSubtype_exc hC ?_; rw [hB]) | wp_step)
 qV wpAny_raiseNew_none hh hE
end
section
variable {X:Cx}{x:Str}{np cpos pos:Pos}{e₀:Expr}{rest:List Expr}{ta:TA}{C HE fI:Addr}{Ex:Value->Option Addr->L2.St->Hp->Prop}{k:Nat}{ps:List Str}{sp:Sp}
def Jl (C:Addr) (sp:Sp) (Ex:Value->Option Addr->L2.St->Hp->Prop) (ta:TA):TS:=fun _ σ H=>ta σ H fun vs H1=>vs.length <= sizeLine/\∀ a,H1 a=none->sp (.ref a::vs) (upd H1 a (XN a C none)) (fun v H2=>v=.non/\∃ d,H2 a=some (XN a C d)/\Ex (.ref C) d σ (out H2 a)) E0
~!Vv (hc:X.calm=true) (hg:Gl X x) (hm:X.mg x=some (.ref C)) (q:O2 X.K C HE fI) (G:OkI X.prog X.w X.K X.mg X.base CX0 k fI ps sp) (hr:fU (k+1) X.A) (hx:Zy X Ex) (ha:PA X (e₀::rest) ta) (hdb:(x == ("__debug__" : Str))=false:=by decide)
  (he:starEach (e₀::rest) X.env=(false,eval e₀ X.env)::starEach rest X.env:=by rfl) (hpl:(backTo cpos (starEach rest X.env)).any (·.1)=false:=by rfl) :
  PS X (.Raise (some (.Call (.Name x np) (e₀::rest) [] cpos)) none pos) (Jl C sp Ex ta):=by
 x5⟨fd,F,hb⟩:=G
 intro pins s σ H D I h
 x5⟨nm,qn,N,bs,sn,sub,ab,col,dd,k0,k1,k2,k3,k5,mN,o,hC,hN,hi,hf,hfc,T⟩:=q.obj I.ok.mod.kin
 rw [arm_exec_Raise]
 z5 wpAny_bind (wpAny_standAt (U_ (C:=C) (nm:=nm) (qn:=qn) (N:=N) (bs:=bs) (bm:=.ref HE::bmV) (hd:=true) (sn:=sn) (sub:=sub) (ab:=ab) (col:=col) (dd:=dd) (k0:=k0) (k1:=k1) (k2:=k2) (k3:=k3) (k5:=k5) (T.hasType (by decide)) (I.ok.hd hc) ?_))
 z5 wpAny_bind (thn (Q:=fun u s1=>∃ a H' d,u=.ref a/\X.s₀.heap.objs.size <= a/\Inv X pins σ H' s1/\H' a=some (XN a C d)/\Ex (.ref C) d σ (out H' a)) ?_ fun u s1 ⟨a,H',d,e1,e2,I1,e3,e4⟩=>wpAny_bind (wpAny_standAt (wpAny_pure ?_)))
 .refine wpAny_Call_Name_kw (lY I hg hm ?_ hdb)
  z5 PySem.W.callWith_K (h₀:=X.base) I.ok.mod.kin q.kp (thn (ha cpos pins s σ H _ I h) fun us s1 ⟨vs,H1,I1,r,hl,q1⟩=>⟨I1.kIn,?_⟩) he hpl
  qV thn (VH (Q:=fun a H2=>∃ d,H2 a=some (XN a C d)/\Ex (.ref C) d σ (out H2 a)) q F hr hb I1 r (by show us.length <= _; rw [<- r.length]; qV hl) q1) fun u s2 hP=>by x5⟨a,H2,e1,e2,I2,d,e3,e4⟩:=hP; qV⟨a,H2,d,e1,e2,I2,e3,e4⟩
 .obtain ⟨t,ht⟩:=TV (I1.hok a _ e3)
  qV⟨a,t,d,e1,I1.bk _ _ hC,ht,hx pins σ H' s1 a C d I1 e3 e2 e4⟩
end
section
variable {prog:Program}{w:World}{A:Around}{E:Value->Shared->Prop}{h:Heap}{g:Array GenState}{d:Drawn}{t:Nat}{os:OsState}{a C:Addr}{o:Obj}{od:Option Obj}{K:Frag}{f:Str}{u:Value}
~!Rf {tk:Tok}{fl b:Bool}{Q:Value->Shared->Prop} (X:K.In h) (T:Q7 K C) (J:PySem.W.InstAt h a o C od) (hx:h.get? a=some o) (hc:o.cls=.ref C) (hf:PySem.W.findObj K C od f=some (.value u)) (hh:PySem.W.handedIn u=true) (hq:Q u ⟨h,g,d,t,os⟩) :
  wpAny (model prog w) A (getAttrBy (.ref a) (.str f tk) fl b) Q E ⟨h,g,d,t,os⟩:=by
 have f3:=F.excAttr_ValueError.ga.bind (.ref a)
 have n2:(Value.builtin "BaseException.__getattribute__" == Value.builtin "object.__getattribute__")=false:=by decide +kernel
 have n1:(onTheHeap (Value.ref C) && Value.builtin "BaseException.__getattribute__" == Value.builtin "object.__getattribute__")=false:=by rw [n2]; qV Bool.and_false _
 have LT:=zZ (M:=model prog w) hx hc
 have LG:=PySem.W.looks_findIn (M:=model prog w) X T.ga
 have LN:=PySem.W.looks_findIn (M:=model prog w) X T.gn
 have LF:=PySem.W.looks_find (M:=model prog w) X J hf
 repeat (any_goals (first | assumption | with_reducible z5 LT.at ?_ | with_reducible z5 LG.at ?_ | with_reducible z5 LN.at ?_ | (with_reducible z5 wpAny_loadPart_at hx ?_; rw [hc]) | wp_step))
 rw [if_neg (show ¬ (b && onTheHeap (Value.builtin "BaseException.__getattribute__"))=true from by rw [show onTheHeap (Value.builtin "BaseException.__getattribute__")=false from rfl,Bool.and_false]; qV bF)]
 repeat (any_goals (first | assumption | wp_step))
 z5 codeAny_call_builtin F.excAttr_ValueError.ga.plain F.entry_bexc_ga (KQ X T hx hc ?_)
 repeat (any_goals (first | assumption | with_reducible z5 LT.at ?_ | with_reducible z5 LF.at ?_ | wp_step))
 show wpAny _ _ (handedOut u) _ _ _
 rw [PySem.W.handedOut_of hh]
 qV wpAny_pure hq
end
section
variable {X:Cx}{pins:List (Addr×Obj)}{σ:L2.St}{H:Hp}{s:Shared}{a d C:Addr}{fs:List (Str×V)}{f:Str}{v:V}{A:Around}{E:Value->Shared->Prop}
~!Us {b:Bool}{Q:Value->Shared->Prop} (I:Inv X pins σ H s) (e:H a=some (XO a C (some d))) (ed:H d=some (.xd fs)) (c:Q7 X.K C) (hh:PySem.W.hasDictIn X.K C=true) (n:cI X.K C f) (l:fs.lookup f=some v)
  (h:∀ u s',Inv X pins σ H s'->RelV v u->Q u s'):wpAny (model X.prog X.w) A (getAttr (.ref a) f b) Q E s:=by
 x5⟨ox,hx,hc,hd,vs,hv⟩:=(I.hok a _ e).1
 x5⟨mA,hn,r⟩:=I.hok d _ ed
 x5⟨od,ho,hl⟩:=Im hn
 x5⟨u,hu,ru⟩:=uh.some_of (v:=v) (o:=mA f) (by rw [<- l]; qV r f)
 have J:PySem.W.InstAt s.heap a ox C (some od):=⟨hx,hc,by unfold PySem.W.notCls; rw [hv],by rw [hd]; qV ho⟩
 have I2:=I.tok (s.toks+1)
 have kI:=I.kIn
 x5⟨hp,g,dr,t,os⟩:=s
 unfold getAttr
 repeat (first | qV Rf kI c J hx hc (PySem.W.findObj_own hh n rfl (by rw [hl,hu])) (Ja ru) (h u _ I2 ru) | wp_step)
def acp (K:Frag) (ta:TE) (f:Str):TE:=fun σ H Q=>ta σ H fun x H1=>∃ a C d fs v,x=.ref a/\H1 a=some (XO a C (some d))/\H1 d=some (.xd fs)/\Q7 K C/\PySem.W.hasDictIn K C=true/\cI K C f/\fs.lookup f=some v/\Q v H1
~!aaV {e:Expr}{ta:TE}{pos:Pos} (he:PE X e ta) (hb:attributeBase e f X.env (eval e X.env)=eval e X.env):PE X (.Attribute e f pos) (acp X.K ta f):=by
 intro pins s σ H Q I h
 z5 Tn hb (thn (he pins s σ H _ I h) fun u s1 hP=>?_)
 x5⟨x,H1,I1,rx,a,C,d,fs,v,ex,ea,ed,c,hd,n,l,q⟩:=hP
 subst ex
 obtain rfl:u=Value.ref a:=rx
 qV Us I1 ea ed c hd n l fun u' s2 I2 ru=>⟨v,H1,I2,ru,q⟩
end
~!fsc {N P:List Str}{sc:Scope} (h1:sc.kind=.function:=by rfl) (h2:sc.isCoroutine=false:=by rfl) (h3:sc.isGenerator=false:=by rfl) (h4:N.Nodup/\(∀ x∈P,sc.names.lookup x=some .local\/sc.names.lookup x=some .cell)/\∀ y∈sc.names,y.2≠.free:=by decide +kernel) (h5:N.take P.length=P:=by rfl):cj N P sc:=⟨h1,h2,h3,h4.1,h5,h4.2.1,h4.2.2⟩
abbrev CK (sc scope:Scope) (N N' xs:List Str):Prop:=Iw xs N=N'/\(xs++N').Nodup/\(∀ y∈scope.names,y.2≠.cell)/\(∀ y∈scope.names,y.2=.local->scope.names.lookup y.1=some .local)/\(∀ y∈scope.names,y.2=.free->sc.names.lookup y.1=some .cell\/sc.names.lookup y.1=some .free) /\
 (∀ y∈N,y ∉ xs->(scope.names.map fun (n,k)=>if (k == NameKind.free && sc.kind == .function && sc.names.lookup n == some .cell) then (n,NameKind.cell) else (n,k)).lookup y≠some .local)/\∀ y∈N,y∈xs->(scope.names.map fun (n,k)=>if (k == NameKind.free && sc.kind == .function && sc.names.lookup n == some .cell) then (n,NameKind.cell) else (n,k)).lookup (hid y)=none
section
variable {X:Cx}{elt iter tg:Expr}{pos:Pos}{scope:Scope}{wi:TI}{te:TE}{ifs:List Expr}{gt:TG}{tc:TT}
~!jy (sc:Scope) (N N' xs:List Str) (hi:PI X tg iter wi) (hg:∀ {C s₀ H₀ ex pn},PG (X.compG N' scope xs C s₀ H₀ ex pn) tg gt) (ht:∀ {C s₀ H₀ ex pn},PTs (X.compG N' scope xs C s₀ H₀ ex pn) ifs tc) (he:∀ {C s₀ H₀ ex pn},PE (X.compG N' scope xs C s₀ H₀ ex pn) elt te)
  (hsc:X.env.scope=sc:=by rfl) (hNN:X.N=N:=by rfl) (hc:X.calm=true:=by rfl) (hk:scope.kind=.function:=by rfl) (h:CK sc scope N N' xs:=by decide +kernel) (hs:∀ z,foldedSetIterable iter X.env z=pure z:=by intro _; rfl):PE X (.ListComp elt [⟨tg,iter,ifs,0⟩] scope pos) (mF wi xs.length (tMG gt) (tMT tc) (tM te)) :=
 by
 subst hsc hNN
 qV YB hc h.1 h.2.1 hk h.2.2.1 h.2.2.2.1 h.2.2.2.2.1 h.2.2.2.2.2.1 h.2.2.2.2.2.2 hi (fun _ _ _ _ _=>hg.mono) (fun _ _ _ _ _=>ht.mono) (fun _ _ _ _ _=>he.mono) hs
~!Iu {i0:Nat}{y0:Str}{py spos:Pos} (sc:Scope) (N N' xs:List Str) (hi:PI X tg iter wi) (hg:∀ {C s₀ H₀ ex pn},PG (X.compG N' scope xs C s₀ H₀ ex pn) tg gt) (ht:∀ {C s₀ H₀ ex pn},PTs (X.compG N' scope xs C s₀ H₀ ex pn) ifs tc) (he:∀ {C s₀ H₀ ex pn},PE (X.compG N' scope xs C s₀ H₀ ex pn) elt te) (hgy:PG X (.Name y0 py) (cU i0))
  (hsc:X.env.scope=sc:=by rfl) (hNN:X.N=N:=by rfl) (hc:X.calm=true:=by rfl) (hk:scope.kind=.function:=by rfl) (h:CK sc scope N N' xs:=by decide +kernel) (hsw:swapsWith (.ListComp elt [⟨tg,iter,ifs,0⟩] scope pos) (some (.Name y0 py)) spos.line X.env=pure true:=by rfl) (hs:∀ z,foldedSetIterable iter X.env z=pure z:=by intro _; rfl) :
  PS X (.Assign [.Name y0 py] (.ListComp elt [⟨tg,iter,ifs,0⟩] scope pos) spos) (Gu (mF wi xs.length (tMG gt) (tMT tc) (tM te)) (cU i0)) :=
 by
 subst hsc hNN
 qV ZL hc h.1 h.2.1 hk h.2.2.1 h.2.2.2.1 h.2.2.2.2.1 h.2.2.2.2.2.1 h.2.2.2.2.2.2 hi (fun _ _ _ _ _=>hg.mono) (fun _ _ _ _ _=>ht.mono) (fun _ _ _ _ _=>he.mono) hgy hsw hs
~!eV {N' xs:List Str}{C s₀ H₀ ex pn}{i:Nat}{x:Str}{p:Pos} (hN:(xs++N').Nodup:=by decide +kernel) (hi:(xs++N')[i]?=some x:=by rfl) (hx:Loc (X.compG N' scope xs C s₀ H₀ ex pn).env.scope x:=by qV Or.inl rfl) (hf:(X.compG N' scope xs C s₀ H₀ ex pn).fn x=true\/(X.compG N' scope xs C s₀ H₀ ex pn).env.scope.names.lookup x=some .local:=by qV Or.inr rfl):PG (X.compG N' scope xs C s₀ H₀ ex pn) (.Name x p) (cU i):=cG hN hi hx hf
end
~!Oi {tl te:TE}{σ:L2.St}{H:Hp}{Q:VK} (p:Nat->Bool) (y:Str) (hl:∀ R:VK,R (.str y) H->tl σ H R) (hz:y.length <= sizeLine) (he:∀ (c:Nat) (Hc:Hp) (R:VK),R (.bl (p c)) Hc->te (some (.str ⟨#[c]⟩)::σ) Hc R)
  (q:∀ D,H D=none->Q (.ref D) (upd H D (.lst ((y.cps.toList.map p).map V.bl)))):mF (agn (tM tl)) 1 (tMG (cU 0)) (tMT N5) (tM te) σ H Q:=by
 z5 acw (hl _ ⟨y,rfl,fun D hD=>?_⟩)
 have hy:y.cps.size <= sizeLine:=hz
 z5⟨fun k m ys Hc=>k <= y.cps.size/\m=y.cps.size - k/\ys=((y.cps.toList.take k).map p).map V.bl/\Hc=upd H D (.lst ys),⟨_,bC _,rfl,rfl,rfl⟩,?_⟩
 rintro k m ys Hc ⟨hk,rfl,rfl,rfl⟩
 by_cases e:k=y.cps.size
 .subst e
  z5 .inl ⟨rfl,?_⟩
  rw [aM (by simp)]
  qV q D hD
 .have hlt:k<y.cps.size:=by om
  z5 .inr ⟨hlt,?_⟩
  rintro x H'' ⟨rfl,c,hc,rfl⟩
  z5(WT (No:=fun _=>False) (he c _ (fun v H2=>v=.bl (p c)/\H2=upd H D (.lst (((y.cps.toList.take k).map p).map V.bl))) ⟨rfl,rfl⟩)).weak ?_ fun _ z=>z.elim
  rintro v H2 ⟨rfl,rfl⟩
  z5⟨?_,bK,y.cps.size - (k+1),by om,by om,rfl,?_,?_⟩
  .rw [ao,ao,bA]
   simp only [Array.length_toList]
   om
  .have e1:y.cps.toList.take (k+1)=y.cps.toList.take k++[c]:=by
    rw [List.take_succ]
    have:y.cps.toList[k]?=some c:=by simpa using hc
    rw [this]; rfl
   rw [e1,bD,bD]; rfl
  .exact wg
~!aeA {K:Frag}{a:Addr}{i j:Int}{d:Option Addr}{n:Nat}{sl:Array (Option Value)}{t u:Tok} (l:K.lookup a=some ⟨.type "tuple",d,.seq #[.int i t,.int j u] n,sl⟩):∀ H,SqT K H a [.int i,.int j]:=fun H=>.inr ⟨_,_,_,l,rfl,rfl,(by show 2 <= sizeLine; decide),.cons ⟨_,rfl⟩ (.cons ⟨_,rfl⟩ .nil)⟩
~!ah1 {K:Frag}{h:Heap}{mg:Str->Option Value}{x:Str}{i:Int}{t:Tok} (X:K.In h) (G:h.Ns mainGlobals mg) (l:PySem.W.nsIn K mainGlobals x=some (some (.int i t))):∃ u,mg x=some u/\RelV (.int i) u:=⟨_,PySem.W.mg_of X G l,_,rfl⟩
def Lst:Nat->(List Value->Prop)->Prop
 | 0,P=>P []
 | n+1,P=>∀ a,Lst n fun l=>P (a::l)
~!Cw:∀ (n:Nat) {P:List Value->Prop},Lst n P->∀ us:List Value,us.length=n->P us
 | 0,_,h,[],_=>h
 | n+1,_,h,a::l,e=>Cw n (h a) l (Nat.succ.inj e)
section
variable {K:Frag}{h:Heap}{mg:Str->Option Value}{x m qual:Str}{v:Value}{C f:Addr}{st:Stmt}{ps:List Str}{oc:Value}{od an:Option Addr}{osl:Array (Option Value)}{kV doc pm cdv ct:Value}{i j:Int}{d:Option Addr}{n:Nat}{sl:Array (Option Value)}{t u:Tok}
~!q_c (X:K.In h:=by assumption) (G:h.Ns mainGlobals mg:=by assumption) (e:PySem.W.nsIn K mainGlobals x=some (some v):=by k_is):mg x=some v:=PySem.W.mg_of X G e
~!q_z (X:K.In h:=by assumption) (G:h.Ns mainGlobals mg:=by assumption) (e:PySem.W.nsIn K mainGlobals x=some none:=by k_is):mg x=none:=PySem.W.mg_none_of X G e
~!q_n (e:PySem.W.findIn K (.ref C) x=some none:=by k_is):cI K C x:=e
~!q_m (a:PySem.W.findIn K (.ref C) m=some (some (.ref f)):=by k_is) (b:PySem.W.isFn K (.ref f)=true:=by k_is) (c:PySem.W.keepIn K (.ref f)=true:=by k_is):Meth K C m f:=⟨a,b,c⟩
~!q_M (a:PySem.W.makesIn K C=true:=by k_is) (b:PySem.W.findIn K (.ref C) "__init__" = some (some (.ref f)):=by k_is) (c:PySem.W.isFn K (.ref f)=true:=by k_is) (e:PySem.W.keepIn K (.ref C)=true:=by k_is):Mk K C f:=⟨a,b,c,e⟩
~!q_4 (a:PySem.W.plainGet K C Str.empty=true:=by k_is) (b:PySem.W.hasDictIn K C=true:=by k_is) (c:PySem.W.plainOver K C=true:=by k_is) (e:PySem.W.findIn K (.ref C) "__setattr__" = some (some (.builtin "object.__setattr__")):=by k_is):Cls K C:=⟨a,b,c,e⟩
~!q_I (a:PySem.W.findIn K (.ref C) "__class__" = some (some (.builtin "object.__class__")):=by k_is) (b:PySem.W.specialIn K (.builtin "object.__class__") "__get__" = some (some (.builtin "getset_descriptor.__get__")):=by k_is) (c:PySem.W.takesIn K (.builtin "object.__class__")=some true:=by k_is) (e:PySem.W.mroIn K C (.type "object")=some true:=by k_is):Nk K C:=⟨a,b,c,e⟩
~!q_B (a:PySem.W.specialIn K (.ref C) "__getattribute__" = some (some (.builtin "type.__getattribute__")):=by k_is) (b:PySem.W.readsIn K C (.type "type")=true:=by k_is) (c:PySem.W.findCls K (.ref C) (.type "type") m=some (.val (.ref f)):=by k_is) (e:PySem.W.keepIn K (.ref f)=true:=by k_is):mX K C m f:=⟨a,b,c,rfl,e⟩
~!q_x (e:PySem.W.excIn K C bmV "ValueError.__new__" = true:=by k_exc):Mi K C:=e
~!q_g (X:K.In h:=by assumption) (G:h.Ns mainGlobals mg:=by assumption) (l:PySem.W.nsIn K mainGlobals x=some (some (.int i t)):=by k_is):∃ u,mg x=some u/\RelV (.int i) u:=ah1 X G l
~!q_t (l:K.lookup C=some ⟨.type "tuple",d,.seq #[.int i t,.int j u] n,sl⟩:=by k_is):∀ H,SqT K H C [.int i,.int j]:=aeA l
~!q_f (N:Nat) (hb:∀ (kV doc pm:Value) (an:Option Addr) (cdv ct:Value),Lst N fun us=>bindArgs (PySem.W.fnOf x x (gQ st) (eZ st) (bO st) .none kV doc pm an cdv ct) ⟨us,[]⟩=pure (ps.zip us)) (hN:ps.length=N:=by rfl) (X:K.In h:=by assumption) (G:h.Ns mainGlobals mg:=by assumption)
  (a:PySem.W.nsIn K mainGlobals x=some (some (.ref f)):=by k_is) (l:K.lookup f=some ⟨oc,od,.func (PySem.W.fnOf x x (gQ st) (eZ st) (bO st) .none kV doc pm an cdv ct),osl⟩:=by k_is)
  (c:PySem.W.codeIn K cdv x=true:=by k_is) (k:PySem.W.keepIn K (.ref f)=true:=by k_is):eE K mg x st ps:=aap X G a l c k fun kV doc pm an cdv ct us e=>Cw N (hb kV doc pm an cdv ct) us (e.trans hN)
~!q_h (N:Nat) (hb:∀ (kV doc pm:Value) (an:Option Addr) (cdv ct:Value),Lst N fun us=>bindArgs (PySem.W.fnOf x qual (gQ st) (eZ st) (bO st) .none kV doc pm an cdv ct) ⟨us,[]⟩=pure (ps.zip us)) (hN:ps.length=N:=by rfl)
  (l:K.lookup f=some ⟨oc,od,.func (PySem.W.fnOf x qual (gQ st) (eZ st) (bO st) .none kV doc pm an cdv ct),osl⟩:=by k_is) (c:PySem.W.codeIn K cdv qual=true:=by k_is) (k:PySem.W.keepIn K (.ref f)=true:=by k_is):rP K x qual st ps f:=aad l c k fun kV doc pm an cdv ct us e=>Cw N (hb kV doc pm an cdv ct) us (e.trans hN)
end
section
variable {K:Frag}{C HE fI:Addr}{nm qn:Str}{N:Addr}{bs sub:List Value}{sn:List Str}{ab:Bool}{col:Option Bool}{dd:Option Addr}{k0 k1 k2 k3 k5:Option Value}{o:Obj}{cd:ClassData}
~!q_E (he:PySem.W.excIn K HE bmV "ValueError.__new__" = true:=by k_exc) (l:K.lookup C=some (excClassObj nm qn C N bs (.ref HE::bmV) true sn sub ab col dd k0 k1 k2 k3 k5 "ValueError.__new__"):=by k_is) (n1:PySem.W.nsOkIn K N=true:=by kernel_rfl) (n2:PySem.W.nsIn K N "__init__" = some (some (.ref fI)):=by k_is)
  (lf:K.lookup fI=some o:=by k_is) (hf:o.cls=.type "function" := by rfl) (kp:PySem.W.keepIn K (.ref C)=true:=by k_is):O2 K C HE fI:=⟨⟨nm,qn,N,bs,sn,sub,ab,col,dd,k0,k1,k2,k3,k5,l,n1,n2⟩,he,⟨o,lf,hf⟩,kp⟩
~!q_S (a:PySem.W.clsIn K C=some cd:=by k_is) (b:cd.hasDict=true:=by rfl) (c:Ma cd.mro=true:=by rfl) (e:PySem.W.findIn K (.ref C) "__setattr__" = some (some (.builtin "object.__setattr__")):=by k_is) (m:PySem.W.mroIn K C (.type "object")=some true:=by k_is):Zr K C:=⟨⟨cd,a,b,c⟩,e,m⟩
~!q_b (a:PySem.W.specialIn K (.ref C) "__getattribute__" = some (some (.builtin "type.__getattribute__")):=by k_is) (b:PySem.W.readsIn K C (.type "type")=true:=by k_is) (c:PySem.W.findCls K (.ref C) (.type "type") "__init__" = some (.val (.builtin "ValueError.__init__")):=by k_is):YX K C:=⟨a,b,c⟩
~!q_5 (a:PySem.W.findIn K (.ref C) "__getattribute__" = some (some (.builtin "BaseException.__getattribute__")):=by k_is) (b:PySem.W.findIn K (.ref C) "__getattr__" = some none:=by k_is) (c:PySem.W.findIn K (.ref C) "__class__" = some (some (.builtin "object.__class__")):=by k_is) (e:PySem.W.mroIn K C (.type "object")=some true:=by k_is) (m:PySem.W.mroIn K C (.type "BaseException")=some true:=by k_is):Q7 K C:=⟨a,b,c,e,m⟩
end
section
variable {X:Cx}{k:Nat}{f C:Addr}{ps:List Str}{sp:Sp}{m:Str}{pos apos:Pos}{e o:Expr}{es:List Expr}{ta:TE}{t:TA}{Ex:Value->Option Addr->L2.St->Hp->Prop}
def aas (C:Addr) (m:Str) (sp:Sp) (Ex:Value->Option Addr->L2.St->Hp->Prop) (ta:TE) (t:TA):TE:=fun σ H Q=>ta σ H fun x H1=>∃ a dx fs,x=.ref a/\H1 a=some (.ins C dx fs)/\fs.lookup m=none/\t σ H1 fun vs H2=>sp (x::vs) H2 Q fun D d H'=>Ex D d σ H'
~!VP {pl:Sem Bool} (he:PE X o ta) (c:Cls X.K C) (hm:Meth X.K C m f) (G:OkI X.prog X.w X.K X.mg X.base (CXO X.prog X.w) k f ps sp) (hr:fU k X.A) (hx:Fe X Ex) (ha:PA X (e::es) t)
  (hst:starEach (e::es) X.env=(false,eval e X.env)::starEach es X.env:=by rfl) (hpl:(backTo pos (starEach es X.env)).any (·.1)=false:=by rfl)
  (ht:eval (.Call (.Attribute o m apos) (e::es) [] pos) X.env=(do
   let ov <- eval o X.env
   standAt apos.atName
   let (f,first) <- holding [ov] (getMethod ov m pl)
   callWith pos f first (backTo pos (starEach (e::es) X.env)) (backToKw pos (keywordEach [] X.env))):=by rfl) :
  PE X (.Call (.Attribute o m apos) (e::es) [] pos) (aas C m sp Ex ta t):=by
 x5⟨fd,F,hb⟩:=G
 intro pins s σ H Q I h
 z5 PySem.W.methodCall_KW (pl:=pl) (thn (he pins s σ H _ I h) fun u s1 hP=>?_) ht
 x5⟨x,H1,I1,rx,a,dx,fs,ex,ea,l,q⟩:=hP
 subst ex
 obtain rfl:u=Value.ref a:=rx
 z5 xH I1 ea c hm l ?_
 z5 PySem.W.callWith_K (first:=[.ref a]) (h₀:=X.base) I1.ok.mod.kin hm.kp (thn (ha pos pins _ σ H1 _ I1 q) fun us s2 ⟨vs,H2,I2,r,q2⟩=>⟨I2.kIn,?_⟩) hst hpl
 qV R5 (us:=.ref a::us) (vs:=.ref a::vs) F hr hb .nil hx I2 (.cons rfl r) (by rw [List.append_nil]; qV q2)
~!Yt {K':Frag}{f:Str} (hK:X.K=K') (he:PE X e ta) (hb:attributeBase e f X.env (eval e X.env)=eval e X.env):PE X (.Attribute e f pos) (acp K' ta f):=by
 subst hK
 qV aaV he hb
end
section
variable {X:Cx}{es:List Expr}{t:TA}{pos:Pos}
def ahc (t:TA):TE:=fun σ H Q=>t σ H fun xs H1=>xs.length <= sizeLine/\∀ p H',Same H1 H'->H1 p=none->H' p=some (.lst xs)->Q (.ref p) H'
def ahb (t:TA):TE:=fun σ H Q=>t σ H fun xs H1=>xs.length <= sizeLine/\∀ p H',Same H1 H'->H1 p=none->H' p=some (.tup xs)->Q (.ref p) H'
~!eY (h:PA X es t):PE X (.List es pos) (ahc t):=(kW h.mono).imp fun σ H Q h=>⟨_,h,fun xs H1 z=>⟨z.1,fun p hp=>z.2 p _ (Same.upd hp) hp bK⟩⟩
~!dB {k:Nat} (h:PA X es t):PE X (.Tuple es k pos) (ahb t):=(kZ h.mono).imp fun σ H Q h=>⟨_,h,fun xs H1 z=>⟨z.1,fun p hp=>z.2 p _ (Same.upd hp) hp bK⟩⟩
def ags:R2:=fun x y H Q=>∃ l b xs zs,x=.ref l/\y=.ref b/\H l=some (.lst xs)/\H b=some (.lst zs)/\xs.length+zs.length <= sizeLine/\∀ p H',Same H H'->H p=none->H' p=some (.lst (xs++zs))->Q (.ref p) H'
~!KZ:OpR X (binaryOp .Add) ags:=Qc.imp fun x y H Q hP=>by x5⟨l,b,xs,zs,e1,e2,h1,h2,z,q⟩:=hP; qV⟨l,b,xs,zs,e1,e2,h1,h2,z,fun p hp=>q p _ (Same.upd hp) hp bK⟩
def acz:List V->Hp->VK->Prop:=fun xs H Q=>∃ p ys,xs=[.ref p]/\H p=some (.lst ys)/\∀ l H',Same H H'->H l=none->H' l=some (.lst ys)->Q (.ref l) H'
~!QX:h_ X (.type "list") acz:=xV.imp fun xs H Q hP=>by x5⟨p,ys,a,b,c⟩:=hP; qV⟨p,ys,a,b,fun l hl=>c l _ (Same.upd hl) hl bK⟩
def ahv:V->Option Int->Option Int->Hp->VK->Prop:=fun x lo hi H Q=>∃ a xs,x=.ref a/\H a=some (.lst xs)/\∀ p H',Same H H'->H p=none->H' p=some (.lst (m_ xs lo hi))->Q (.ref p) H'
~!qU:SlR X ahv:=fun pins s σ H x v vl vu lo hi sl Q I rx hs pl pu hP=>by x5⟨a,xs,e,h,q⟩:=hP; qV CG pins s σ H x v vl vu lo hi sl Q I rx hs pl pu ⟨a,xs,e,.of h,fun p hp=>q p _ (Same.upd hp) hp bK⟩
def ah8 (to:TE):TE:=fun σ H Q=>to σ H fun x H1=>∃ l xs,x=.ref l/\H1 l=some (.lst xs)/\Q .non (upd H1 l (.lst xs.reverse))
~!acJ {o:Expr}{to:TE}{apos cpos:Pos} (ho:PE X o to) (hb:attributeBase o "reverse" X.env (eval o X.env)=eval o X.env:=by rfl) (hl:(apos.endLine == cpos.line)=true:=by rfl) :
  PE X (.Call (.Attribute o "reverse" apos) [] [] cpos) (ah8 to):=by
 z5(adb PySem.F.plainAttrs_list PySem.F.slot_list_reverse PySem.F.type_list_reverse Pz ho.mono hb hl).imp fun σ H Q h=>?_
 z5⟨_,h,?_⟩
 rintro x H1 ⟨l,xs,rfl,hx,q⟩
 qV⟨.inl ⟨rfl,_,SqL.of hx⟩,l,xs,rfl,rfl,hx,q⟩
end
section
variable {X:Cx}
def aia (H:Hp) (f:Int×Int):Value->Bool
 | .ref a=>match H a with
  | some (.tup [.int x,.int y])=>decide (x=f.1) && decide (y=f.2)
  | _=>false
 | _=>false
end
def OkL (P:Program) (w:World) (K:Frag) (mg:Str->Option Value) (base:Heap) (k:Nat) (f:Addr) (ps:List Str) (sp:Sp):Prop :=
 ∃ fd o,cD P w K mg base CX0 k f fd ps sp/\Binds K fd ps []/\base.get? f=some o/\o.data=.func fd
~!aaA {M:Model}{f:Addr}{o:Obj}{fd:FuncData} (hd:o.data=.func fd) (h:Heap) (e:h.get? f=some o):∃ k,(k=Keeper.frame\/k=Keeper.machine\/k=Keeper.boundFrame)/\PySem.W.Looks M h (keeperOf (.ref f)) k:=by
 z5⟨.frame,.inl rfl,(PySem.W.Looks.ld (part:=none) e).andThen ?_⟩
 rw [hd]
 qV .now
section
variable {X:Cx}{p pos:Pos}{e:Expr}{es:List Expr}{t:TA}{tv:TE}{x:Str}{k:Nat}{ps:List Str}{sp:Sp}{f:Addr}
~!Y0 (G:OkL X.prog X.w X.K X.mg X.base k f ps sp) (hr:fU k X.A) (hv:PE X (.Name x p) tv) (ha:PA X (e::es) t)
  (he:starEach (e::es) X.env=(false,eval e X.env)::starEach es X.env:=by rfl) (hpl:(backTo pos (starEach es X.env)).any (·.1)=false:=by rfl):PE X (.Call (.Name x p) (e::es) [] pos) (ad1 f sp tv t):=by
 x5⟨fd,o,F,b,ho,hd⟩:=G
 intro pins s σ H Q I h
 z5 wpAny_Call_Name_kw (thn (hv pins s σ H _ I h) ?_)
 rintro u s0 ⟨v,H0,I0,r0,rfl,q0⟩
 cases r0
 have ar:wpAny (model X.prog X.w) X.A (spliced (backTo pos (starEach (e::es) X.env))) (fun us s1=>s1.heap.get? f=some o/\wpAny (model X.prog X.w) X.A (call (.ref f) ([]++us)) (EP X pins σ Q) X.xe s1) X.xe s0:=by
  z5 thn (ha pos pins s0 σ H0 _ I0 q0) ?_
  rintro us s1 ⟨vs,H1,I1,r,q⟩
  z5⟨I1.bk f o ho,JW F hr b .nil Nz I1 r ?_⟩
  rw [List.append_nil]
  qV q
 rw [he] at ar ⊢
 qV PySem.W.callWith_of (P:=fun h=>h.get? f=some o) (by show ((false || (backTo pos (starEach es X.env)).any (·.1)) || false)=false; rw [hpl]; rfl) (aaA hd) (PySem.Calls.evalArgs_plain ar)
end
def cxL (P:Program) (w:World) (K:Frag) (mg:Str->Option Value) (base:Heap) (N:List Str) (qual:Str) (scope:Scope) (f:Addr) (cd:Value) (cl:List (Str×Addr)) (A:Around) (outer:List Env) (s:Shared) (H:Hp) (E:XK):Cx where
 prog:=P
 w:=w
 K:=K
 mg:=mg
 base:=base
 A:=A.deeper (PySem.W.envX qual scope s.heap.objs.size f cd cl)
 N:=N
 s₀:=s
 H₀:=H
 env:=PySem.W.envX qual scope s.heap.objs.size f cd cl
 outer:=outer
 stack:=PySem.W.envX qual scope s.heap.objs.size f cd cl::outer
 ex:=[]
 calm:=true
 fn:=fun _=>false
 pn:=[]
 xe:=fun e s'=>wpAny (model P w) (A.deeper (PySem.W.envX qual scope s.heap.objs.size f cd cl)) (leaving (PySem.W.envX qual scope s.heap.objs.size f cd cl) e) (fun _ s''=>CX0 outer H s E e s'') (fun e' s''=>CX0 outer H s E e' s'') s'
inductive wJ (base:Heap) (scope:Scope):List (Str×Addr)->List V->Prop where
 | nil:wJ base scope [] []
 | cons {x:Str}{c:Addr}{v:V}{u:Value}{cl:List (Str×Addr)}{vs:List V} : scope.names.lookup x=some .free->base.IsCell c (some u)->RelV v u->cl.lookup x=none->(∀ y,(y,c) ∉ cl)->wJ base scope cl vs->wJ base scope ((x,c)::cl) (v::vs)
~!wJ.len {base:Heap}{scope:Scope}{cl:List (Str×Addr)}{vs:List V} (h:wJ base scope cl vs):cl.length=vs.length:=by
 induction h with
 | nil=>rfl
 | cons _ _ _ _ _ _ ih=>simp [ih]
~!wJ.at {base:Heap}{scope:Scope}{cl:List (Str×Addr)}{vs:List V} (h:wJ base scope cl vs) {i:Nat}{x:Str}{v:V} (e:(cl.map (·.1))[i]?=some x) (ev:(vs.map some)[i]?=some (some v)):scope.names.lookup x=some .free/\∃ c u,cl.lookup x=some c/\base.IsCell c (some u)/\RelV v u:=by
 induction h generalizing i with
 | nil=>simp at e
 | @cons y c v0 u cl vs k1 k2 k3 k4 k5 _ ih =>
  cases i with
  | zero =>
   simp at e ev; subst e; subst ev
   qV⟨k1,c,u,by simp [List.lookup],k2,k3⟩
  | succ j =>
   simp at e ev
   x5⟨q1,c',u',q2,q3,q4⟩:=ih (i:=j) (by simpa using e) (by simpa using ev)
   z5⟨q1,c',u',?_,q3,q4⟩
   have ne:(x == y)=false:=by
    cases z:x == y with
    | false=>rfl
    | true=>rw [beq_iff_eq.mp z,k4] at q2; cases q2
   rw [List.lookup_cons,ne]; qV q2
~!wJ.cells {base:Heap}{scope:Scope}{cl:List (Str×Addr)}{vs:List V} (h:wJ base scope cl vs) {x:Str}{c:Addr} (e:cl.lookup x=some c):∃ u,base.IsCell c (some u):=by
 induction h with
 | nil=>cases e
 | @cons y c0 v0 u cl vs k1 k2 k3 k4 k5 _ ih =>
  rw [List.lookup_cons] at e
  split at e
  .cases e; qV⟨u,k2⟩
  .exact ih e
~!uL {cl:List (Str×Addr)}{x:Str}{c:Addr} (e:cl.lookup x=some c):(x,c)∈cl:=PySem.mem_of_lookup e
~!wJ.inj {base:Heap}{scope:Scope}{cl:List (Str×Addr)}{vs:List V} (h:wJ base scope cl vs) {x y:Str}{c:Addr} (e:cl.lookup x=some c) (e':cl.lookup y=some c):x=y:=by
 induction h with
 | nil=>cases e
 | @cons z c0 v0 u cl vs k1 k2 k3 k4 k5 _ ih =>
  rw [List.lookup_cons] at e e'
  cases a:x == z <;> cases b:y == z <;> rw [a] at e <;> rw [b] at e'
  .exact ih e e'
  .cases e'; qV absurd (uL e) (k5 _)
  .cases e; qV absurd (uL e') (k5 _)
  .rw [beq_iff_eq.mp a,beq_iff_eq.mp b]
~!Qo {P:Program}{w:World}{K:Frag}{mg:Str->Option Value}{base:Heap}{x:Str}{qual:Str}{scope:Scope}{f:Addr}{cd:Value}{cl:List (Str×Addr)}{frees:List V}{A:Around}{outer:List Env}{s:Shared}{H:Hp}{E:XK}{u:Value}{v:V}{h₁:Heap}{tk:Tok}
  (hk:scope.kind=.function) (hcell:∀ y∈scope.names,y.2≠.cell) (hx:scope.names.lookup x=some .local) (hfree:∀ y,scope.names.lookup y=some .free->∃ c,cl.lookup y=some c) (hs:wJ base scope cl frees)
  (hd:A.handled=none) (e0:DK P w K mg base A outer s H) (r:RelV v u)
  (hns:h₁.Ns s.heap.objs.size (fun y=>[(x,u)].reverse.lookup y)) (hkp:∀ b o,s.heap.get? b=some o->h₁.get? b=some o) :
  Inv (cxL P w K mg base (x::cl.map (·.1)) qual scope f cd cl A outer s H E) [] (some v::frees.map some) H { s with heap:=h₁,toks:=tk }:=by
 have noA:∀ b:Addr,b ∉ (cxL P w K mg base (x::cl.map (·.1)) qual scope f cd cl A outer s H E).ex:=fun b z=>absurd (show b∈([] : List Addr) from z) (by simp)
 have cb:∀ c u,base.IsCell c (some u)->h₁.IsCell c (some u)/\H c=none:=fun c u hP=>by x5⟨o,ho,hd⟩:=hP; qV⟨⟨o,hkp _ _ (e0.bs _ _ ho).1,hd⟩,(e0.bs _ _ ho).2⟩
 z5⟨⟨e0.mod,hk,rfl,rfl,aG _,fun y z c h1 h2=>hs.inj h1 h2,fun y hy=>?_,(fun y c h=>nomatch h),fun _=>hd,Around.frames_deeper e0.frames,.inr ⟨rfl,rfl⟩,fun b z=>absurd z (noA b),e0.bs,e0.bsz,fun b _ _=>noA b,fun b z=>absurd z (noA b),e0.funs,e0.frf⟩,
  rfl,e0.bare,Un.kept hkp,⟨_,hns,fun i y v' h1 h2 h3=>?_⟩,fun y c h=>?_,e0.hok.fresh (aG _),fun y c h=>?_,fun p hp=>absurd (show p∈([] : List (Addr×Obj)) from hp) (by simp),e0.hok.kept hkp,?_⟩
 .rcases hy with hy | hy
  .exact absurd rfl (hcell _ (PySem.mem_of_lookup hy))
  .exact hfree y hy
 .cases i with
  | zero =>
   have h1:some x=some y:=h1
   have h2:some (some v)=some (some v'):=h2
   cases h1; cases h2
   qV⟨u,r,.inl ⟨hx,by show [(x,u)].lookup x=some u; simp [List.lookup]⟩⟩
  | succ j =>
   have h1:(cl.map (·.1))[j]?=some y:=h1
   have h2:(frees.map some)[j]?=some (some v'):=h2
   x5⟨q1,c,u',q2,q3,q4⟩:=hs.at h1 h2
   qV⟨u',q4,.inr ⟨.inr q1,c,q2,(cb c u' q3).1⟩⟩
 .obtain ⟨u',q⟩:=hs.cells h
  qV⟨_,(cb c u' q).1⟩
 .obtain ⟨u',q⟩:=hs.cells h
  qV(cb c u' q).2
 .show _=(x::cl.map (·.1)).length
  simp [hs.len]
~!adZ {P:Program}{w:World}{K:Frag}{mg:Str->Option Value}{base:Heap}{k:Nat}{f c':Addr}{name qual:Str}{params:Arguments}{body:Expr}{scope:Scope}{cl:List (Str×Addr)}{pm ctv:Value}{x:Str}{frees:List V}{sp:Sp}
  (ho:base.get? f=some (PySem.W.kla_obj name qual params body scope cl pm c' ctv)) (hcr:base.CodeRec (.ref c') qual)
  (hk:scope.kind=.function) (hco:scope.isCoroutine=false) (hgen:scope.isGenerator=false) (hcell:∀ y∈scope.names,y.2≠.cell) (hx:scope.names.lookup x=some .local) (hfree:∀ y,scope.names.lookup y=some .free->∃ c,cl.lookup y=some c) (hs:wJ base scope cl frees)
  (len:∀ vs H Q E,sp vs H Q E->vs.length=1)
  (hbody:∀ (A:Around) (outer:List Env) (s:Shared) (H:Hp) (v:V) (Q:VK) (E:XK),fU k (A.deeper (PySem.W.envX qual scope s.heap.objs.size f (.ref c') cl))->sp [v] H Q E ->
   ∃ t,PE (cxL P w K mg base (x::cl.map (·.1)) qual scope f (.ref c') cl A outer s H E) body t/\t (some v::frees.map some) H Q) :
  cD P w K mg base CX0 (k+1) f (PySem.W.kla_fn name qual params body scope cl pm (.ref c') ctv) [x] sp:=by
 z5⟨fun vs H Q E h=>len vs H Q E h,fun A outer s H args us vs Q E hr e0 hb r hsp=>?_⟩
 have hl:=len _ _ _ _ hsp
 obtain ⟨v,rfl⟩ : ∃ v,vs=[v]:=by
  cases vs with
  | nil=>cases hl
  | cons v t=>cases t with
   | nil=>qV⟨v,rfl⟩
   | cons _ _=>cases hl
 obtain ⟨u,rfl,rv⟩ : ∃ u,us=[u]/\RelV v u:=by
  cases r with
  | cons a t=>cases t; qV⟨_,rfl,a⟩
 have lim:s.heap.NoLimit:=e0.mod.nolimit.keeps fun b o e=>(e0.bs b o e).1
 x5⟨c2,oc,ws,tk,e2,hoc,hdc,hq⟩:=hcr
 z5 PySem.W.kla_callFunE hr.depth (e0.bs _ _ ho).1 rfl hco hgen rfl ⟨c2,oc,ws,tk,e2,(e0.bs _ _ hoc).1,hdc,hq⟩ (hb _ _ _ _ ?_)
 z5 wpAny_newFunctionEnv hcell (fun y hy=>?_) (fun h₁ hns hsb=>?_) hk
 .have hy:y∈[(x,u)]:=hy
  rw [List.mem_singleton.mp hy]; qV hx
 have hkp:∀ b o,s.heap.get? b=some o->h₁.get? b=some o:=fun b o e=>hsb.extBut b o (aV (aK e)) (aH _ e)
 z5⟨lim.keeps hkp,PySem.W.kla_codeExpr ?_⟩
 x5⟨t,ht,hq⟩:=hbody A outer s H v Q E (hr.deeper _) hsp
 have I:=Qo (f:=f) (cd:=.ref c') (qual:=qual) (E:=E) (tk:=s.toks + [(x,u)].length) hk hcell hx hfree hs hr.hd e0 rv hns hkp
 qV wpAny_mono (ht [] _ _ H _ I hq) (fun u' s' hP=>by x5⟨v',H',J,rv',q⟩:=hP; qV⟨v',H',J.os,J.bare,J.base,J.hok,rv',q⟩) fun e s' hs=>hs
def Ft (c:Addr) (qual:Str):HO:=.ext fun h=>∃ o vs t,h.get? c=some o/\o.data=.fields vs/\vs[1]?=some (.str qual t)
def Qm (f:Addr) (mkO:Value->Obj):HO:=.ext fun h=>∃ ctv,h.get? f=some (mkO ctv)
def trip (pos:Pos) (c:Addr):Array Value:=#[rawInt pos.line,rawInt pos.col,.ref c]
def wR (Pt:Addr) (pos:Pos) (qual:Str) (H:Hp):Option Addr->Prop
 | none=>H Pt=some (.tbl #[])
 | some c=>H Pt=some (.tbl (trip pos c))/\H c=some (Ft c qual)
def ahE (Pt:Addr) (pos:Pos) (qual:Str) (mkO:Addr->Value->Obj):TE:=fun σ H Q=>∃ oc,wR Pt pos qual H oc /\
 ∀ f c H',H f=none->f≠c->(oc=none->H c=none)->(∀ c0,oc=some c0->c=c0)->wR Pt pos qual H' (some c)->H' f=some (Qm f (mkO c))->(∀ b,b≠Pt->b≠c->b≠f->H' b=H b)->Q (.ref f) H'
~!M4 {P:Program}{w:World}{H:Hp}{h:Heap}{c:Addr}{q:Str} (r:h.CodeRec (.ref c) q):dU P w H h c (Ft c q):=by
 x5⟨c2,o,vs,t,e,ho,hd,hv⟩:=r
 cases e
 qV⟨⟨o,vs,t,ho,hd,hv⟩,⟨o,ho⟩,fun h1 h2 ⟨o,vs,t,a,b,d⟩ k=>⟨o,vs,t,k o a,b,d⟩⟩
~!Uu {P:Program}{w:World}{H:Hp}{h:Heap}{c:Addr}{q:Str} (r:dU P w H h c (Ft c q)):h.CodeRec (.ref c) q:=by
 x5⟨⟨o,vs,t,ho,hd,hv⟩,_⟩:=r
 qV⟨c,o,vs,t,rfl,ho,hd,hv⟩
~!Uh {P:Program}{w:World}{H:Hp}{h:Heap}{f:Addr}{mkO:Value->Obj}{ctv:Value} (e:h.get? f=some (mkO ctv)):dU P w H h f (Qm f mkO) :=
 ⟨⟨ctv,e⟩,⟨_,e⟩,fun h1 h2 ⟨c,a⟩ k=>⟨c,k _ a⟩⟩
section
variable {X:Cx}{params:Arguments}{body:Expr}{scope:Scope}{pos:Pos}{c0 Pt:Addr}{cl:List (Str×Addr)}
~!adQ (hB:X.base.BuiltinsAt X.mg Pt) (hcode:X.env.code=.ref c0) (hC:PySem.W.codeHdIn X.K c0 Pt=true) (hcl:closureFor scope X.env=pure cl) (hdef:defaultsOf params X.env=([],[]):=by rfl) :
  PE X (.Lambda params body scope pos) (ahE Pt pos (X.env.qual ++ "<lambda>") fun c ctv=>PySem.W.kla_obj "<lambda>" (X.env.qual ++ "<lambda>") params body scope cl ((X.mg "__name__").getD .none) c ctv):=by
 intro pins s σ H Q I h
 x5⟨oc,la,q⟩:=h
 have hg:s.heap.Ns mainGlobals X.mg:=I.ok.mod.glob.keeps I.bk
 have C:PySem.W.CodeHd s.heap c0 Pt:=PySem.W.codeHd_of_K I.kIn hC
 x5⟨bm,ob,b1,b2,b3,b4,b5,b6⟩:=hB
 have hb:s.heap.BuiltinsAt X.mg Pt:=⟨bm,ob,b1,b2,b3,b4,I.bk _ _ b5,b6⟩
 z5 PySem.W.kla_eval hdef ?_
 cases oc with
 | none =>
  have hP:s.heap.get? Pt=some (PySem.W.tabObj #[]):=I.hok Pt _ la
  have hgP:mainGlobals≠Pt:=fun z=>by
   x5⟨o,es,ep,e,hd,_⟩:=hg
   rw [z,hP] at e; cases e; cases hd
  z5 PySem.W.kla_makeFunction hcl I.ok.glob hg hcode C hP trivial rfl hgP hb fun c' ctv h' tk hx hge hlt hrec htb=>?_
  generalize eo:PySem.W.kla_obj "<lambda>" (X.env.qual ++ "<lambda>") params body scope cl ((X.mg "__name__").getD .none) c' ctv=ob'
  have hf:(h'.push ob').get? h'.objs.size=some ob':=bh _ (by rw [<- eo]; rfl)
  have hps:∀ {b:Addr}{o:Obj},h'.get? b=some o->(h'.push ob').get? b=some o:=fun e=>aH _ e
  have lo:∀ {b:Addr}{o:Obj},s.heap.get? b=some o->b≠c'/\b≠h'.objs.size:=fun e=>have z:=aW (aK e) hge; ⟨aV z,aV (Nat.lt_trans z hlt)⟩
  have lH:∀ {b:Addr}{u:HO},H b=some u->b≠c'/\b≠h'.objs.size:=fun e=>have z:=aW (I.hok.lt e) hge; ⟨aV z,aV (Nat.lt_trans z hlt)⟩
  have ptn:Pt≠c'/\Pt≠h'.objs.size:=lo hP
  have cf:c'≠h'.objs.size:=aV hlt
  let H':Hp:=upd (upd (upd H Pt (.tbl (trip pos c'))) c' (Ft c' (X.env.qual ++ "<lambda>"))) h'.objs.size (Qm h'.objs.size fun ctv=>PySem.W.kla_obj "<lambda>" (X.env.qual ++ "<lambda>") params body scope cl ((X.mg "__name__").getD .none) c' ctv)
  have eP:H' Pt=some (.tbl (trip pos c')):=(bM ptn.2).trans ((bM ptn.1).trans bK)
  have ec:H' c'=some (Ft c' (X.env.qual ++ "<lambda>")):=(bM cf).trans bK
  have ef:H' h'.objs.size=some (Qm h'.objs.size fun ctv=>PySem.W.kla_obj "<lambda>" (X.env.qual ++ "<lambda>") params body scope cl ((X.mg "__name__").getD .none) c' ctv):=bK
  have eo':∀ b,b≠Pt->b≠c'->b≠h'.objs.size->H' b=H b:=fun b n1 n2 n3=>(bM n3).trans ((bM n2).trans (bM n1))
  have np:∀ {b:Addr}{u:HO},H b=some u->(∀ ps,u≠.tbl ps)->b≠Pt:=fun e n z=>by rw [z,la] at e; cases e; qV n _ rfl
  have n0:∀ {b:Addr},H b=none->b≠Pt:=fun e z=>by rw [z,la] at e; cases e
  have un:Un (frs X.stack) [] H H' s.heap (h'.push ob'):=by
   z5⟨fun b o e n _ _=>hps (hx b o (n0 n) e),fun b o e n _ _=>⟨o.slots,hps (hx b o (n0 n) e)⟩,fun b o e n _=>?_,fun b o e _=>?_,fun b xs e=>?_,fun b o u e=>?_,fun b ps e=>?_⟩
   .rw [eo' b (n0 n) (lo e).1 (lo e).2]; qV n
   .by_cases z:b=Pt
    .subst z; qV⟨_,hps htb⟩
    .exact ⟨o,hps (hx b o z e)⟩
   .rw [eo' b (np e (fun _ z=>by cases z)) (lH e).1 (lH e).2]; qV e
   .rw [eo' b (np e (fun _ z=>by cases z)) (lH e).1 (lH e).2]; qV e
   .by_cases z:b=Pt
    .subst z
     rw [la] at e; cases e
     qV⟨trip pos c',by rw [eP]; simp⟩
    .rw [eo' b z (lH e).1 (lH e).2]; qV⟨#[],by rw [e]; simp⟩
  have hok:HOk X.prog X.w H' (h'.push ob'):=by
   intro b u e
   by_cases z1:b=h'.objs.size
   .subst z1
    rw [ef] at e; cases e
    qV Uh (ctv:=ctv) (by rw [eo]; qV hf)
   by_cases z2:b=c'
   .subst z2
    rw [ec] at e; cases e
    x5⟨c2,oc,vs,t,e2,ho,hd,hv⟩:=hrec
    qV M4 ⟨c2,oc,vs,t,e2,hps ho,hd,hv⟩
   by_cases z3:b=Pt
   .subst z3
    rw [eP] at e; cases e
    qV hps htb
   .rw [eo' b z3 z2 z1] at e
    z5(I.hok b u e).stay (fun d o hd r=>?_) (fun d r=>?_) fun d xs r=>?_
    .refine hps (hx d o (fun z=>?_) r)
     rcases hd with rfl | hd
     .exact z3 z
     .exact np hd (fun _ z=>by cases z) z
    .rw [eo' d (np r (fun _ z=>by cases z)) (lH r).1 (lH r).2]; qV r
    .rw [eo' d (np r (fun _ z=>by cases z)) (lH r).1 (lH r).2]; qV r
  have J:Inv X pins σ H' { s with heap:=h'.push ob',toks:=tk }:=I.call (g':=s.gens) (d':=s.drawn) (t':=tk) (ch:=[]) un hok I.bare fun b z=>nomatch z
  subst eo
  z5⟨.ref h'.objs.size,H',J,rfl,q h'.objs.size c' H' ?_ cf.symm (fun _=>?_) (fun c0 z=>nomatch z) ⟨eP,ec⟩ ef eo'⟩
  .cases z:H h'.objs.size with
   | none=>rfl
   | some u=>qV absurd rfl (lH z).2
  .cases z:H c' with
   | none=>rfl
   | some u=>qV absurd rfl (lH z).1
 | some c =>
  x5⟨la1,la2⟩:=la
  have hP:s.heap.get? Pt=some (PySem.W.tabObj (trip pos c)):=I.hok Pt _ la1
  z5 PySem.W.kla_makeFunctionHit (cv:=.ref c) hcl I.ok.glob hg hcode C hP (by simp [TriplesOk,trip,rawInt]) (by simp [codeAmong,trip,rawInt]) hb fun ctv h' tk hk hsz=>?_
  generalize eo:PySem.W.kla_obj "<lambda>" (X.env.qual ++ "<lambda>") params body scope cl ((X.mg "__name__").getD .none) c ctv=ob'
  have hf:(h'.push ob').get? h'.objs.size=some ob':=bh _ (by rw [<- eo]; rfl)
  have hps:∀ b o,s.heap.get? b=some o->(h'.push ob').get? b=some o:=fun b o e=>aH _ (hk b o e)
  have hn:H h'.objs.size=none:=I.hok.fresh hsz
  have cf:c≠h'.objs.size:=bL la2 hn
  have un:Un (frs X.stack) [] H (upd H h'.objs.size (Qm h'.objs.size fun ctv=>PySem.W.kla_obj "<lambda>" (X.env.qual ++ "<lambda>") params body scope cl ((X.mg "__name__").getD .none) c ctv)) s.heap (h'.push ob'):=Un.laid hps hsz hn
  have hok:=I.hok.laid (a:=h'.objs.size) (o:=Qm h'.objs.size fun ctv=>PySem.W.kla_obj "<lambda>" (X.env.qual ++ "<lambda>") params body scope cl ((X.mg "__name__").getD .none) c ctv) hps hsz (Uh (ctv:=ctv) (by rw [eo]; qV hf))
  have J:=I.call (g':=s.gens) (d':=s.drawn) (t':=tk) (ch:=[]) un hok I.bare fun b z=>nomatch z
  subst eo
  qV⟨.ref h'.objs.size,_,J,rfl,q h'.objs.size c _ hn cf.symm (fun z=>nomatch z) (fun c0 z=>by cases z; rfl) ⟨(bM (bL la1 hn)).trans la1,(bM cf).trans la2⟩ bK fun b _ _ n=>bM n⟩
end
def wo (as:List Addr) (H:Hp):Hp:=fun b=>if b∈as then none else H b
~!mz {as:List Addr}{H:Hp}{b:Addr} (h:b ∉ as):wo as H b=H b:=by unfold wo; rw [if_neg h]
~!wW {as:List Addr}{H:Hp}{b:Addr} (h:b∈as):wo as H b=none:=by unfold wo; rw [if_pos h]
~!rO {as:List Addr}{H:Hp}{b:Addr}{u:HO} (e:wo as H b=some u):b ∉ as/\H b=some u:=by
 by_cases h:b∈as
 .rw [wW h] at e; cases e
 .rw [mz h] at e; qV⟨h,e⟩
~!wI {as:List Addr}{H:Hp}{b:Addr} (e:H b=none):wo as H b=none:=by
 unfold wo; split
 .rfl
 .exact e
~!mD {as:List Addr}{H:Hp} : Same (wo as H) H:=fun b o e=>(rO e).2
noncomputable def M8 (base h:Heap) (L:List Addr):Heap:=PySem.W.hideAll h ((List.range h.objs.size).filter fun b=>!(base.get? b).isSome && !decide (b∈L))
~!QF {base h:Heap}{L:List Addr} : (M8 base h L).objs.size=h.objs.size:=PySem.W.hideAll_size _ _
~!vX {base h:Heap}{L:List Addr}{b:Addr}{o:Obj} (e:h.get? b=some o) (k:(base.get? b).isSome=true\/b∈L):(M8 base h L).get? b=some o:=by
 z5 PySem.W.hideAll_get _ e fun z=>?_
 have:=(List.mem_filter.mp z).2
 rcases k with k | k <;> simp [k] at this
~!MK {base h:Heap}{L:List Addr}{b:Addr}{o:Obj} (e:(M8 base h L).get? b=some o):h.get? b=some o/\((base.get? b).isSome=true\/b∈L):=by
 have e':h.get? b=some o:=PySem.W.of_hideAll _ e
 z5⟨e',?_⟩
 cases k:(base.get? b).isSome with
 | true=>qV .inl rfl
 | false =>
  by_cases m:b∈L
  .exact .inr m
  .have:(M8 base h L).get? b=none:=PySem.W.hideAll_none _ (List.mem_filter.mpr ⟨List.mem_range.mpr (aK e'),by simp [k,m]⟩)
   rw [this] at e; cases e
def Zk (Pt:Addr) (pos:Pos) (qual:Str) (mkO:Addr->Value->Obj) (js:List Nat) (spR:List V->Addr->Sp) (ta:TA):TE:=fun σ H Q=>ta σ H fun vs H1=>∃ (f c:Addr) (frees:List V),H1 f=some (Qm f (mkO c))/\f≠c/\wR Pt pos qual H1 (some c)/\(js.map fun j=>σ[j]?)=frees.map (fun v=>some (some v)) /\
 spR frees f vs (wo [Pt,c,f] H1) (fun v H'=>∀ H'',(∀ b,b≠Pt->b≠c->H'' b=H' b)->wR Pt pos qual H'' (some c)->H' Pt=none->H' c=none->H' f=none->Q v H'') E0
section
variable {X:Cx}
~!Td {pins:List (Addr×Obj)}{σ:St}{H:Hp}{s:Shared}{scope:Scope}{B:Heap} (I:Inv X pins σ H s):∀ {cl:List (Str×Addr)}{js:List Nat}{frees:List V},(js.map fun j=>σ[j]?)=frees.map (fun v=>some (some v))->(js.map fun j=>X.N[j]?)=cl.map (fun q=>some q.1) ->
  (∀ q∈cl,X.env.kindOf q.1=some .cell/\X.env.cells.lookup q.1=some q.2/\scope.names.lookup q.1=some .free)->(cl.map (·.1)).Nodup->(∀ q∈cl,∀ o,s.heap.get? q.2=some o->B.get? q.2=some o)->wJ B scope cl frees
 | [],js,frees,h1,h2,_,_,_=>by
  cases js with
  | nil=>cases frees with
   | nil=>qV .nil
   | cons _ _=>cases h1
  | cons _ _=>cases h2
 | (x,c)::cl,js,frees,h1,h2,h3,h4,h5=>by
  cases js with
  | nil=>cases h2
  | cons j js =>
   cases frees with
   | nil=>cases h1
   | cons v frees =>
    simp only [List.map_cons,List.cons.injEq] at h1 h2
    x5⟨k1,k2,k3⟩:=h3 (x,c) aQ
    x5⟨m,hn,hl⟩:=I.loc
    x5⟨u,r,l⟩:=hl j x v h2.1 h1.1 (.inr (.inl k1))
    have q:∃ c',X.env.cells.lookup x=some c'/\s.heap.IsCell c' (some u):=by
     rcases l with ⟨z,_⟩ | ⟨_,z⟩
     .rw [show X.env.kindOf x=some .cell from k1] at z; cases z
     .exact z
    x5⟨c',e1,o,ho,hd⟩:=q
    rw [show X.env.cells.lookup x=some c from k2] at e1
    cases e1
    have nd:=List.nodup_cons.mp h4
    have nl:cl.lookup x=none:=by
     cases e:cl.lookup x with
     | none=>rfl
     | some c2=>qV absurd (List.mem_map.mpr ⟨(x,c2),uL e,rfl⟩) nd.1
    z5 .cons k3 ⟨o,h5 _ aQ o ho,hd⟩ r nl (fun y hy=>?_) (Td I h1.2 h2.2 (fun q hq=>h3 q (aJ _ hq)) nd.2 fun q hq=>h5 q (aJ _ hq))
    x5⟨_,e2,_⟩:=h3 (y,c) (aJ _ hy)
    have:=I.ok.inj x y c k2 e2
    subst this
    qV nd.1 (List.mem_map.mpr ⟨(x,c),hy,rfl⟩)
variable {p pos pos':Pos}{e:Expr}{es:List Expr}{t:TA}{x y:Str}{k kL:Nat}{ps:List Str}{Pt fR:Addr}{fd:FuncData}{params:Arguments}{body:Expr}{scope:Scope}{cl:List (Str×Addr)}{js:List Nat}{spL:List V->Sp}{spR:List V->Addr->Sp}{qual:Str}{pm:Value}
~!Rk (hg:Gl X x) (hm:X.mg x=some (.ref fR)) (hk:PySem.W.keepIn X.K (.ref fR)=true) (hb:Binds X.K fd ps []) (hr:fU k X.A)
  (F:∀ base' frees f,OkL X.prog X.w X.K X.mg base' kL f [y] (spL frees)->cD X.prog X.w X.K X.mg base' CX0 k fR fd ps (spR frees f))
  (L:∀ base' frees f c ctv,base'.get? f=some (PySem.W.kla_obj "<lambda>" qual params body scope cl pm c ctv)->base'.CodeRec (.ref c) qual->wJ base' scope cl frees->OkL X.prog X.w X.K X.mg base' kL f [y] (spL frees))
  (hj:(js.map fun j=>X.N[j]?)=cl.map (fun q=>some q.1)) (hcl:∀ q∈cl,X.env.kindOf q.1=some .cell/\X.env.cells.lookup q.1=some q.2/\scope.names.lookup q.1=some .free) (nd:(cl.map (·.1)).Nodup) (hfn:∀ q∈cl,X.fn q.1=true)
  (ha:PA X (e::es) t) (hdb:(x == ("__debug__" : Str))=false:=by decide)
  (he:starEach (e::es) X.env=(false,eval e X.env)::starEach es X.env:=by rfl) (hpl:(backTo pos' (starEach es X.env)).any (·.1)=false:=by rfl) :
  PE X (.Call (.Name x p) (e::es) [] pos') (Zk Pt pos qual (fun c ctv=>PySem.W.kla_obj "<lambda>" qual params body scope cl pm c ctv) js spR t):=by
 intro pins s σ H Q I h
 z5 wpAny_Call_Name_kw (lY I hg hm ?_ hdb)
 z5 PySem.W.callWith_K (h₀:=X.base) I.ok.mod.kin hk (thn (ha pos' pins s σ H _ I h) ?_) he hpl
 rintro us s1 ⟨vs,H1,J,r,f,c,frees,hf,nfc,⟨la1,la2⟩,hfr,q⟩
 z5⟨J.kIn,?_⟩
 x5⟨ctv,of_⟩:=(J.hok f _ hf).1
 have rc:s1.heap.CodeRec (.ref c) qual:=Uu (J.hok c _ la2)
 x5⟨_,oc,ws,tw,ez,hoc,hdc,hqc⟩:=rc
 cases ez
 have hP:s1.heap.get? Pt=some (PySem.W.tabObj (trip pos c)):=J.hok Pt _ la1
 have ncp:c≠Pt:=fM la2 la1 (by intro z; cases z)
 have nfp:f≠Pt:=fM hf la1 (by intro z; cases z)
 let Lk:List Addr:=f::c::cl.map (·.2)
 let B:=M8 X.base s1.heap Lk
 let Hn:=wo [Pt,c,f] H1
 have hnO:∀ {b:Addr}{u:HO},H1 b=some u->(∀ ps,u≠.tbl ps)->(∀ φ,u≠.ext φ)->Hn b=some u:=fun {b u} e n1 n2=>(mz (by
  intro z
  simp only [List.mem_cons,List.not_mem_nil,or_false] at z
  rcases z with z | z | z <;> subst z
  .rw [la1] at e; cases e; qV n1 _ rfl
  .rw [la2] at e; cases e; qV n2 _ rfl
  .rw [hf] at e; cases e; qV n2 _ rfl)).trans e
 have bB:∀ b o,X.base.get? b=some o->B.get? b=some o:=fun b o e=>vX (J.bk b o e) (.inl (by rw [e]; rfl))
 have mod:Mod X.K X.mg B:=by
  x5⟨m1,m2,⟨mb,m3,m4⟩,m5⟩:=J.ok.mod
  qV⟨m1.keeps bB,m2.keeps bB,⟨mb,m3.keeps bB,m4⟩,m5.keeps bB⟩
 have cellIn:∀ q∈cl,H1 q.2=none/\X.s₀.heap.objs.size <= q.2/\q.2≠X.env.locals:=fun q hq=>by
  x5⟨_,z,_⟩:=hcl q hq
  qV⟨J.freeC _ _ z,J.ok.cab _ _ (hfn q hq) z,J.cne _ _ z⟩
 have bs:∀ b o,B.get? b=some o->s1.heap.get? b=some o/\Hn b=none:=fun b o e=>by
  x5⟨e1,k⟩:=MK e
  z5⟨e1,?_⟩
  rcases k with k | k
  .obtain ⟨o',ho'⟩:=Option.isSome_iff_exists.mp k
   qV wI (J.bs b o' ho').2
  .rcases List.mem_cons.mp k with rfl | k
   .exact wW (by simp)
   .rcases List.mem_cons.mp k with rfl | k
    .exact wW (by simp)
    .obtain ⟨q,hq,rfl⟩:=List.mem_map.mp k
     qV wI (cellIn q hq).1
 have stk:∀ b∈frs X.stack,B.get? b=none:=fun b hb'=>by
  cases z:B.get? b with
  | none=>rfl
  | some o =>
   have fr:=J.stkFree b hb'
   rcases (MK z).2 with k | k
   .have:=(J.stack.mem hb').1
    rw [this] at k; cases k
   .rcases List.mem_cons.mp k with rfl | k
    .rw [hf] at fr; cases fr
    .rcases List.mem_cons.mp k with rfl | k
     .rw [la2] at fr; cases fr
     .obtain ⟨q,hq,rfl⟩:=List.mem_map.mp k
      x5⟨_,z1,z2⟩:=cellIn q hq
      rcases List.mem_cons.mp (J.stkSub _ hb') with w | w
      .exact absurd w z2
      .obtain ⟨_,o',ho',_⟩:=J.ok.funs.mem w
       qV absurd (aW (aK ho') z1) (Nat.lt_irrefl _)
 have funs:s1.heap.FunFrames B X.stack:=by
  have all:∀ (l:List Env),(∀ b∈frs l,B.get? b=none)->s1.heap.FunFrames X.base l->s1.heap.FunFrames B l:=by
   intro l
   induction l with
   | nil=>intro _ _; trivial
   | cons env r ih =>
    intro hs hl
    x5⟨hk',⟨L',o,hf',hn,ho,hd⟩,hr'⟩:=hl
    qV⟨hk',⟨L',o,hf',hs L' (by unfold frs; rw [List.filterMap_cons,hf']; qV aQ),ho,hd⟩,ih (fun b hb'=>hs b (by unfold frs; rw [List.filterMap_cons,hf']; qV aJ _ hb')) hr'⟩
  qV all X.stack stk J.stack
 have hok:HOk X.prog X.w Hn s1.heap:=fun b u e=>by
  x5⟨nb,e'⟩:=rO e
  qV(J.hok b u e').stay (fun _ _ _ z=>z) (fun d z=>hnO z (fun _ w=>by cases w) fun _ w=>by cases w) fun d xs z=>hnO z (fun _ w=>by cases w) fun _ w=>by cases w
 have e0:DK X.prog X.w X.K X.mg B X.A X.stack s1 Hn:=⟨J.ok.frames,mod,bs,by rw [QF]; qV aG _,funs,fun b z=>wI (J.stkFree b z),hok,J.bare⟩
 have G:=F B frees f (L B frees f c ctv (vX of_ (.inr aQ)) ⟨c,oc,ws,tw,rfl,vX hoc (.inr (aJ _ aQ)),hdc,hqc⟩
  (Td J hfr hj hcl nd fun q hq o ho=>vX ho (.inr (aJ _ (aJ _ (List.mem_map.mpr ⟨q,hq,rfl⟩))))))
 have hl:us.length=ps.length:=by rw [<- r.length]; qV G.len _ _ _ _ q
 have hbb:=hb s1 us J.kIn (by rw [List.append_nil]; qV hl)
 rw [List.append_nil] at hbb
 z5 wpAny_call (codeAny_mono (G.run X.A X.stack s1 Hn ⟨[]++us,[]⟩ us vs _ E0 hr e0 hbb r q) ?_)
 intro res s' hq
 cases res with
 | error e=>qV hq.elim
 | ok fl =>
  cases fl with
  | next=>qV False.elim hq
  | brk=>qV False.elim hq
  | cont=>qV False.elim hq
  | ret u =>
   x5⟨v,H',os,bare,un,hok',rv,q'⟩:=hq
   have np:Pt ∉ frs X.stack:=fun z=>by have:=J.stkFree _ z; rw [la1] at this; cases this
   have nc:c ∉ frs X.stack:=fun z=>by have:=J.stkFree _ z; rw [la2] at this; cases this
   have hnP:Hn Pt=none:=wW (by simp)
   have hnC:Hn c=none:=wW (by simp)
   have kP:=un.keep Pt _ hP hnP np (by simp)
   have kC:=un.keep c _ hoc hnC nc (by simp)
   have fP:=un.free Pt _ hP hnP (by simp)
   have fC:=un.free c _ hoc hnC (by simp)
   let H'':Hp:=upd (upd H' Pt (.tbl (trip pos c))) c (Ft c qual)
   have eP:H'' Pt=some (.tbl (trip pos c)):=(bM ncp.symm).trans bK
   have eC:H'' c=some (Ft c qual):=bK
   have eO:∀ b,b≠Pt->b≠c->H'' b=H' b:=fun b n1 n2=>(bM n2).trans (bM n1)
   have no:∀ {b:Addr}{u:HO},H' b=some u->b≠Pt/\b≠c:=fun e=>⟨(fun z=>by rw [z,fP] at e; cases e),(fun z=>by rw [z,fC] at e; cases e)⟩
   have n0:∀ {b:Addr},H1 b=none->b≠Pt/\b≠c:=fun e=>⟨(fun z=>by rw [z,la1] at e; cases e),(fun z=>by rw [z,la2] at e; cases e)⟩
   have un':Un (frs X.stack) [] H1 H'' s1.heap s'.heap:=by
    z5⟨fun b o e n=>un.keep b o e (wI n),fun b o e n=>un.slot b o e (wI n),fun b o e n z=>?_,un.there,fun b xs e=>?_,fun b o u e=>?_,fun b ps e=>?_⟩
    .rw [eO b (n0 n).1 (n0 n).2]; qV un.free b o e (wI n) z
    .have:=un.tups b xs (hnO e (fun _ w=>by cases w) fun _ w=>by cases w)
     rw [eO b (no this).1 (no this).2]; qV this
    .have:=un.frzs b o u (hnO e (fun _ w=>by cases w) fun _ w=>by cases w)
     rw [eO b (no this).1 (no this).2]; qV this
    .by_cases z:b=Pt
     .subst z
      rw [la1] at e; cases e
      qV⟨#[],by rw [eP]; simp⟩
     .obtain ⟨more,this⟩:=un.tbls b ps ((mz (by
       intro w
       simp only [List.mem_cons,List.not_mem_nil,or_false] at w
       rcases w with w | w | w
       .exact z w
       .subst w; rw [la2] at e; cases e
       .subst w; rw [hf] at e; cases e)).trans e)
      qV⟨more,by rw [eO b (no this).1 (no this).2]; qV this⟩
   have hok'':HOk X.prog X.w H'' s'.heap:=fun b u e=>by
    by_cases z1:b=c
    .subst z1
     rw [eC] at e; cases e
     qV M4 ⟨_,oc,ws,tw,rfl,kC,hdc,hqc⟩
    by_cases z2:b=Pt
    .subst z2
     rw [eP] at e; cases e
     qV kP
    rw [eO b z2 z1] at e
    qV(hok' b u e).stay (fun _ _ _ z=>z) (fun d z=>by rw [eO d (no z).1 (no z).2]; qV z) fun d xs z=>by rw [eO d (no z).1 (no z).2]; qV z
   qV⟨v,H'',J.call' os un' hok'' bare (fun b z=>nomatch z),rv,q' H'' eO ⟨eP,eC⟩ fP fC (un.free f _ of_ (wW (by simp)) (by simp))⟩
end
def Xz (Pt:Addr) (H:Hp):Prop:=∀ b,b≠Pt->H b=none\/∃ o xs,H b=some (.frz o (.lst xs))
~!U0 {P:Program}{w:World}{K:Frag}{mg mb:Str->Option Value}{CX:CXT}{k:Nat}{fa a c0 Pt:Addr}{fd:FuncData}{x:Str}{sp:Sp}{s₁:Shared}{vs:List Value}{ns:List Int}
  (KX:K.In s₁.heap) (hP:s₁.heap.get? Pt=some (PySem.W.tabObj #[])) (hKP:K.lookup Pt=none) (hC:PySem.W.codeHdIn K c0 Pt=true) (hB:s₁.heap.BuiltinsAt mg Pt)
  (hns:s₁.heap.Ns mainGlobals mg) (hb:s₁.heap.Ns builtinsNs mb) (hbb:∀ x:Str,x ≠ "__name__" -> mb x=bootBuiltins x) (hlim:s₁.heap.NoLimit) (hg:s₁.gens = #[])
  (ha:s₁.heap.get? a=some { cls:=.type "list",data:=.seq vs.toArray }) (hi:IntsAre vs ns) (hl:ns.length <= sizeLine) (hr:fU k callerA)
  (F:∀ base:Heap,K.In base->base.Ns mainGlobals mg->base.BuiltinsAt mg Pt->cD P w K mg base CX k fa fd [x] sp) (hbind:∀ (s:Shared) (u:Value),BindsTo s fd ⟨[u],[]⟩ [(x,u)])
  (hsp:∀ H:Hp,Xz Pt H->H Pt=some (.tbl #[])->SqL K H a (ns.map V.int)->sp [.ref a] H (fun v _=>v=.bl true) fun _ _ _=>False)
  (hCX:∀ H e s',CX [] H s₁ (fun _ _ _=>False) e s'->False) :
  codeAny (model P w) callerA (.call (.ref fa) ⟨[.ref a],[]⟩) (fun r s'=>r=.ok (.ret (.bool true))/\OldK s₁.heap s'.heap/\s'.os=s₁.os/\AllBare s'.gens) s₁:=by
 have rv:=wH hi
 have lenV:=hi.length
 have nPa:a≠Pt:=fun z=>by rw [z,hP] at ha; cases ha
 have core:∀ H:Hp,Xz Pt H->H Pt=some (.tbl #[])->SqL K H a (ns.map V.int)->HOk P w H s₁.heap->(∀ b,H b≠none->b=a\/b=Pt)->(H a≠none->K.lookup a=none) ->
   codeAny (model P w) callerA (.call (.ref fa) ⟨[.ref a],[]⟩) (fun r s'=>r=.ok (.ret (.bool true))/\OldK s₁.heap s'.heap/\s'.os=s₁.os/\AllBare s'.gens) s₁:=by
  intro H hO hT hS hok hA hK
  have base_of:∀ {b:Addr}{o:Obj},s₁.heap.get? b=some o->H b=none->(xJ s₁.heap H).get? b=some o:=fun e n=>Mv e n
  have noA:∀ {b:Addr}{o:Obj}{es:Array DictEntry}{ep:Nat},s₁.heap.get? b=some o->o.data=.dict es ep->H b=none:=fun {b o es ep} e d=>by
   cases q:H b with
   | none=>rfl
   | some u =>
    rcases hA b (by rw [q]; simp) with e' | e'
    .subst e'
     rw [ha] at e; cases e
     have d':Data.seq vs.toArray _=Data.dict es ep:=d
     cases d'
    .subst e'
     rw [hP] at e; cases e
     cases d
  have nsK:∀ {b:Addr}{m:Str->Option Value},s₁.heap.Ns b m->(xJ s₁.heap H).Ns b m:=fun {b m} h=>by
   x5⟨o,es,ep,e,d,r⟩:=h
   qV⟨o,es,ep,base_of e (noA e d),d,r⟩
  have hKb:K.In (xJ s₁.heap H):=fun b o e=>base_of (KX b o e) (by
   cases q:H b with
   | none=>rfl
   | some u =>
    rcases hA b (by rw [q]; simp) with e' | e'
    .subst e'
     rw [hK (by rw [q]; simp)] at e; cases e
    .subst e'
     rw [hKP] at e; cases e)
  have hBb:(xJ s₁.heap H).BuiltinsAt mg Pt:=by
   x5⟨bm,o,b1,b2,b3,b4,b5,b6,b7⟩:=hB
   z5⟨bm,o,b1,b2,b3,b4,base_of b5 ?_,b6,b7⟩
   cases q:H bm with
   | none=>rfl
   | some u =>
    rcases hA bm (by rw [q]; simp) with e' | e'
    .subst e'
     rw [ha] at b5; cases b5
     injection b6 with z
     qV absurd z (by decide)
    .exact absurd e' b4
  have hM:Mod K mg (xJ s₁.heap H):=⟨hKb,nsK hns,⟨mb,nsK hb,hbb⟩,by x5⟨mc,h1,h2⟩:=hlim; qV⟨mc,nsK h1,h2⟩⟩
  have e0:DK P w K mg (xJ s₁.heap H) callerA [] s₁ H:=⟨rfl,hM,fun b o e=>Ua e,Nat.le_of_eq (I8 _ _),trivial,fun b hb=>absurd (show b∈([] : List Addr) from hb) (by simp),hok,.of_eq hg⟩
  z5 codeAny_mono ((F _ hKb (nsK hns) hBb).run callerA [] s₁ H ⟨[.ref a],[]⟩ [.ref a] [.ref a] _ _ hr e0 (hbind s₁ (.ref a)) (.cons rfl .nil) (hsp H hO hT hS)) fun r s' h=>?_
  cases r with
  | error e=>qV(hCX H e s' h).elim
  | ok fl =>
   cases fl with
   | next=>qV False.elim h
   | brk=>qV False.elim h
   | cont=>qV False.elim h
   | ret u =>
    x5⟨v,H',os,bare,un,hok',r',q⟩:=h
    have q':v=.bl true:=q
    subst q'
    obtain rfl:u=Value.bool true:=r'
    have kp:∀ b o,b≠Pt->s₁.heap.get? b=some o->s'.heap.get? b=some o:=fun b o n e=>by
     cases q:H b with
     | none=>qV un.keep b o e q (by intro z; qV absurd (show b∈([] : List Addr) from z) (by simp)) (by simp)
     | some u =>
      rcases hO b n with z | ⟨ob,xs,z⟩
      .rw [q] at z; cases z
      .have z2:=un.frzs b ob _ z
       x5⟨e1,_⟩:=hok b _ z
       x5⟨e2,_⟩:=hok' b _ z2
       rw [e] at e1; cases e1
       qV e2
    x5⟨more,hm⟩:=un.tbls Pt _ hT
    have hP':s'.heap.get? Pt=some (PySem.W.tabObj (#[]++more)):=hok' Pt _ hm
    z5⟨rfl,⟨fun b o e=>?_,fun b o e=>?_⟩,os,bare⟩
    .by_cases z:b=Pt
     .subst z
      rw [hP] at e; cases e
      qV .inr (.inl ⟨((PySem.W.codeHd_of_K KX hC).tab hP).isCodeTable,rfl,#[],more,rfl,hP'⟩)
     .exact .inl (kp b o z e)
    .by_cases z:b=Pt
     .subst z; qV⟨_,hP'⟩
     .exact ⟨o,kp b o z e⟩
 cases hk:K.lookup a with
 | some o =>
  have e:=KX a o hk
  rw [ha] at e
  cases e
  z5 core (fun b=>if b=Pt then some (.tbl #[]) else none) (fun b n=>.inl (if_neg n)) (if_pos rfl) (.inr ⟨_,vs.toArray,_,hk,rfl,rfl,rfl,by rw [bw,lenV]; qV hl,by simpa using rv⟩) (fun b u z=>?_) (fun b z=>?_) fun z=>absurd (if_neg nPa) z
  .by_cases hb:b=Pt
   .have z':=(if_pos hb).symm.trans z
    cases z'
    subst hb
    qV hP
   .have z':=(if_neg hb).symm.trans z
    cases z'
  .by_cases hb:b=Pt
   .exact .inr hb
   .exact absurd (if_neg hb) z
 | none =>
  z5 core (fun b=>if b=a then some (.frz { cls:=.type "list",data:=.seq vs.toArray } (.lst (ns.map V.int))) else if b=Pt then some (.tbl #[]) else none) (fun b n=>?_) ((if_neg nPa.symm).trans (if_pos rfl)) (.inl (.inr ⟨{ cls:=.type "list",data:=.seq vs.toArray },if_pos rfl⟩)) (fun b u z=>?_) (fun b z=>?_) fun _=>hk
  .by_cases hb:b=a
   .exact .inr ⟨_,_,if_pos hb⟩
   .exact .inl ((if_neg hb).trans (if_neg n))
  .by_cases hb:b=a
   .have z':=(if_pos hb).symm.trans z
    cases z'
    subst hb
    qV⟨ha,by rw [ao]; qV hl,vs,_,rv,ha⟩
   .by_cases hb':b=Pt
    .have z':=((if_neg hb).trans (if_pos hb')).symm.trans z
     cases z'
     subst hb'
     qV hP
    .have z':=((if_neg hb).trans (if_neg hb')).symm.trans z
     cases z'
  .by_cases hb:b=a
   .exact .inl hb
   .by_cases hb':b=Pt
    .exact .inr hb'
    .exact absurd ((if_neg hb).trans (if_neg hb')) z
def Mj (K:Frag) (Pt:Addr):Sp:=fun vs H Q _=>∃ (a:Addr) (ns:List Int),vs=[.ref a]/\SqL K H a (ns.map V.int)/\ns.length <= 63/\Xz Pt H/\H Pt=some (.tbl #[])/\∀ H',Q (.bl true) H'
~!ac3 {l:PySem.W.OpenLaw}{k:Nat}{x:Str}{q:Program}{loose:List Str}{XP:(Str->Option Value)->Heap->Prop}{YP:World->Heap->Prop}{d:DefRec}{K:Params->Frag} (Pt:Addr) (c0:Addr) (hn:l.most=some 63) (hdf:d.params.defaults=[])
  (hr:fU k callerA) (hY:∀ (w:World) (h:Heap),YP w h->(K w.params).In h/\h.get? Pt=some (PySem.W.tabObj #[])) (hKP:∀ w:World,(K w.params).lookup Pt=none) (hC:∀ w:World,PySem.W.codeHdIn (K w.params) c0 Pt=true)
  (F:∀ (w:World) (mg:Str->Option Value) (fa:Addr) (h:Heap),(K w.params).In h->h.Ns mainGlobals mg->mg d.name=some (.ref fa) ->
   ∃ st,eE (K w.params) mg d.name st [x]/\∀ (base:Heap) (f:Addr) (fd:FuncData),base.BuiltinsAt mg Pt->Fun (K w.params) d.name d.name st f fd->cD l.prog w (K w.params) mg base CX0 k f fd [x] (Mj (K w.params) Pt)) :
  PySem.W.WalkO q loose XP YP l.row.toRowW d [] (fun f vs=>PySem.call f vs):=by
 z5 Att.Bw hn hdf fun w s₀ s₁ mg mb fa o pm cd doc a vs ns G Y ho hd hcd hmg hobj hints hlen hg=>?_
 x5⟨KX,hP⟩:=hY w _ Y
 x5⟨st,⟨f,fd,hf,hb,hm⟩,ok⟩:=F w mg fa _ KX G.T.g hmg
 rw [hm] at hmg
 have e:f=fa:=by injection hmg with z; injection z
 subst e
 have C:=PySem.W.codeHd_of_K KX (hC w)
 x5⟨bm,ob,b1,b2,b3,b4,b5,b6⟩:=G.T.bmain
 have hB:s₁.heap.BuiltinsAt mg Pt:=by
  z5⟨bm,ob,b1,b2,fun z=>?_,fun z=>?_,b3,b4,b5,b6⟩
  .obtain ⟨o',es,ep,e,d',_⟩:=G.T.g
   rw [z,e] at b3; cases b3; rw [d'] at b6; cases b6
  .rw [z,hP] at b3; cases b3; cases b4
 qV U0 (sp:=Mj (K w.params) Pt) KX hP (hKP w) (hC w) hB G.T.g G.T.b G.T.builtins G.T.nolimit hg hobj hints (aN hlen (by decide)) hr (fun base _ _ hB=>ok base f fd hB hf) (fun s u=>.of_eq (hb [u] rfl)) (fun H hO hT hS=>⟨a,ns,rfl,hS,hlen,hO,hT,fun _=>rfl⟩) fun H e s' z=>z
def aaS (K:Frag) (mg:Str->Option Value) (x:Str) (st:Stmt) (ps:List Str) (Pt:Addr):Prop :=
 ∃ f fd c,Fun K x x st f fd/\(∀ us:List Value,us.length=ps.length->bindArgs fd ⟨us,[]⟩=pure (ps.zip us))/\mg x=some (.ref f)/\fd.code=.ref c/\PySem.W.codeHdIn K c Pt=true
section
variable {P:Program}{w:World}{K:Frag}{mg:Str->Option Value}{base:Heap}
~!aaS.okX {k:Nat}{x:Str}{st:Stmt}{ps:List Str}{sp:Sp}{Pt:Addr} (h:aaS K mg x st ps Pt)
  (hf:∀ f fd c,Fun K x x st f fd->fd.code=.ref c->PySem.W.codeHdIn K c Pt=true->cD P w K mg base (CXO P w) k f fd ps sp):OkX P w K mg base k x ps sp:=by
 x5⟨f,fd,c,a,b,d,e,g⟩:=h
 qV⟨f,fd,hf f fd c a e g,.all b,d,a.kp⟩
~!Fun.okXc {x qual:Str}{st:Stmt}{f:Addr}{fd:FuncData}{N ps:List Str}{k:Nat}{sp:Sp}{c0:Addr} (F:Fun K x qual st f fd) (hc:fd.code=.ref c0) (S:cj N ps (bO st)) (len:∀ vs H Q E,sp vs H Q E->vs.length=ps.length)
  (hbody:∀ (A:Around) (outer:List Env) (s:Shared) (H:Hp) (vs:List V) (Q:VK) (E:XK),fU k (A.deeper (envOfC qual (bO st) s.heap.objs.size f (.ref c0)))->sp vs H Q E ->
   ∃ t,PSs (Ce (CXO P w) P w K mg base N qual (bO st) f (.ref c0) A outer s H E) (eZ st) t/\t { nx:=fun _ H'=>Q .non H',rt:=Q } (L2.start N vs) H):cD P w K mg base (CXO P w) (k+1) f fd ps sp:=by
 x5⟨oc,od,kV,doc,pm,an,cdv,ct,osl,rfl,lk,hcd⟩:=F.ex
 have hc:cdv=.ref c0:=hc
 subst hc
 qV Xy lk hcd S len fun A outer s H vs Q E hr hsp=>hbody A outer s H vs Q E hr hsp
~!q_C {h:Heap}{x:Str}{st:Stmt}{ps:List Str}{f c0 Pt:Addr}{oc:Value}{od an:Option Addr}{osl:Array (Option Value)}{kV doc pm ct:Value} (N:Nat) (hb:∀ (kV doc pm:Value) (an:Option Addr) (cdv ct:Value),Lst N fun us=>bindArgs (PySem.W.fnOf x x (gQ st) (eZ st) (bO st) .none kV doc pm an cdv ct) ⟨us,[]⟩=pure (ps.zip us)) (hN:ps.length=N:=by rfl) (X:K.In h:=by assumption) (G:h.Ns mainGlobals mg:=by assumption)
  (a:PySem.W.nsIn K mainGlobals x=some (some (.ref f)):=by k_is) (l:K.lookup f=some ⟨oc,od,.func (PySem.W.fnOf x x (gQ st) (eZ st) (bO st) .none kV doc pm an (.ref c0) ct),osl⟩:=by k_is)
  (c:PySem.W.codeIn K (.ref c0) x=true:=by k_is) (k:PySem.W.keepIn K (.ref f)=true:=by k_is) (z:PySem.W.codeHdIn K c0 Pt=true:=by kernel_rfl):aaS K mg x st ps Pt :=
 ⟨f,_,c0,PN l c k,fun us e=>Cw N (hb kV doc pm an (.ref c0) ct) us (e.trans hN),PySem.W.mg_of X G a,rfl,z⟩
def spF (Pt:Addr) (sp:Sp):Sp:=fun vs H Q _=>∃ (G:Hp) (t:Array Value),G Pt=none/\H=upd G Pt (.tbl t)/\sp vs G (fun v G'=>G' Pt=none->Q v (upd G' Pt (.tbl t))) E0
~!cD.frame {k:Nat}{f:Addr}{fd:FuncData}{ps:List Str}{sp:Sp} (Pt:Addr) (F:cD P w K mg base CX0 k f fd ps sp):cD P w K mg base CX0 k f fd ps (spF Pt sp):=by
 z5⟨fun vs H Q E h=>?_,fun A outer s H args us vs Q E hr e0 hb r h=>?_⟩
 .obtain ⟨G,t,_,_,z⟩:=h
  qV F.len vs G _ E0 z
 x5⟨G,t,g0,rfl,z⟩:=h
 have eP:upd G Pt (.tbl t) Pt=some (.tbl t):=bK
 have eO:∀ b,b≠Pt->upd G Pt (.tbl t) b=G b:=fun b n=>bM n
 have hP:s.heap.get? Pt=some (PySem.W.tabObj t):=e0.hok Pt _ eP
 have no:∀ {b:Addr}{u:HO},G b=some u->b≠Pt:=fun e z=>by rw [z,g0] at e; cases e
 have non:∀ {b:Addr},upd G Pt (.tbl t) b=none->G b=none:=fun {b} e=>by
  by_cases z:b=Pt
  .rw [z]; qV g0
  .rw [<- eO b z]; qV e
 have e1:DK P w K mg base A outer s G:=⟨e0.frames,e0.mod,fun b o e=>⟨(e0.bs b o e).1,non (e0.bs b o e).2⟩,e0.bsz,e0.funs,fun b hb=>non (e0.frf b hb),fun b u e=>by
  have e':upd G Pt (.tbl t) b=some u:=(eO b (no e)).trans e
  z5(e0.hok b u e').stay (fun _ _ _ z=>z) (fun d z=>?_) fun d xs z=>?_
  .rw [eO d (fun w=>by rw [w,eP] at z; cases z)] at z; qV z
  .rw [eO d (fun w=>by rw [w,eP] at z; cases z)] at z; qV z,e0.bare⟩
 z5 codeAny_mono (F.run A outer s G args us vs _ E0 hr e1 hb r z) fun res s' hs=>?_
 cases res with
 | error e=>qV hs.elim
 | ok fl =>
  cases fl with
  | next=>qV False.elim hs
  | brk=>qV False.elim hs
  | cont=>qV False.elim hs
  | ret u =>
   x5⟨v,H',os,bare,un,hok,rv,q⟩:=hs
   have nP:Pt ∉ frs outer:=fun z=>by have:=e0.frf _ z; rw [eP] at this; cases this
   have kP:=un.keep Pt _ hP g0 nP (by simp)
   have fP:=un.free Pt _ hP g0 (by simp)
   have no':∀ {b:Addr}{u:HO},H' b=some u->b≠Pt:=fun e z=>by rw [z,fP] at e; cases e
   have eP':upd H' Pt (.tbl t) Pt=some (.tbl t):=bK
   have eO':∀ b,b≠Pt->upd H' Pt (.tbl t) b=H' b:=fun b n=>bM n
   have back:∀ {b:Addr}{u:HO},upd G Pt (.tbl t) b=some u->(∀ ps,u≠.tbl ps)->G b=some u:=fun {b u} e n=>by
    rw [eO b (fun w=>by rw [w,eP] at e; cases e; qV n _ rfl)] at e; qV e
   z5⟨v,upd H' Pt (.tbl t),os,bare,⟨fun b o e n=>un.keep b o e (non n),fun b o e n=>un.slot b o e (non n),fun b o e n z=>?_,un.there,fun b xs e=>?_,fun b o u e=>?_,fun b ps e=>?_⟩,fun b u e=>?_,rv,q fP⟩
   .rw [eO' b (fun w=>by rw [w,eP] at n; cases n)]; qV un.free b o e (non n) z
   .have:=un.tups b xs (back e (fun _ w=>by cases w))
    rw [eO' b (no' this)]; qV this
   .have:=un.frzs b o u (back e (fun _ w=>by cases w))
    rw [eO' b (no' this)]; qV this
   .by_cases z:b=Pt
    .subst z
     rw [eP] at e; cases e
     qV⟨#[],by rw [eP']; simp⟩
    .rw [eO b z] at e
     x5⟨more,this⟩:=un.tbls b ps e
     qV⟨more,by rw [eO' b z]; qV this⟩
   .by_cases z:b=Pt
    .subst z
     rw [eP'] at e; cases e
     qV kP
    .rw [eO' b z] at e
     qV(hok b u e).stay (fun _ _ _ z=>z) (fun d z=>(eO' d (no' z)).trans z) fun d xs z=>(eO' d (no' z)).trans z
~!OkF.frame {k:Nat}{x:Str}{ps:List Str}{sp:Sp} (Pt:Addr) (G:OkF P w K mg base k x ps sp):OkF P w K mg base k x ps (spF Pt sp):=by
 x5⟨f,fd,F,b,hm,kp⟩:=G
 qV⟨f,fd,F.frame Pt,b,hm,kp⟩
end
~!WQ {K:Frag}{a:Addr}{o:Obj}{h:Heap} (X:Frag.In (K++[(a,o)]) h) (hk:K.lookup a=none):K.In h/\h.get? a=some o:=by
 z5⟨fun b u e=>X b u ?_,X a o ?_⟩
 .rw [List.lookup_append,e]; rfl
 .rw [List.lookup_append,hk]; simp [List.lookup]
section
variable {X:Cx}{pos hpos hpos2 np np2:Pos}{body suite suite2:List Stmt}{b₀ b2:Stmt}{n Dn Dn2:Str}{D D2:Addr}{i:Nat}{tb:(Value->Option Addr->L2.St->Hp->Prop)->TS}{th th2:TS}
def abF (K:Frag) (D D2:Addr) (i:Nat) (tb:(Value->Option Addr->L2.St->Hp->Prop)->TS) (th th2:TS):TS:=fun R σ H =>
 ∃ Ex:Value->Option Addr->L2.St->Hp->Prop,tb Ex R σ H/\∀ C' d σ' H',Ex C' d σ' H'->∃ C,C'=.ref C/\((PySem.W.mroIn K C (.ref D)=some true/\∀ a,H' a=none->th (R.unset i) (σ'.set i (some (.ref a))) (upd H' a (XO a C d))) \/
  (PySem.W.mroIn K C (.ref D)=some false/\PySem.W.mroIn K C (.ref D2)=some true/\th2 R σ' H'))
~!Vz (hN:X.N.Nodup) (hi:X.N[i]?=some n) (hln:X.env.scope.names.lookup n=some .local) (hgD:Gl X Dn) (hmD:X.mg Dn=some (.ref D)) (qD:PySem.W.mroIn X.K D (.type "BaseException")=some true)
  (tyD:PySem.W.typeIn X.K (.ref D)=some (.type "type")) (hgD2:Gl X Dn2) (hmD2:X.mg Dn2=some (.ref D2)) (qD2:PySem.W.mroIn X.K D2 (.type "BaseException")=some true) (tyD2:PySem.W.typeIn X.K (.ref D2)=some (.type "type")) (hst:X.stack=X.env::X.outer) (hfr:X.env.frame=some X.env.locals) (hex:X.ex=[])
  (hb:∀ pn' E' Ex,Fe (X.tryc pn' E') Ex->PSs (X.tryc pn' E') body (tb Ex)) (hh:∀ a E',PSs (X.marked a E') (b₀::suite) th) (hh2:∀ a E',PSs (X.marked a E') (b2::suite2) th2) (hdb:(Dn == ("__debug__" : Str))=false:=by decide) (hdb2:(Dn2 == ("__debug__" : Str))=false:=by decide) :
  PS X (.Try body [.ExceptHandler (some (.Name Dn np)) (some n) (b₀::suite) hpos,.ExceptHandler (some (.Name Dn2 np2)) none (b2::suite2) hpos2] [] [] pos) (abF X.K D D2 i tb th th2):=by
 intro pins s σ H R I h
 x5⟨Ex,h1,h2⟩:=h
 z5 wpAny_Try_except ?_
 have ends:∀ {Y:Cx}{pn:List (Addr×Obj)}{f:Flow}{s':Shared},(∀ {σ':L2.St}{H':Hp},Inv Y pn σ' H' s'->Inv X pins σ' H' s')->SP Y pn R f s'->SP X pins R f s':=fun {Y pn f s'} k q=>by
  cases f with
  | next=>x5⟨σ',H',J,z⟩:=q; qV⟨σ',H',k J,z⟩
  | brk=>x5⟨σ',H',J,z⟩:=q; qV⟨σ',H',k J,z⟩
  | cont=>x5⟨σ',H',J,z⟩:=q; qV⟨σ',H',k J,z⟩
  | ret u=>x5⟨v,σ',H',J,z⟩:=q; qV⟨v,σ',H',k J,z⟩
 z5 wpAny_mono (hb (X.pn++pins) _ Ex ?_ [] s σ H R I.tryc h1) (fun f s1 q=>?_) fun _ _ z=>z
 rotate_left
 .have q':=ends (fun J=>J.untry) q
  cases f with
  | next=>qV wpAny_execs_nil q'
  | brk=>qV q'
  | cont=>qV q'
  | ret u=>qV q'
 intro pins' σ1 H1 s1 a C' H' s' B d J F ex
 have J0:Inv X pins σ1 H1 s1:=J.untry
 x5⟨C,rfl,k⟩:=h2 C' d σ1 H' ex
 have F0:Fly X.prog X.w X.stack H1 s1 a (.ref C) H' s' B d:=F
 have fl0:sU B (X.env::X.outer) a (.ref C) d .none s'.heap:=by rw [<- hst]; qV F0.fl
 show wpAny _ _ (noteFrame (.ref a) X.env) _ _ _
 z5 IW (outer:=X.outer) (L:=X.env.locals) (I.ok.frames.trans (by rw [hst])) hfr fl0 fun h₄ hheld₄ sm₄=>?_
 z5 OJ hheld₄ fun h₅ fl₅ sm₅=>?_
 have J5:Inv X pins σ1 H' { s' with heap:=h₅ }:=J0.flown F0 fl₅.1 (sm₄.trans sm₅)
 x5⟨oe,vs,he,hcls,_,hd⟩:=fl₅.first
 z5 wpAny_handleBy_cons (codeAny_handlers_test ?_) (by intro q; cases q)
 z5 lY (X:=X.marked a (fun _ _=>False)) J5.marked hgD hmD ?_ hdb
 rcases k with k | k
 .obtain ⟨qS,k⟩:=k
  z5 vN (K:=X.K) J5.kIn qD tyD he hcls qS ?_
  show codeAny _ _ _ _ _
  z5 codeAny_handlers_suite_as ?_
  z5 OJ fl₅ fun h₆ fl₆ sm₆=>?_
  have J6:Inv X pins σ1 H' { s' with heap:=h₆ }:=J0.flown F0 fl₆.1 ((sm₄.trans sm₅).trans sm₆)
  x5⟨oe6,vs6,he6,hcls6,hda,hd6⟩:=fl₆.first
  have na:H' a=none:=by
   cases q:H' a with
   | none=>rfl
   | some u =>
    x5⟨o',e'⟩:=(F0.hok a u q).there
    have y:=F0.trk q e'
    rw [F0.fl.2.1] at y; cases y
  have ns:X.s₀.heap.get? a=none:=by
   cases q:X.s₀.heap.get? a with
   | none=>rfl
   | some o =>
    x5⟨⟨u,z⟩,_⟩:=J0.old hex q
    rw [F0.new] at z; cases z
  have nL:a≠X.env.locals:=fun z=>by
   x5⟨m,⟨o,es,ep,e,dd,_⟩,_⟩:=J6.loc
   rw [<- z] at e
   have e':h₆.get? a=some o:=e
   rw [he6] at e'; cases e'; rw [hd6] at dd; cases dd
  have nC:∀ x c,X.env.cells.lookup x=some c->c≠a:=fun x c e z=>by
   x5⟨v,o,e',dd⟩:=J6.cell x c e
   rw [z] at e'
   have e2:h₆.get? a=some o:=e'
   rw [he6] at e2; cases e2; rw [hd6] at dd; cases dd
  have nP:∀ p∈X.pn++pins,p.1≠a:=fun p hp z=>by
   have:=(J0.pin p hp).1
   rw [z,F0.new] at this; cases this
  have okx:dU X.prog X.w (upd H' a (XO a C d)) h₆ a (XO a C d):=⟨⟨oe6,he6,hcls6,hda,vs6,hd6⟩,⟨oe6,he6⟩,fun g1 g2 ⟨o,e1,e2⟩ kk=>⟨o,kk o e1,e2⟩⟩
  have J7:Inv X pins σ1 (upd H' a (XO a C d)) { s' with heap:=h₆ }:=J6.track na ns nL nC nP okx
  z5 uc (X:=X.marked a (fun _ _=>False)) J7.marked hN hi (.inl hln) (v:=.ref a) rfl (fun s8 J8=>?_) (.inr hln)
  have J8':Inv X pins (σ1.set i (some (.ref a))) (upd H' a (XO a C d)) s8:=J8.unmarked I.ok
  z5 wpAny_mono (hh a _ pins s8 _ _ _ J8'.marked (k a na)) (fun f s9 q=>?_) fun _ _ z=>z
  cases f with
  | next =>
   x5⟨σ',H2,J9,z⟩:=q
   qV(J9.unmarked I.ok).unname hN hi hln fun s10 J10=>⟨_,_,J10,z⟩
  | brk =>
   x5⟨σ',H2,J9,z⟩:=q
   qV(J9.unmarked I.ok).unname hN hi hln fun s10 J10=>⟨_,_,J10,z⟩
  | cont =>
   x5⟨σ',H2,J9,z⟩:=q
   qV(J9.unmarked I.ok).unname hN hi hln fun s10 J10=>⟨_,_,J10,z⟩
  | ret u =>
   x5⟨v,σ',H2,J9,rv,z⟩:=q
   qV(J9.unmarked I.ok).unname hN hi hln fun s10 J10=>⟨v,_,_,J10,rv,z⟩
 .obtain ⟨qN,qS,k⟩:=k
  z5 vN (K:=X.K) (b:=false) J5.kIn qD tyD he hcls qN ?_
  show wpAny _ _ (handleBy _ _ _) _ _ _
  z5 wpAny_handleBy_cons (codeAny_handlers_test ?_) (by intro q; cases q)
  z5 lY (X:=X.marked a (fun _ _=>False)) J5.marked hgD2 hmD2 ?_ hdb2
  z5 vN (K:=X.K) J5.kIn qD2 tyD2 he hcls qS ?_
  show codeAny _ _ _ _ _
  z5 codeAny_handlers_suite ?_
  z5 OJ fl₅ fun h₆ fl₆ sm₆=>?_
  have J6:Inv X pins σ1 H' { s' with heap:=h₆ }:=J0.flown F0 fl₆.1 ((sm₄.trans sm₅).trans sm₆)
  z5 wpAny_mono (hh2 a _ pins _ _ _ _ J6.marked k) (fun f s9 q=>?_) fun _ _ z=>z
  cases f with
  | next =>
   x5⟨σ',H2,J9,z⟩:=q
   qV⟨_,_,J9.unmarked I.ok,z⟩
  | brk =>
   x5⟨σ',H2,J9,z⟩:=q
   qV⟨_,_,J9.unmarked I.ok,z⟩
  | cont =>
   x5⟨σ',H2,J9,z⟩:=q
   qV⟨_,_,J9.unmarked I.ok,z⟩
  | ret u =>
   x5⟨v,σ',H2,J9,rv,z⟩:=q
   qV⟨v,_,_,J9.unmarked I.ok,rv,z⟩
end
end L2
namespace Lv
def U8 (bs:List Nat):Nat:=bs.foldl Nat.lcm 1
~!wL:∀ (bs:List Nat) (a m:Nat),bs.foldl Nat.lcm a ∣ m ↔ a ∣ m/\∀ b∈bs,b ∣ m
 | [],a,m=>by simp
 | b::bs,a,m=>by
  rw [List.foldl_cons,wL bs,Nat.lcm_dvd_iff]
  simp only [List.mem_cons,forall_eq_or_imp,and_assoc]
~!yU {bs:List Nat}{m:Nat} : U8 bs ∣ m ↔ ∀ b∈bs,b ∣ m:=by
 unfold U8
 rw [wL]
 simp
~!Gh {bs:List Nat}{b:Nat} (h:b∈bs):b ∣ U8 bs:=yU.mp (Nat.dvd_refl _) b h
~!wX:∀ (bs:List Nat) (a:Nat),0<a->(∀ b∈bs,0<b)->0<bs.foldl Nat.lcm a
 | [],a,h,_=>h
 | b::bs,a,h,hb=>wX bs _ (Nat.lcm_pos h (hb b aQ)) fun c hc=>hb c (aJ _ hc)
~!O6 {bs:List Nat} (h:∀ b∈bs,0<b):0<U8 bs:=wX bs 1 (by decide) h
end Lv
namespace Ac
def lw (t b:Int):Int×Int:=(t / (Int.gcd t b:Nat),b / (Int.gcd t b:Nat))
~!Ym {t b:Int} (hb:0<b):(0:Int)<(Int.gcd t b:Nat):=by
 have:=Int.gcd_pos_of_ne_zero_right t (show b≠0 by om)
 om
~!jT {t b:Int} (hb:0<b):0<(lw t b).2:=Int.ediv_pos_of_pos_of_dvd hb (Int.le_of_lt (Ym hb)) (Int.gcd_dvd_right t b)
~!xr {t b:Int} (hb:0<b):Int.gcd (lw t b).1 (lw t b).2=1:=Int.gcd_ediv_gcd_ediv_gcd (by have:=Ym (t:=t) hb; om)
~!zy {t b:Int} (hb:0<b):(lw t b).1 * b=t * (lw t b).2:=by
 have d1:=Int.gcd_dvd_left t b
 have d2:=Int.gcd_dvd_right t b
 have g0:=Ym (t:=t) hb
 unfold lw
 generalize hg:((Int.gcd t b:Nat):Int)=g at *
 x5⟨x,rfl⟩:=d1
 x5⟨y,rfl⟩:=d2
 show g * x / g * (g * y)=g * x * (g * y / g)
 rw [Int.mul_ediv_cancel_left _ (by om),Int.mul_ediv_cancel_left _ (by om),Int.mul_left_comm,Int.mul_assoc]
~!D_ (t b:Int):(lw t b).1.natAbs <= t.natAbs:=Int.natAbs_ediv_le_natAbs _ _
~!BK (t b:Int):(lw t b).2.natAbs <= b.natAbs:=Int.natAbs_ediv_le_natAbs _ _
~!Rz {a b c:Int} (h:a ∣ b * c) (g:Int.gcd a b=1):a ∣ c:=by
 z5 Int.natAbs_dvd_natAbs.mp ((show Nat.Coprime a.natAbs b.natAbs from g).dvd_of_dvd_mul_left ?_)
 rw [<- Int.natAbs_mul]
 qV Int.natAbs_dvd_natAbs.mpr h
~!uniq {x y u v:Int} (hy:0<y) (hv:0<v) (g1:Int.gcd x y=1) (g2:Int.gcd u v=1) (e:x * v=u * y):x=u/\y=v:=by
 have d1:y ∣ v:=by
  have h:y ∣ x * v:=⟨u,by rw [e,Int.mul_comm]⟩
  qV Rz h (by rw [Int.gcd_comm]; qV g1)
 have d2:v ∣ y:=by
  have h:v ∣ u * y:=⟨x,by rw [<- e,Int.mul_comm]⟩
  qV Rz h (by rw [Int.gcd_comm]; qV g2)
 have e2:y=v:=Int.dvd_antisymm (by om) (by om) d1 d2
 subst e2
 qV⟨Int.eq_of_mul_eq_mul_right (by om) e,rfl⟩
~!Yp {t b x y:Int} (hb:0<b) (hy:0<y) (g:Int.gcd x y=1) (e:x * b=t * y):x=(lw t b).1/\y=(lw t b).2:=by
 z5 uniq hy (jT hb) g (xr hb) ?_
 have h:=zy (t:=t) hb
 have h1:x * (lw t b).2 * b=(lw t b).1 * y * b:=by
  rw [Int.mul_right_comm,e,Int.mul_right_comm _ y b,h,Int.mul_right_comm]
 qV Int.eq_of_mul_eq_mul_right (by om) h1
~!acK {W x S z o:Int} (hS:0<S) (ho:0<o) (g:Int.gcd z o=1) (e:z * ((lw W S).2 * (lw x S).2)=((lw W S).1 * (lw x S).2+(lw x S).1 * (lw W S).2) * o):z=(lw (W+x) S).1/\o=(lw (W+x) S).2:=by
  z5 Yp hS ho g ?_
  have h1:=zy (t:=W) hS
  have h2:=zy (t:=x) hS
  have p1:=jT (t:=W) hS
  have p2:=jT (t:=x) hS
  generalize (lw W S).1=a at *
  generalize (lw W S).2=b at *
  generalize (lw x S).1=c at *
  generalize (lw x S).2=d at *
  have key:z * S * (b * d)=(W+x) * o * (b * d):=by
    calc z * S * (b * d)=z * (b * d) * S:=by rw [Int.mul_right_comm]
      _=(a * d+c * b) * o * S:=by rw [e]
      _=(a * S * d+c * S * b) * o:=by
        rw [Int.mul_right_comm,Int.add_mul,Int.mul_right_comm a d S,Int.mul_right_comm c b S]
      _=(W * b * d+x * d * b) * o:=by rw [h1,h2]
      _=(W+x) * o * (b * d):=by
        rw [Int.mul_assoc W,Int.mul_assoc x,Int.mul_comm d b,<- Int.add_mul,Int.mul_right_comm]
  qV Int.eq_of_mul_eq_mul_right (Int.ne_of_gt (Int.mul_pos p1 p2)) key
~!K1 {x S z o:Int} (hS:0<S) (ho:0<o) (g:Int.gcd z o=1) (e:z * (1 * (lw x S).2)=(1 * (lw x S).2 - (lw x S).1 * 1) * o):z=(lw (S - x) S).1/\o=(lw (S - x) S).2:=by
  z5 Yp hS ho g ?_
  have h2:=zy (t:=x) hS
  have p2:=jT (t:=x) hS
  generalize (lw x S).1=c at *
  generalize (lw x S).2=d at *
  rw [Int.one_mul,Int.mul_one] at e
  have key:z * S * d=(S - x) * o * d:=by
    calc z * S * d=z * d * S:=by rw [Int.mul_right_comm]
      _=(d - c) * o * S:=by rw [e]
      _=(d * S - c * S) * o:=by rw [Int.mul_right_comm,Int.sub_mul]
      _=(d * S - x * d) * o:=by rw [h2]
      _=(S - x) * o * d:=by rw [Int.mul_comm d S,<- Int.sub_mul,Int.mul_right_comm]
  qV Int.eq_of_mul_eq_mul_right (Int.ne_of_gt p2) key
~!vU {t b:Int} (hb:0<b):((lw t b).1=0/\(lw t b).2=1) ↔ t=0:=by
 have h:=zy (t:=t) hb
 have p:=jT (t:=t) hb
 constructor
 .rintro ⟨h1,h2⟩
  rw [h1,h2] at h
  om
 .rintro rfl
  have g:=xr (t:=0) hb
  rw [Int.zero_mul] at h
  have h0:(lw 0 b).1=0:=by
   rcases Int.mul_eq_zero.mp h with z | z
   .exact z
   .om
  rw [h0,Int.gcd_zero_left] at g
  qV⟨h0,by om⟩
~!acj {t b:Int} (hb:0<b) (ht:0 <= t):0 <= (lw t b).1:=Int.ediv_nonneg ht (Int.le_of_lt (Ym hb))
~!acy {t b:Int} (hb:0<b) (ht:t <= b):(lw t b).1 <= (lw t b).2:=Int.ediv_le_ediv (Ym hb) ht
~!ac7 {b:Int} (hb:0<b):(lw 1 b).1=1/\(lw 1 b).2=b:=by
 have:=Yp (t:=1) (b:=b) (x:=1) (y:=b) hb hb (by rw [Int.gcd_comm]; simp) (by rw [Int.mul_comm])
 qV⟨this.1.symm,this.2.symm⟩
section
variable {κ:Type} [DecidableEq κ]
def look (acc:List (κ×Int)) (r:κ):Int:=((acc.find? fun g=>decide (g.1=r)).map (·.2)).getD 0
def put (acc:List (κ×Int)) (r:κ) (y:Int):List (κ×Int):=if (acc.any fun g=>decide (g.1=r))=true then acc.map (fun g=>if g.1=r then (g.1,y) else g) else acc++[(r,y)]
def jl (gs:List (κ×Int)):List (κ×Int):=gs.foldl (fun a g=>put a g.1 (look a g.1+g.2)) []
~!Bb (gs:List (κ×Int)) (g:κ×Int):jl (gs++[g])=put (jl gs) g.1 (look (jl gs) g.1+g.2):=by
 unfold jl
 rw [List.foldl_append]; rfl
~!abL (acc:List (κ×Int)) (r:κ) (y:Int):(put acc r y).length <= acc.length+1:=by
 unfold put
 split
 .rw [ao]; om
 .rw [aB]; simp
~!Xn {acc:List (κ×Int)} (h:(acc.map (·.1)).Nodup) (r:κ) (y:Int):((put acc r y).map (·.1)).Nodup:=by
 unfold put
 split
 .have e:(acc.map (fun g=>if g.1=r then (g.1,y) else g)).map (·.1)=acc.map (·.1):=by
   rw [List.map_map]
   z5 List.map_congr_left fun g _=>?_
   show (if g.1=r then (g.1,y) else g).1=g.1
   split <;> rfl
  rw [e]; qV h
 .rename_i hn
  rw [bD]
  z5 List.nodup_append.mpr ⟨h,by simp,?_⟩
  intro a ha b hb e
  subst e
  simp only [List.map_cons,List.map_nil,List.mem_singleton] at hb
  subst hb
  x5⟨g,hg,e⟩:=List.mem_map.mp ha
  qV hn (List.any_eq_true.mpr ⟨g,hg,decide_eq_true e⟩)
~!O5 (acc:List (κ×Int)) (r:κ):look acc r=0\/∃ g∈acc,look acc r=g.2:=by
 unfold look
 cases h:acc.find? fun g=>decide (g.1=r) with
 | none=>qV .inl rfl
 | some g=>qV .inr ⟨g,List.mem_of_find?_eq_some h,rfl⟩
~!aar {acc:List (κ×Int)}{r:κ}{y:Int}{g:κ×Int} (h:g∈put acc r y):g.2=y\/g∈acc:=by
 unfold put at h
 split at h
 .obtain ⟨g',hg,e⟩:=List.mem_map.mp h
  split at e
  .subst e; qV .inl rfl
  .subst e; qV .inr hg
 .rcases List.mem_append.mp h with h | h
  .exact .inr h
  .rw [List.mem_singleton.mp h]; qV .inl rfl
~!vO (gs:List (κ×Int)):(∀ g∈gs,0 <= g.2)->((jl gs).map (·.1)).Nodup/\(jl gs).length <= gs.length/\∀ g∈jl gs,0 <= g.2/\g.2 <= (gs.map (·.2)).sum:=by
 suffices H:∀ (n:Nat) (gs:List (κ×Int)),gs.length=n->(∀ g∈gs,0 <= g.2)->((jl gs).map (·.1)).Nodup/\(jl gs).length <= gs.length/\(0 <= (gs.map (·.2)).sum)/\∀ g∈jl gs,0 <= g.2/\g.2 <= (gs.map (·.2)).sum from fun h=>let ⟨a,b,_,c⟩:=H _ gs rfl h; ⟨a,b,c⟩
 intro n
 induction n with
 | zero =>
  intro gs h _
  rw [List.eq_nil_of_length_eq_zero h]
  qV⟨by simp [jl],by simp [jl],by simp,by simp [jl]⟩
 | succ n ih =>
  intro gs h hp
  obtain ⟨gs',g,rfl⟩ : ∃ gs' g,gs=gs'++[g]:=⟨gs.dropLast,gs.getLast (by intro e; rw [e] at h; cases h),(List.dropLast_concat_getLast _).symm⟩
  have hl:gs'.length=n:=by rw [aB] at h; simpa using h
  x5⟨h1,h2,h3,h4⟩:=ih gs' hl fun g hg=>hp g (List.mem_append_left _ hg)
  have hg:=hp g (aU _ (by simp))
  rw [Bb]
  have hs:((gs'++[g]).map (·.2)).sum=(gs'.map (·.2)).sum+g.2:=by simp
  rw [hs]
  have lk:0 <= look (jl gs') g.1/\look (jl gs') g.1 <= (gs'.map (·.2)).sum:=by
   rcases O5 (jl gs') g.1 with e | ⟨u,hu,e⟩
   .rw [e]; qV⟨Int.le_refl _,h3⟩
   .rw [e]; qV h4 u hu
  z5⟨Xn h1 _ _,?_,by om,fun u hu=>?_⟩
  .have:=abL (jl gs') g.1 (look (jl gs') g.1+g.2)
   rw [aB]
   simp only [List.length_cons,List.length_nil]
   om
  .rcases aar hu with e | hu
   .rw [e]; om
   .have:=h4 u hu
    om
~!aa0 {acc:List (κ×Int)}{r:κ}{y:Int}{g:κ×Int} (h:g∈put acc r y):g.1=r\/g.1∈acc.map (·.1):=by
 unfold put at h
 split at h
 .obtain ⟨g',hg,e⟩:=List.mem_map.mp h
  split at e
  .subst e; qV .inr (List.mem_map.mpr ⟨g',hg,rfl⟩)
  .subst e; qV .inr (List.mem_map.mpr ⟨_,hg,rfl⟩)
 .rcases List.mem_append.mp h with h | h
  .exact .inr (List.mem_map.mpr ⟨_,h,rfl⟩)
  .rw [List.mem_singleton.mp h]; qV .inl rfl
~!Xi (gs:List (κ×Int)):∀ g∈jl gs,g.1∈gs.map (·.1):=by
 suffices H:∀ (n:Nat) (gs:List (κ×Int)),gs.length=n->∀ g∈jl gs,g.1∈gs.map (·.1) from H _ gs rfl
 intro n
 induction n with
 | zero =>
  intro gs h g hg
  rw [List.eq_nil_of_length_eq_zero h] at hg
  simp [jl] at hg
 | succ n ih =>
  intro gs h u hu
  obtain ⟨gs',g,rfl⟩ : ∃ gs' g,gs=gs'++[g]:=⟨gs.dropLast,gs.getLast (by intro e; rw [e] at h; cases h),(List.dropLast_concat_getLast _).symm⟩
  have hl:gs'.length=n:=by rw [aB] at h; simpa using h
  rw [Bb] at hu
  rw [bD]
  rcases aa0 hu with e | e
  .rw [e]; qV aU _ (by simp)
  .obtain ⟨v,hv,e⟩:=List.mem_map.mp e
   rw [<- e]
   qV List.mem_append_left _ (ih gs' hl v hv)
def ways (gs:List (κ×Int)) (S:Int):List (κ×Int×Int):=((jl gs).filter fun g=>decide (0<g.2)).map fun g=>(g.1,lw g.2 S)
~!ZK {gs:List (κ×Int)} (h:∀ g∈gs,0 <= g.2) (S:Int):(ways gs S).length <= gs.length:=by
 unfold ways
 rw [ao]
 qV aN (List.length_filter_le _ _) (vO gs h).2.1
~!ZS {gs:List (κ×Int)}{S:Int}{g:κ×Int×Int} (h:g∈ways gs S):g.1∈gs.map (·.1):=by
 unfold ways at h
 x5⟨u,hu,rfl⟩:=List.mem_map.mp h
 qV Xi gs u (List.mem_filter.mp hu).1
~!YQ {r:κ} : ways [(r,(1:Int))] 1=[(r,(1,1))]:=by
 simp [ways,jl,put,look,lw]
end
end Ac
namespace K52
open PySem PyProof.Rows L2
local macro_rules | `(tactic| walk_at "rd")=>`(tactic| simp only [q_,Gx,Vh,Xo,tOp,tUn,rU,Rx,Ph,aaH,tSl,Ei,tC,RK,rI0,rI,ab3,Ze,aa1,sV,Cu,tCB,Ar,zH,Vu,tOr,X3,SQ,Sw,acI,QT,Gu,aa8,cU,abw,Ti,RQ,Tr,Xe,RW,abS,SJ,K4,Py,yp,Kz,U4,MJ,rEq,rNe,Uq,yC,Um,Am,Rg,Lp,Rm,Ww,X8,adM,acN,Ends.unset,aa9,adz,Lx,aa4,Ss,aah,Wz,R8,W7,W2,acY,tSM,Rn,Jj,Di,W3,aai,Ry,KR,ab6,CJ,Jd,Tc,X_,rJoin,Yq,Xj,tB,Nf,aaw,Y7,CT,RN,RB,aaX,acP,Xa,Uc,JM,Xp,Ro,WX,Dq,aay,aaU,CP,V.str.injEq,
 L2.start,List.replicate_succ,List.replicate_zero,Nat.reduceSub,Nat.reduceAdd,List.map_cons,List.map_nil,List.length_cons,List.length_nil,List.cons_append,List.nil_append,List.append_nil,List.getElem?_cons_zero,List.getElem?_cons_succ,List.set_cons_zero,List.set_cons_succ,List.set_nil,Option.some.injEq,exists_eq_left',exists_eq_left,exists_and_left,exists_and_right,exists_eq_right,exists_eq,exists_eq',and_assoc,V.int.injEq,V.ref.injEq,V.bl.injEq,V.ty.injEq,List.cons.injEq,HO.tup.injEq,HO.lst.injEq,and_true,true_and,reduceCtorEq,d8,dD,bK,decide_true,decide_false,Bool.not_true,Bool.not_false,if_true,if_false,ite_true,ite_false,Bool.false_eq_true,List.mem_cons,String.reduceEq,or_true,true_or,or_false,false_or,beq_self_eq_true,Bool.or_true,Bool.true_or,Bool.or_false,Bool.false_or,Bool.and_true,Bool.and_false,Bool.true_and,Bool.false_and,String.reduceBEq,Int.reduceToNat,Int.reducePow,Int.reduceMul,Int.reduceSub,Int.reduceAdd,Int.reduceNeg,Int.reduceLE,Int.reduceLT,Int.reduceEq,ne_eq,not_false_eq_true,not_true_eq_false,Int.cast_ofNat_Int])
open PySem.NumText
abbrev abd:Stmt:=top 0
abbrev W6:List Str:=["k"]
abbrev Wr:Str := "_wall"
abbrev xK:Stmt:=top 9
abbrev fQ:List Str:=["thing"]
abbrev fL:Str := "is_whole"
abbrev Q5:List Str:=["thing"]
~!Mz:cj Q5 fQ (bO xK):=fsc
abbrev Bk:Stmt:=top 10
abbrev iI:List Str:=["one", "other"]
abbrev iC:Str := "divisor"
abbrev Vl:List Str:=["one", "other", "left", "right", "rest"]
~!nq:cj Vl iI (bO Bk):=fsc
abbrev Lf:Stmt:=top 14
abbrev jZ:List Str:=["top", "bottom"]
abbrev jY:Str := "ratio"
abbrev abD:List Str:=["top", "bottom", "common"]
~!FP:cj abD jZ (bO Lf):=fsc
abbrev xO:Stmt:=top 15
abbrev jk:List Str:=["thing"]
abbrev jA:Str := "is_ratio"
abbrev Qe:List Str:=["thing", "top", "bottom"]
~!uF:cj Qe jk (bO xO):=fsc
abbrev Q0:Stmt:=top 16
abbrev yq:List Str:=["one", "other"]
abbrev Ab:Str := "plus"
abbrev ac1:List Str:=["one", "other"]
~!aat:cj ac1 yq (bO Q0):=fsc
abbrev Ld:Stmt:=top 17
abbrev uI:List Str:=["one", "other"]
abbrev vD:Str := "minus"
abbrev abj:List Str:=["one", "other"]
~!WY:cj abj uI (bO Ld):=fsc
abbrev Pu:Stmt:=top 18
abbrev zR:List Str:=["one", "other"]
abbrev zm:Str := "over"
abbrev acM:List Str:=["one", "other"]
~!abE:cj acM zR (bO Pu):=fsc
abbrev JB:Stmt:=top 19
abbrev n_:List Str:=["one", "other"]
abbrev oA:Str := "under"
abbrev abk:List Str:=["one", "other"]
~!Xx:cj abk n_ (bO JB):=fsc
abbrev yI:Stmt:=top 21
abbrev jr:List Str:=["fractions"]
abbrev iK:Str := "level"
abbrev TX:List Str:=["fractions", "bottom", "one"]
~!zf:cj TX jr (bO yI):=fsc
abbrev Jt:Stmt:=top 22
abbrev uo:List Str:=["fractions"]
abbrev tO:Str := "total"
abbrev aaQ:List Str:=["fractions", "leveled"]
~!N6:cj aaQ uo (bO Jt):=fsc
abbrev xM:Stmt:=top 23
abbrev oh:List Str:=["fractions"]
abbrev ou:Str := "greatest"
abbrev Qi:List Str:=["fractions", "found", "one"]
~!qg:cj Qi oh (bO xM):=fsc
abbrev j4:Stmt:=top 25
abbrev jq:List Str:=["offer", "tops"]
abbrev jt:Str := "behind_door"
abbrev jW:List Str:=["offer", "tops", "leveled"]
~!uR:cj jW jq (bO j4):=fsc
abbrev oW:Stmt:=top 27
abbrev iQ:List Str:=["hall", "goals"]
abbrev gG:Str := "goal_marks"
abbrev Jz:List Str:=["hall", "goals", "marks", "goal"]
~!iW:cj Jz iQ (bO oW):=fsc
abbrev sO:Stmt:=top 30
abbrev j5:List Str:=["many"]
abbrev jU:Str := "check_many"
abbrev JV:List Str:=["many"]
~!Hi:cj JV j5 (bO sO):=fsc
abbrev Af:Stmt:=top 31
abbrev pN:List Str:=["raised", "bottom"]
abbrev pJ:Str := "lowered"
abbrev VB:List Str:=["raised", "bottom"]
~!Pr:cj VB pN (bO Af):=fsc
abbrev o9:Stmt:=top 32
abbrev iU:List Str:=["hall", "marks", "ahead"]
abbrev iR:Str := "goal_round"
abbrev rK:List Str:=["hall", "marks", "ahead", "leveled", "told", "room", "goal", "offered", "most"]
~!gH:cj rK iU (bO o9):=fsc
abbrev oF:Stmt:=top 33
abbrev nA:List Str:=["first", "many", "follow"]
abbrev m9:Str := "rounds_behind"
abbrev Cg:List Str:=["first", "many", "follow", "told"]
~!rA:cj Cg nA (bO oF):=fsc
abbrev gK:Stmt:=top 34
abbrev iu:List Str:=["hall", "goals", "many"]
abbrev fV:Str := "goal_rounds"
abbrev qw:List Str:=["hall", "goals", "many", "marks", "first"]
~!pH:cj qw iu (bO gK):=fsc
abbrev wz:Stmt:=top 37
abbrev lg:List Str:=["thing"]
abbrev lA:Str := "is_word"
abbrev Av:List Str:=["thing"]
~!QV:cj Av lg (bO wz):=fsc
abbrev rC:Stmt:=top 39
abbrev iY:List Str:=["name", "pay"]
abbrev iT:Str := "check_head"
abbrev Ko:List Str:=["name", "pay"]
~!HN:cj Ko iY (bO rC):=fsc
abbrev mQ:Stmt:=top 40
abbrev eU:List Str:=["room"]
abbrev eG:Str := "check_room_name"
abbrev yw:List Str:=["room"]
~!xP:cj yw eU (bO mQ):=fsc
abbrev pB:Stmt:=top 41
abbrev f9:List Str:=["chance"]
noncomputable abbrev fZ:Str := "check_chance"
noncomputable abbrev Eh:List Str:=["chance"]
~!Ca:cj Eh f9 (bO pB):=fsc
noncomputable abbrev nQ:Stmt:=top 42
noncomputable abbrev ju:List Str:=["pairs"]
noncomputable abbrev jd:Str := "check_pairs"
noncomputable abbrev qC:List Str:=["pairs", "room", "chance"]
~!pU:cj qC ju (bO nQ):=fsc
noncomputable abbrev nY:Stmt:=top 43
noncomputable abbrev jw:List Str:=["pairs"]
noncomputable abbrev jm:Str := "joined_ways"
noncomputable abbrev wZ:List Str:=["pairs", "chances", "room", "chance"]
~!lO:cj wZ jw (bO nY):=fsc
noncomputable abbrev qH:Stmt:=top 50
noncomputable abbrev ji:List Str:=["share"]
noncomputable abbrev jo:Str := "check_share"
noncomputable abbrev Hw:List Str:=["share"]
~!Gk:cj Hw ji (bO qH):=fsc
noncomputable abbrev rZ:Stmt:=top 51
noncomputable abbrev j7:List Str:=["rooms"]
noncomputable abbrev j9:Str := "numbers_of"
noncomputable abbrev Kw:List Str:=["rooms", "numbers", "room", "name"]
~!nR:cj Kw j7 (bO rZ):=fsc
noncomputable abbrev oO:Stmt:=top 52
noncomputable abbrev ig:List Str:=["door", "numbers"]
noncomputable abbrev iw:Str := "numbered_ways"
noncomputable abbrev Cq:List Str:=["door", "numbers", "numbered", "name", "chance"]
~!jG:cj Cq ig (bO oO):=fsc
noncomputable abbrev vq:Stmt:=top 53
noncomputable abbrev lV:List Str:=["doors", "numbers"]
noncomputable abbrev mH:Str := "offers_of"
noncomputable abbrev Mq:List Str:=["doors", "numbers", "taken", "told", "door"]
~!oU:cj Mq lV (bO vq):=fsc
noncomputable abbrev QD:Stmt:=top 56
noncomputable abbrev vW:List Str:=["_law_script", "_law_k"]
noncomputable abbrev wD:Str := "_law_cell"
noncomputable abbrev adX:List Str:=["_law_script", "_law_k"]
~!aa6:cj adX vW (bO QD):=fsc
noncomputable abbrev Gp:Stmt:=top 57
noncomputable abbrev g_:List Str:=["_law_cell_here", "_law_many"]
noncomputable abbrev iy:Str := "_law_stream"
noncomputable abbrev Wx:List Str:=["_law_cell_here", "_law_many", "_law_found", "_law_number", "_law_digits", "_law_k"]
~!lG:cj Wx g_ (bO Gp):=fsc
noncomputable abbrev Zj:Stmt:=top 58
noncomputable abbrev Bq:List Str:=["_law_one", "_law_other"]
noncomputable abbrev Ba:Str := "_law_gcd"
noncomputable abbrev ae9:List Str:=["_law_one", "_law_other", "_law_low", "_law_high"]
~!JT:cj ae9 Bq (bO Zj):=fsc
noncomputable abbrev Dy:Stmt:=top 59
noncomputable abbrev m6:List Str:=["_law_top", "_law_bottom"]
noncomputable abbrev nG:Str := "_law_ratio"
noncomputable abbrev Zo:List Str:=["_law_top", "_law_bottom", "_law_common"]
~!IK:cj Zo m6 (bO Dy):=fsc
noncomputable abbrev tG:Stmt:=top 60
noncomputable abbrev lW:List Str:=["_law_found"]
noncomputable abbrev mZ:Str := "_law_is_ratio"
noncomputable abbrev NQ:List Str:=["_law_found", "_law_number"]
~!zO:cj NQ lW (bO tG):=fsc
noncomputable abbrev o8:Stmt:=top 61
noncomputable abbrev j8:List Str:=["_law_found", "_law_many"]
noncomputable abbrev j6:Str := "_law_are_ratios"
noncomputable abbrev rD:List Str:=["_law_found", "_law_many"]
~!G7:cj rD j8 (bO o8):=fsc
noncomputable abbrev s_same:Stmt:=top 62
noncomputable abbrev yN:List Str:=["_law_one", "_law_other"]
noncomputable abbrev yc:Str := "_law_same"
noncomputable abbrev ady:List Str:=["_law_one", "_law_other"]
~!abx:cj ady yN (bO s_same):=fsc
noncomputable abbrev v9:Stmt:=top 63
noncomputable abbrev uO:List Str:=["_law_cell_here", "_law_many"]
noncomputable abbrev ud:Str := "_law_names"
noncomputable abbrev sy:List Str:=["_law_cell_here", "_law_many", "_law_letters", "_law_xs", "_law_base", "_law_at", "_law_step"]
~!qT:cj sy uO (bO v9):=fsc
noncomputable abbrev JX:Stmt:=top 64
noncomputable abbrev u_:List Str:=["_law_cell_here", "_law_small"]
noncomputable abbrev vp:Str := "_law_share"
noncomputable abbrev abP:List Str:=["_law_cell_here", "_law_small", "_law_xs", "_law_bottom"]
~!Ga:cj abP u_ (bO JX):=fsc
noncomputable abbrev Zm:Stmt:=top 65
noncomputable abbrev Er:List Str:=["_law_cell_here", "_law_x", "_law_y", "_law_small"]
noncomputable abbrev Et:Str := "_law_pay"
noncomputable abbrev aeT:List Str:=["_law_cell_here", "_law_x", "_law_y", "_law_small"]
~!adE:cj aeT Er (bO Zm):=fsc
noncomputable abbrev w6:Stmt:=top 66
noncomputable abbrev zM:List Str:=["_law_cell_here", "_law_many", "_law_small"]
noncomputable abbrev zx:Str := "_law_door"
noncomputable abbrev sS:List Str:=["_law_cell_here", "_law_many", "_law_small", "_law_xs", "_law_rooms", "_law_sort", "_law_pairs", "_law_bottom", "_law_part", "_law_weights"]
~!j_:cj sS zM (bO w6):=fsc
noncomputable abbrev CN:Stmt:=top 67
noncomputable abbrev ux:List Str:=["_law_script", "_law_at", "_law_many", "_law_small"]
noncomputable abbrev tQ:Str := "_law_doors"
noncomputable abbrev Kg:List Str:=["_law_script", "_law_at", "_law_many", "_law_small", "_law_rooms", "_law_first", "_law_cells", "_law_cell_here", "_law_room", "_law_door_here"]
~!pL:cj Kg ux (bO CN):=fsc
noncomputable abbrev zG:Stmt:=top 68
noncomputable abbrev tD:List Str:=["_law_title", "_law_door_here", "_law_names_here"]
noncomputable abbrev uZ:Str := "_law_built"
noncomputable abbrev zc:List Str:=["_law_title", "_law_door_here", "_law_names_here", "_law_told", "_law_sort", "_law_pay_here", "_law_pairs"]
~!uy:cj zc tD (bO zG):=fsc
noncomputable abbrev K5:Stmt:=top 69
noncomputable abbrev yG:List Str:=["_law_cell_here", "_law_share_here", "_law_rooms"]
noncomputable abbrev yZ:Str := "_law_hall"
noncomputable abbrev Pn:List Str:=["_law_cell_here", "_law_share_here", "_law_rooms", "_law_names_here", "_law_found", "_law_k", "_law_titles"]
~!yj:cj Pn yG (bO K5):=fsc
noncomputable abbrev Qg:Stmt:=top 71
noncomputable abbrev zj:List Str:=["_law_door_here", "_law_numbers"]
noncomputable abbrev zX:Str := "_law_mean"
noncomputable abbrev adP:List Str:=["_law_door_here", "_law_numbers", "_law_top", "_law_bottom", "_law_room", "_law_chance", "_law_part"]
~!qj:cj adP zj (bO Qg):=fsc
noncomputable abbrev Kd:Stmt:=top 72
noncomputable abbrev uU:List Str:=["_law_one", "_law_other"]
noncomputable abbrev vo:Str := "_law_below"
noncomputable abbrev aaE:List Str:=["_law_one", "_law_other"]
~!Xu:cj aaE uU (bO Kd):=fsc
noncomputable abbrev KN:Stmt:=top 73
noncomputable abbrev vA:List Str:=["_law_cell_here"]
noncomputable abbrev t_:Str := "_law_sizes"
noncomputable abbrev abe:List Str:=["_law_cell_here", "_law_xs"]
~!Pk:cj abe vA (bO KN):=fsc
noncomputable abbrev oX:Stmt:=top 74
noncomputable abbrev jX:List Str:=["_law_found", "_law_many", "_law_size"]
noncomputable abbrev jV:Str := "_law_are_rounds"
noncomputable abbrev rH:List Str:=["_law_found", "_law_many", "_law_size"]
~!GK:cj rH jX (bO oX):=fsc
noncomputable abbrev Cy:Stmt:=top 75
noncomputable abbrev tZ:List Str:=["_law_cell_here", "_law_size"]
noncomputable abbrev uG:Str := "_law_goals"
noncomputable abbrev J_:List Str:=["_law_cell_here", "_law_size", "_law_xs"]
~!N_:cj J_ tZ (bO Cy):=fsc
noncomputable abbrev vZ:Stmt:=top 76
noncomputable abbrev uQ:List Str:=["_law_found", "_law_many", "_law_rooms", "_law_goals_here"]
noncomputable abbrev uE:Str := "_law_right"
noncomputable abbrev rE:List Str:=["_law_found", "_law_many", "_law_rooms", "_law_goals_here", "_law_k", "_law_room", "_law_some"]
~!uw:cj rE uQ (bO vZ):=fsc
noncomputable abbrev Ax:Stmt:=top 77
noncomputable abbrev pI:List Str:=["_law_hall_here", "_law_goals_here", "_law_many"]
noncomputable abbrev pQ:Str := "_law_refused"
noncomputable abbrev Ut:List Str:=["_law_hall_here", "_law_goals_here", "_law_many", "e"]
~!DX:cj Ut pI (bO Ax):=fsc
noncomputable abbrev Ot:Stmt:=top 78
noncomputable abbrev Qx:List Str:=["_law_script"]
noncomputable abbrev JG:Str := "law"
noncomputable abbrev Ye:List Str:=["_law_script", "_law_rooms", "_law_hall_here", "_law_goals_here", "_law_handed", "_law_held", "_law_xs", "_law_odd", "_law_at", "_law_spoilt", "_law_none", "_law_size", "_law_many", "_law_small", "_law_word", "_law_room", "_law_found", "_law_due", "_law_one"]
~!iH:cj Ye Qx (bO Ot):=fsc
noncomputable abbrev tR:Stmt:=fX 44 0
noncomputable abbrev jO:List Str:=["self", "name", "pay"]
noncomputable abbrev Ad:Str := "__init__"
noncomputable abbrev za:Str := "Door.__init__"
noncomputable abbrev M9:List Str:=["self", "name", "pay"]
~!Mh:cj M9 jO (bO tR):=fsc
noncomputable abbrev um:Stmt:=fX 44 1
noncomputable abbrev mJ:List Str:=["self"]
noncomputable abbrev yS:Str := "ways"
noncomputable abbrev zQ:Str := "Door.ways"
noncomputable abbrev Mp:List Str:=["self"]
~!JF:cj Mp mJ (bO um):=fsc
noncomputable abbrev Bc:Stmt:=fX 44 2
noncomputable abbrev yF:List Str:=["self", "room"]
noncomputable abbrev Ae:Str := "chance_to"
noncomputable abbrev yx:Str := "Door.chance_to"
noncomputable abbrev vM:Stmt:=fX 45 0
noncomputable abbrev lZ:List Str:=["self", "name", "pay", "room"]
noncomputable abbrev xZ:Str := "__init__"
noncomputable abbrev zJ:Str := "Sure.__init__"
noncomputable abbrev Nq:List Str:=["self", "name", "pay", "room"]
~!Ky:cj Nq lZ (bO vM):=fsc
noncomputable abbrev rR:Stmt:=fX 46 0
noncomputable abbrev gO:List Str:=["self", "name", "pay", "pairs"]
noncomputable abbrev wM:Str := "__init__"
noncomputable abbrev wU:Str := "Mixed.__init__"
noncomputable abbrev Jv:List Str:=["self", "name", "pay", "pairs"]
~!HJ:cj Jv gO (bO rR):=fsc
noncomputable abbrev vB:Stmt:=fX 47 0
noncomputable abbrev mC:List Str:=["self", "name", "pay", "chance", "room", "other"]
noncomputable abbrev yD:Str := "__init__"
noncomputable abbrev zF:Str := "Toss.__init__"
noncomputable abbrev N8:List Str:=["self", "name", "pay", "chance", "room", "other"]
~!Jm:cj N8 mC (bO vB):=fsc
noncomputable abbrev p8:Stmt:=fX 48 0
noncomputable abbrev mO:List Str:=["self", "name", "pay", "rooms"]
noncomputable abbrev xY:Str := "__init__"
noncomputable abbrev yW:Str := "Even.__init__"
noncomputable abbrev uN:List Str:=["self", "name", "pay", "rooms"]
~!Ku:cj uN mO (bO p8):=fsc
noncomputable abbrev p7:Stmt:=fX 54 0
noncomputable abbrev lX:List Str:=["self", "share", "rooms"]
noncomputable abbrev zT:Str := "__init__"
noncomputable abbrev yd:Str := "Hall.__init__"
noncomputable abbrev tK:List Str:=["self", "share", "rooms"]
~!Mg:cj tK lX (bO p7):=fsc
noncomputable abbrev vG:Stmt:=fX 54 1
noncomputable abbrev fK:List Str:=["self"]
noncomputable abbrev z_:Str := "size"
noncomputable abbrev zq:Str := "Hall.size"
noncomputable abbrev O7:List Str:=["self"]
~!Ks:cj O7 fK (bO vG):=fsc
noncomputable abbrev K3:Stmt:=fX 54 2
noncomputable abbrev Hs:List Str:=["self"]
noncomputable abbrev GX:Str := "names"
noncomputable abbrev GJ:Str := "Hall.names"
noncomputable abbrev JR:Stmt:=fX 54 3
noncomputable abbrev G_:List Str:=["self", "name"]
noncomputable abbrev Gy:Str := "place"
noncomputable abbrev GR:Str := "Hall.place"
noncomputable abbrev i_:Stmt:=fX 54 4
noncomputable abbrev cT:List Str:=["self", "room"]
noncomputable abbrev lu:Str := "check_room"
noncomputable abbrev kY:Str := "Hall.check_room"
noncomputable abbrev zY:List Str:=["self", "room"]
~!pG:cj zY cT (bO i_):=fsc
noncomputable abbrev Gd:Stmt:=fX 54 5
noncomputable abbrev Cd:List Str:=["self", "room", "name"]
noncomputable abbrev Cm:Str := "door_at"
noncomputable abbrev Cr:Str := "Hall.door_at"
noncomputable abbrev nU:Stmt:=fX 54 6
noncomputable abbrev jF:List Str:=["self", "room"]
noncomputable abbrev uD:Str := "offers"
noncomputable abbrev vd:Str := "Hall.offers"
noncomputable abbrev qy:List Str:=["self", "room"]
~!FQ:cj qy jF (bO nU):=fsc
noncomputable abbrev qG:Stmt:=fX 7 0
noncomputable abbrev jD:List Str:=["self", "room"]
noncomputable abbrev vf:Str := "__init__"
noncomputable abbrev uz:Str := "NoRoom.__init__"
noncomputable abbrev Hl:List Str:=["self", "room"]
~!Gi:cj Hl jD (bO qG):=fsc
structure Adr where
 HallError:Addr
 NoNumber:Addr
 NoName:Addr
 NoChance:Addr
 NoShare:Addr
 NoRoom:Addr
 Door:Addr
 Sure:Addr
 Mixed:Addr
 Toss:Addr
 Even:Addr
 Hall:Addr
 NOUGHT:Addr
 ONE:Addr
 Door_init:Addr
 Door_ways:Addr
 Door_chance_to:Addr
 Sure_init:Addr
 Mixed_init:Addr
 Toss_init:Addr
 Even_init:Addr
 Hall_init:Addr
 Hall_size:Addr
 Hall_names:Addr
 Hall_place:Addr
 Hall_check_room:Addr
 Hall_door_at:Addr
 Hall_offers:Addr
 NoRoom_init:Addr
 T_goal_rounds:Addr
structure Txt (K:Frag) (mg:Str->Option Value) (D:Adr):Prop where
 YK:mg "Door" = some (.ref D.Door)
 acH:mg "Even" = some (.ref D.Even)
 adJ:mg "Hall" = some (.ref D.Hall)
 O_:mg "HallError" = some (.ref D.HallError)
 K9:mg "Mixed" = some (.ref D.Mixed)
 qM:mg "NOUGHT" = some (.ref D.NOUGHT)
 Ea:mg "NoChance" = some (.ref D.NoChance)
 Mr:mg "NoName" = some (.ref D.NoName)
 xU:mg "NoNumber" = some (.ref D.NoNumber)
 Mt:mg "NoRoom" = some (.ref D.NoRoom)
 ad4:mg "NoShare" = some (.ref D.NoShare)
 El:mg "ONE" = some (.ref D.ONE)
 adG:mg "Sure" = some (.ref D.Sure)
 adU:mg "Toss" = some (.ref D.Toss)
 Fg:Mi K D.NoChance
 M5:Mi K D.NoName
 Df:Mi K D.NoNumber
 ad5:Mi K D.NoShare
 adK:Q7 K D.NoNumber
 Q8:PySem.W.mroIn K D.NoNumber (.type "BaseException")=some true
 Zu:PySem.W.mroIn K D.NoRoom (.type "BaseException")=some true
 QH:PySem.W.typeIn K (.ref D.NoNumber)=some (.type "type")
 Yg:PySem.W.typeIn K (.ref D.NoRoom)=some (.type "type")
 ac8:PySem.W.mroIn K D.NoNumber (.ref D.HallError)=some true
 o_NoNumber:PySem.W.mroIn K D.NoNumber (.ref D.NoNumber)=some true
 o_NoRoom:PySem.W.mroIn K D.NoNumber (.ref D.NoRoom)=some false
 FW:∃ u,mg "LONGEST_WORD" = some u/\RelV (.int 8) u
 acL:∃ u,mg "MOST" = some u/\RelV (.int 40) u
 pA:∀ H,SqT K H D.NOUGHT [.int 0,.int 1]
 uW:∀ H,SqT K H D.ONE [.int 1,.int 1]
 ag4:Mk K D.Door D.Door_init
 X4:Cls K D.Door
 ag0:Nk K D.Door
 RP:Meth K D.Door "chance_to" D.Door_chance_to
 Kl:Meth K D.Door "ways" D.Door_ways
 Hr:cI K D.Door "leads"
 K8:cI K D.Door "name"
 V7:cI K D.Door "numbers"
 Wa:cI K D.Door "offered"
 MF:cI K D.Door "pay"
 Z_:cI K D.Door "share"
 abQ:Mk K D.Sure D.Sure_init
 Ng:Cls K D.Sure
 ag1:Nk K D.Sure
 R9:Meth K D.Sure "chance_to" D.Door_chance_to
 JK:Meth K D.Sure "ways" D.Door_ways
 w5:cI K D.Sure "leads"
 JN:cI K D.Sure "name"
 V3:cI K D.Sure "numbers"
 V4:cI K D.Sure "offered"
 Ms:cI K D.Sure "pay"
 Z0:cI K D.Sure "share"
 Xw:Mk K D.Mixed D.Mixed_init
 Vp:Cls K D.Mixed
 ae2:Nk K D.Mixed
 Qa:Meth K D.Mixed "chance_to" D.Door_chance_to
 Ho:Meth K D.Mixed "ways" D.Door_ways
 En:cI K D.Mixed "leads"
 Hv:cI K D.Mixed "name"
 Vq:cI K D.Mixed "numbers"
 Va:cI K D.Mixed "offered"
 Jk:cI K D.Mixed "pay"
 ZF:cI K D.Mixed "share"
 aaZ:Mk K D.Toss D.Toss_init
 Xf:Cls K D.Toss
 ag2:Nk K D.Toss
 Ud:Meth K D.Toss "chance_to" D.Door_chance_to
 JH:Meth K D.Toss "ways" D.Door_ways
 GD:cI K D.Toss "leads"
 Le:cI K D.Toss "name"
 V1:cI K D.Toss "numbers"
 V5:cI K D.Toss "offered"
 Od:cI K D.Toss "pay"
 ZV:cI K D.Toss "share"
 abq:Mk K D.Even D.Even_init
 YW:Cls K D.Even
 ag5:Nk K D.Even
 Sv:Meth K D.Even "chance_to" D.Door_chance_to
 Km:Meth K D.Even "ways" D.Door_ways
 Gw:cI K D.Even "leads"
 Lj:cI K D.Even "name"
 V9:cI K D.Even "numbers"
 V6:cI K D.Even "offered"
 N7:cI K D.Even "pay"
 aac:cI K D.Even "share"
 abT:Mk K D.Hall D.Hall_init
 yM:Cls K D.Hall
 ag3:Nk K D.Hall
 xT:Meth K D.Hall "check_room" D.Hall_check_room
 V2:Meth K D.Hall "door_at" D.Hall_door_at
 Z1:Meth K D.Hall "names" D.Hall_names
 Dj:Meth K D.Hall "offers" D.Hall_offers
 Z2:Meth K D.Hall "place" D.Hall_place
 Jq:Meth K D.Hall "size" D.Hall_size
 GC:cI K D.Hall "leads"
 Lh:cI K D.Hall "name"
 oH:cI K D.Hall "numbers"
 sY:cI K D.Hall "offered"
 Nm:cI K D.Hall "pay"
 Gz:cI K D.Hall "share"
 xi_NoRoom:O2 K D.NoRoom D.HallError D.NoRoom_init
 xs_NoRoom:Zr K D.NoRoom
 xk_NoRoom:Q7 K D.NoRoom
 hd_NoRoom:PySem.W.hasDictIn K D.NoRoom=true
 sm_NoRoom:PySem.W.mroIn K D.NoRoom (.ref D.NoRoom)=some true
 uJ:cI K D.NoRoom "room"
 ib_HallError:YX K D.HallError
 zE:mX K D.Door "__init__" D.Door_init
 Lg:rP K Ad za tR jO D.Door_init
 abl:mX K D.Door "ways" D.Door_ways
 JD:rP K yS zQ um mJ D.Door_ways
 Tv:mX K D.Door "chance_to" D.Door_chance_to
 TJ:rP K Ae yx Bc yF D.Door_chance_to
 aag:mX K D.Sure "__init__" D.Sure_init
 LC:rP K xZ zJ vM lZ D.Sure_init
 wY:mX K D.Mixed "__init__" D.Mixed_init
 Gs:rP K wM wU rR gO D.Mixed_init
 abu:mX K D.Toss "__init__" D.Toss_init
 Ke:rP K yD zF vB mC D.Toss_init
 aaM:mX K D.Even "__init__" D.Even_init
 Ln:rP K xY yW p8 mO D.Even_init
 aaF:mX K D.Hall "__init__" D.Hall_init
 Jh:rP K zT yd p7 lX D.Hall_init
 aaq:mX K D.Hall "size" D.Hall_size
 zK:rP K z_ zq vG fK D.Hall_size
 Z4:mX K D.Hall "names" D.Hall_names
 ZW:rP K GX GJ K3 Hs D.Hall_names
 ZX:mX K D.Hall "place" D.Hall_place
 Z5:rP K Gy GR JR G_ D.Hall_place
 Qu:mX K D.Hall "check_room" D.Hall_check_room
 kJ:rP K lu kY i_ cT D.Hall_check_room
 V_:mX K D.Hall "door_at" D.Hall_door_at
 V8:rP K Cm Cr Gd Cd D.Hall_door_at
 Wu:mX K D.Hall "offers" D.Hall_offers
 Dd:rP K uD vd nU jF D.Hall_offers
 Es:rP K vf uz qG jD D.NoRoom_init
 Oj:mg "abs" = none
 Yv:mg "all" = none
 Xc:mg "any" = none
 LK:mg "bool" = none
 Ox:mg "enumerate" = none
 Dk:mg "int" = none
 d7:mg "isinstance" = none
 lF:mg "len" = none
 Fp:mg "list" = none
 qe:mg "range" = none
 Wj:mg "sorted" = none
 afg:mg "str" = none
 Yh:mg "sum" = none
 Te:mg "tuple" = none
 Xq:mg "zip" = none
 agZ:eE K mg Wr abd W6
 FZ:eE K mg fL xK fQ
 I_:eE K mg iC Bk iI
 Tt:eE K mg jY Lf jZ
 PJ:eE K mg jA xO jk
 ac4:eE K mg Ab Q0 yq
 abI:eE K mg vD Ld uI
 acV:eE K mg zm Pu zR
 R_:eE K mg oA JB n_
 CQ:eE K mg iK yI jr
 f_total:eE K mg tO Jt uo
 QZ:eE K mg ou xM oh
 G9:eE K mg jt j4 jq
 Kv:eE K mg gG oW iQ
 Jy:eE K mg jU sO j5
 VD:eE K mg pJ Af pN
 Js:eE K mg iR o9 iU
 Ci:eE K mg m9 oF nA
 GZ:aaS K mg fV gK iu D.T_goal_rounds
 Vx:eE K mg lA wz lg
 Mf:eE K mg iT rC iY
 zU:eE K mg eG mQ eU
 Dg:eE K mg fZ pB f9
 G8:eE K mg jd nQ ju
 Gr:eE K mg jm nY jw
 Hg:eE K mg jo qH ji
 Kc:eE K mg j9 rZ j7
 Cp:eE K mg iw oO ig
 MP:eE K mg mH vq lV
 adi:eE K mg wD QD vW
 Zn:eE K mg iy Gp g_
 agg:eE K mg Ba Zj Bq
 ZP:eE K mg nG Dy m6
 Pa:eE K mg mZ tG lW
 Ju:eE K mg j6 o8 j8
 acX:eE K mg yc s_same yN
 aaj:eE K mg ud v9 uO
 ab4:eE K mg vp JX u_
 agN:eE K mg Et Zm Er
 adp:eE K mg zx w6 zM
 aaK:eE K mg tQ CN ux
 abz:eE K mg uZ zG tD
 adI:eE K mg yZ K5 yG
 acT:eE K mg zX Qg zj
 aaD:eE K mg vo Kd uU
 abm:eE K mg t_ KN vA
 K_:eE K mg jV oX jX
 abr:eE K mg uG Cy tZ
 abb:eE K mg uE vZ uQ
 Vk:eE K mg pQ Ax pI
noncomputable def Fam (D:Adr) (C:Addr):Prop:=C=D.Door\/C=D.Sure\/C=D.Mixed\/C=D.Toss\/C=D.Even\/C=D.Hall
~!Txt.cl {K:Frag}{mg:Str->Option Value}{D:Adr} (T:Txt K mg D):∀ C,Fam D C->Cls K C:=by
 rintro C (rfl | rfl | rfl | rfl | rfl | rfl)
 .exact T.X4
 .exact T.Ng
 .exact T.Vp
 .exact T.Xf
 .exact T.YW
 .exact T.yM
~!Txt.Eu {K:Frag}{mg:Str->Option Value}{D:Adr} (T:Txt K mg D):∀ C,Fam D C->cI K C "leads" := by
 rintro C (rfl | rfl | rfl | rfl | rfl | rfl)
 .exact T.Hr
 .exact T.w5
 .exact T.En
 .exact T.GD
 .exact T.Gw
 .exact T.GC
~!Txt.Cv {K:Frag}{mg:Str->Option Value}{D:Adr} (T:Txt K mg D):∀ C,Fam D C->cI K C "name" := by
 rintro C (rfl | rfl | rfl | rfl | rfl | rfl)
 .exact T.K8
 .exact T.JN
 .exact T.Hv
 .exact T.Le
 .exact T.Lj
 .exact T.Lh
~!Txt.ZC {K:Frag}{mg:Str->Option Value}{D:Adr} (T:Txt K mg D):∀ C,Fam D C->cI K C "pay" := by
 rintro C (rfl | rfl | rfl | rfl | rfl | rfl)
 .exact T.MF
 .exact T.Ms
 .exact T.Jk
 .exact T.Od
 .exact T.N7
 .exact T.Nm
noncomputable def cQ (D:Adr) (C:Addr):Prop:=C=D.Hall
~!cQ.fam {D:Adr}{C:Addr} (h:cQ D C):Fam D C:=by
 unfold cQ at h
 unfold Fam
 simp [h]
~!Txt.k_ {K:Frag}{mg:Str->Option Value}{D:Adr} (T:Txt K mg D):∀ C,cQ D C->Meth K C "check_room" D.Hall_check_room:=by
 rintro C (rfl)
 .exact T.xT
noncomputable def iz (D:Adr) (C:Addr):Prop:=C=D.Hall
~!iz.fam {D:Adr}{C:Addr} (h:iz D C):Fam D C:=by
 unfold iz at h
 unfold Fam
 simp [h]
~!Txt.Fw {K:Frag}{mg:Str->Option Value}{D:Adr} (T:Txt K mg D):∀ C,iz D C->Meth K C "offers" D.Hall_offers:=by
 rintro C (rfl)
 .exact T.Dj
noncomputable def dO (D:Adr) (C:Addr):Prop:=C=D.Hall
~!dO.fam {D:Adr}{C:Addr} (h:dO D C):Fam D C:=by
 unfold dO at h
 unfold Fam
 simp [h]
~!Txt.oV {K:Frag}{mg:Str->Option Value}{D:Adr} (T:Txt K mg D):∀ C,dO D C->Meth K C "size" D.Hall_size:=by
 rintro C (rfl)
 .exact T.Jq
noncomputable def fH (D:Adr) (C:Addr):Prop:=C=D.Door\/C=D.Sure\/C=D.Mixed\/C=D.Toss\/C=D.Even
~!fH.fam {D:Adr}{C:Addr} (h:fH D C):Fam D C:=by
 unfold fH at h
 unfold Fam
 rcases h with h | h | h | h | h <;> simp [h]
~!Txt.Jp {K:Frag}{mg:Str->Option Value}{D:Adr} (T:Txt K mg D):∀ C,fH D C->Meth K C "ways" D.Door_ways:=by
 rintro C (rfl | rfl | rfl | rfl | rfl)
 .exact T.Kl
 .exact T.JK
 .exact T.Ho
 .exact T.JH
 .exact T.Km
section
variable {P:Program}{w:World}{K:Frag}{mg:Str->Option Value}{base:Heap}{D:Adr}
~!boot_abs:bootBuiltins "abs" = some (.builtin "abs"):=by decide +kernel
~!M7:1 <= sizeLine:=by decide
~!dW:2 <= sizeLine:=by decide
~!aal {n:Int} (h0:0 <= n) (h1:n <= 1000000):agl 10 n:=⟨h0,h1,by decide⟩
~!adl {n:Nat} (h:n <= 64):n <= sizeLine:=aN h (by decide)
~!aaP (ns:List Int) (k:Nat):atI (m_ (ns.map V.int) (some (k:Int)) (some ((k:Int)+1))++[V.int 0]) 0=some (V.int (ns.getD k 0)):=by
 unfold m_
 rw [show ((k:Int)+1)=((k+1:Nat):Int) by om,HT.qd,HT.qd,ao]
 z5 b_ (j:=0) ?_
 by_cases h:k<ns.length
 .rw [Nat.min_eq_left (Nat.le_of_lt h),Nat.min_eq_left (Nat.succ_le_of_lt h)]
  rw [show k+1 - k=1 by om]
  rw [List.drop_eq_getElem_cons (by rw [ao]; qV h)]
  simp [List.getD,h]
 .have e1:min k ns.length=ns.length:=by om
  have e2:min (k+1) ns.length=ns.length:=by om
  rw [e1,e2]
  simp [List.getD,aO (Nat.le_of_not_lt h)]
~!cg {t u:TS}{D:Ends}{σ:L2.St}{H:Hp} (h:∀ u',u'=u->q_ t u' D σ H):q_ t u D σ H:=h u rfl
~!Il {a b c d:TS}{D:Ends}{σ:L2.St}{H:Hp} (h:∀ d',d'=d->q_ a (q_ b (q_ c d')) D σ H):q_ a (q_ b (q_ c d)) D σ H:=h d rfl
~!xR {α:Type} : ∀ {l:List α},l.length=2->∃ a b,l=[a,b]
 | [a,b],_=>⟨a,b,rfl⟩
~!nH {t0:TE}{t v:TS}{D:Ends}{σ:L2.St}{H:Hp}{i k:Int} (ht:∀ R:VK,R (.int i) H->t0 σ H R) (ne:i≠k) (h:v D σ H):q_ (Gx (zH (tOp rEq t0 (tC (.int k)))) t yC) v D σ H:=by
 z5 ht _ ⟨rfl,_,rfl,?_⟩
 dsimp only
 rw [if_neg (by simp [ne])]
 qV h
~!uY {t0:TE}{t v:TS}{D:Ends}{σ:L2.St}{H:Hp}{i k:Int} (ht:∀ R:VK,R (.int i) H->t0 σ H R) (e:i=k) (h:∀ Kn:L2.St->Hp->Prop,(∀ σ' H',v D σ' H'->Kn σ' H')->t { D with nx:=Kn } σ H):q_ (Gx (zH (tOp rEq t0 (tC (.int k)))) t yC) v D σ H:=by
 z5 ht _ ⟨rfl,_,rfl,?_⟩
 dsimp only
 rw [if_pos (by simp [e])]
 qV h _ fun _ _ z=>z
~!fY {te:TE}{D:Ends}{σ:L2.St}{H:Hp} (h:te σ H D.rt):Vh te D σ H:=h
~!Nj {te:TE}{σ:L2.St}{H:Hp}{Q:List V->Hp->Prop} (h:te σ H fun x H1=>Q [x] H1):sV te Cu σ H Q:=h
~!dI {t u:TS}{D:Ends}{σ:L2.St}{H:Hp} (h:t { D with nx:=u D } σ H):q_ t u D σ H:=h
~!cN {te:TE}{g:TG}{u:TS}{D:Ends}{σ:L2.St}{H:Hp} (h:te σ H fun x H1=>g x σ H1 (u D)):q_ (Gu te g) u D σ H:=h
~!ZG {c:TT}{t u:TS}{D:Ends}{σ:L2.St}{H:Hp} (h:c σ H fun b H1=>if b=true then t D σ H1 else u D σ H1):Gx c t u D σ H:=h
~!Q_ {r:List V->Hp->VK->Prop}{te:TE}{σ:L2.St}{H:Hp}{Q:VK} (h:te σ H fun x H1=>r [x] H1 Q):tCB r (sV te Cu) σ H Q:=h
~!Tf {r:List V->Hp->VK->Prop}{te:TE}{σ:L2.St}{H:Hp}{Q:Bool->Hp->Prop} (h:te σ H fun x H1=>r [x] H1 fun y H2=>∃ k,MJ y=some k/\Q k H2):QT (tCB r (sV te Cu)) σ H Q:=h
noncomputable def gZ:Sp:=fun vs H Q _=>∃ x t,vs=[x]/\tyS H x=some t/\Q (.bl (t == "int")) H
~!Bt (F:Fun K fL fL xK f fd) (T:Txt K mg D):cD P w K mg base CX0 1 f fd fQ gZ:=by
 z5 F.ok Mz ?_ ?_
 .rintro _ _ _ _ ⟨x,t,rfl,_⟩; rfl
 .rintro cdv A outer s H _ Q E hr ⟨x,t,rfl,ht,q⟩
  z5⟨_,(bQ (cu (K6 (cB jh (by rfl) T.d7 boot_isinstance (bG (pv 0) (bG (lU (v:=.ty "int") (by rfl) T.Dk boot_int rfl) bI))) (Kr (Rj (cB jh (by rfl) T.d7 boot_isinstance (bG (pv 0) (bG (lU (v:=.ty "bool") (by rfl) T.LK boot_bool rfl) bI)))))))),?_⟩
  walk_at "rd"
  rw [ht]
  walk_at "rd"
  have hm:=Wy ht
  simp only [List.mem_cons,List.not_mem_nil,or_false] at hm
  rcases hm with rfl | rfl | rfl | rfl | rfl | rfl | rfl <;> simpa using q
noncomputable def DW:Sp:=fun vs H Q _=>∃ (a b:Int),vs=[.int a,.int b]/\Q (.int (Int.gcd a b:Nat)) H
~!acD (F:Fun K Ba Ba Zj f fd) (T:Txt K mg D):cD P w K mg base CX0 1 f fd Bq DW:=by
 z5 cD.clean (sp:=fun vs H Q _=>∃ (a b:Int),vs=[.int a,.int b]/\∀ H',Same H H'->Q (.int (Int.gcd a b:Nat)) H')
  (F.ok JT (fun vs H Q E h=>?_) (fun cdv A outer s H vs Q E hr h=>?_)) fun vs H Q E hP=>by x5⟨a,b,h1,h4⟩:=hP; qV⟨a,b,h1,fun H' S=>⟨S,h4⟩⟩
 .obtain ⟨a,b,rfl,_⟩:=h
  rfl
 .obtain ⟨a,b,rfl,q⟩:=h
  z5⟨_,(bN (uH (cB VG (by rfl) T.Wj boot_sorted (bG (kW (bG (cB vL (by rfl) T.Oj boot_abs (bG (pv 0) bI)) (bG (cB vL (by rfl) T.Oj boot_abs (bG (pv 1) bI)) bI))) bI)) (aa7 (n:=2) rfl (cF (cG (i:=2) JT.nd rfl (Or.inl rfl)) (cF (cG (i:=3) JT.nd rfl (Or.inl rfl)) gC))))
   (bN (Gm PassesOwn.never (cL Ir (pv 2) bH (cM _))
    (bQ (ad3 (i:=2) (j:=3) rfl JT.nd rfl rfl (by decide) rfl rfl (bG (bV mL (pv 3) (pv 2)) (bG (pv 2) bI)) rfl)))
   (bQ (cu (pv 3))))),?_⟩
  walk_at "rd"
  z5⟨dW,fun p hp=>⟨[(a.natAbs:Int),(b.natAbs:Int)],?_,(by simp),fun ms p1 hp1 hm hs=>?_⟩⟩
  .rw [Ka,Ka]; rfl
  have S:Same H (upd (upd H p (HO.lst [V.int (if a<0 then -a else a),V.int (if b<0 then -b else b)])) p1 (HO.lst (ms.map V.int))):=(Same.upd hp).trans (Same.upd hp1)
  generalize upd (upd H p (HO.lst [V.int (if a<0 then -a else a),V.int (if b<0 then -b else b)])) p1 (HO.lst (ms.map V.int))=H1 at S
  have hk:∃ l k:Nat,ms=[(l:Int),(k:Int)]/\Nat.gcd l k=Int.gcd a b:=by
   rcases XM hm with rfl | rfl
   .exact ⟨_,_,rfl,rfl⟩
   .exact ⟨_,_,rfl,Nat.gcd_comm _ _⟩
  x5⟨l,k,rfl,hg⟩:=hk
  walk_at "rd"
  z5 Nv (fun σ H2=>∃ l k:Nat,σ=[some (.int a),some (.int b),some (.int l),some (.int k)]/\H2=H1/\Nat.gcd l k=Int.gcd a b)
   (fun σ _=>match σ with | [_,_,some (.int l),_]=>l.natAbs | _=>0) ⟨l,k,rfl,rfl,hg⟩ ?_ ?_
  .rintro σ H2 ⟨l,k,rfl,rfl,hg⟩
   walk_at "rd"
   by_cases hl:l=0
   .subst hl
    simp only [Int.natCast_zero,Int.lt_irrefl,decide_false,Bool.false_eq_true,if_false]
    rw [show k=Int.gcd a b by rw [<- hg,Nat.gcd_zero_left]]
    qV q _ S
   .have hl':(0:Int)<l:=by om
    rw [if_pos (decide_eq_true hl')]
    z5⟨by om,⟨k % l,yQ _ _,l,rfl,?_⟩,?_⟩
    .rw [<- Nat.gcd_rec]; qV hg
    .rw [yQ]
     show (k % l)<l
     qV Nat.mod_lt _ (by om)
  .intro σ H2 Q1 Q2 hq
   walk_at "rd"
   rintro ⟨v,h1,i,h2,h3⟩
   qV⟨v,h1,i,h2,hq _ _ h3⟩
~!Kp {a b:Int} (h:b≠0):(0:Int)<(Int.gcd a b:Nat):=by
 have:=Int.gcd_pos_of_ne_zero_right a h
 om
~!Rr {a b:Int} (h:b≠0) (hb:Bd b):Bd (Int.gcd a b:Nat):=by
 unfold Bd at *
 z5 Nat.lt_of_le_of_lt ?_ hb
 rw [Int.natAbs_natCast]
 qV Nat.le_of_dvd (by om) (Int.gcd_dvd_natAbs_right a b)
noncomputable def gP:Sp:=fun vs H Q _=>∃ (a b:Int),vs=[.int a,.int b]/\Q (.int (Int.gcd a b:Nat)) H
noncomputable def ahd (a b:Int) (H1:Hp) (σ:L2.St) (H:Hp):Prop:=∃ (l k:Nat) (z:Option V),σ=[some (.int a),some (.int b),some (.int l),some (.int k),z]/\H=H1/\Nat.gcd l k=Int.gcd a b
~!Ge (F:Fun K iC iC Bk f fd) (T:Txt K mg D):cD P w K mg base CX0 1 f fd iI gP:=by
 z5 F.ok nq ?_ ?_
 .rintro _ _ _ _ ⟨a,b,rfl,_⟩; rfl
 .rintro cdv A outer s H _ Q E hr ⟨a,b,rfl,q⟩
  z5⟨_,(bN (cA (i:=2) nq.nd rfl (Or.inl rfl) (cB vL (by rfl) T.Oj boot_abs (bG (pv 0) bI)))
   (bN (cA (i:=3) nq.nd rfl (Or.inl rfl) (cB vL (by rfl) T.Oj boot_abs (bG (pv 1) bI)))
   (bN (Gm PassesOwn.never (cL Br (pv 3) bH (cM _))
    (bN (cA (i:=4) nq.nd rfl (Or.inl rfl) (bV mL (pv 2) (pv 3)))
    (bN (cA (i:=2) nq.nd rfl (Or.inl rfl) (pv 3))
    (bQ (cA (i:=3) nq.nd rfl (Or.inl rfl) (pv 4))))))
   (bQ (cu (pv 2)))))),?_⟩
  walk_at "rd"
  rw [Ka,Ka]
  z5 Nv (ahd a b H) (fun σ _=>match σ with | [_,_,_,some (.int k),_]=>k.natAbs | _=>0) ⟨a.natAbs,b.natAbs,none,rfl,rfl,rfl⟩ ?_ ?_
  .rintro σ H2 ⟨l,k,z,rfl,rfl,hg⟩
   walk_at "rd"
   by_cases hl:k=0
   .subst hl
    rw [if_neg (by simp)]
    rw [show l=Int.gcd a b by rw [<- hg,Nat.gcd_zero_right]]
    qV q
   .have hl':¬ ((k:Int)=0):=by om
    rw [if_pos (by simpa using hl)]
    z5⟨by om,⟨k,l % k,some (.int ((l % k:Nat):Int)),?_,rfl,?_⟩,?_⟩
    .rw [yQ]
    .rw [Nat.gcd_comm,<- Nat.gcd_rec,Nat.gcd_comm]; qV hg
    .rw [yQ]
     show (l % k)<k
     qV Nat.mod_lt _ (by om)
  .intro σ H2 Q1 Q2 hq
   walk_at "rd"
   rintro ⟨v,h1,h2,h3⟩
   qV⟨v,h1,h2,hq _ _ h3⟩
structure Low (t b x y:Int):Prop where
 pos:0<y
 gcd:Int.gcd x y=1
 eq:x * b=t * y
 lx:x.natAbs <= t.natAbs
 ly:y.natAbs <= b.natAbs
~!Gj {c q:Int} (h:c≠0):Int.fdiv (c * q) c=q:=by
 rw [Int.fdiv_eq_ediv_of_dvd (Int.dvd_mul_right c q),Int.mul_ediv_cancel_left _ h]
~!Fo {c q:Int} (h:c≠0):q.natAbs <= (c * q).natAbs:=by
 rw [Int.natAbs_mul]
 qV Nat.le_mul_of_pos_left _ (by om)
~!Zf {t b c:Int} (hb:b≠0) (hc:c≠0) (hg:c.natAbs=Int.gcd t b) (hs:0<c * b):Low t b (Int.fdiv t c) (Int.fdiv b c):=by
 have d1:c ∣ t:=Int.natAbs_dvd.mp (by rw [hg]; qV Int.gcd_dvd_left t b)
 have d2:c ∣ b:=Int.natAbs_dvd.mp (by rw [hg]; qV Int.gcd_dvd_right t b)
 x5⟨x,rfl⟩:=d1
 x5⟨y,rfl⟩:=d2
 rw [Gj hc,Gj hc]
 z5⟨?_,?_,?_,Fo hc,Fo hc⟩
 .rw [<- Int.mul_assoc] at hs
  have hp:0<c * c:=by
   rcases Int.lt_or_lt_of_ne hc with z | z
   .exact Int.mul_pos_of_neg_of_neg z z
   .exact Int.mul_pos z z
  qV Int.pos_of_mul_pos_right hs hp
 .rw [Int.gcd_mul_left] at hg
  have hp:0<c.natAbs:=by om
  qV Nat.eq_of_mul_eq_mul_left hp (by rw [Nat.mul_one]; qV hg.symm)
 .rw [Int.mul_left_comm,Int.mul_assoc]
noncomputable def jB:Sp:=fun vs H Q _=>∃ (t b:Int),vs=[.int t,.int b]/\b≠0/\Bd b/\∀ p x y,Low t b x y->H p=none->Q (.ref p) (upd H p (.tup [.int x,.int y]))
~!Y_ {i:Int} (h:Bd i):Bd (-i):=by unfold Bd at *; rw [Int.natAbs_neg]; qV h
~!NZ (F:Fun K jY jY Lf f fd) (T:Txt K mg D) (cW:OkF P w K mg base 1 fL fQ gZ) (d_:OkF P w K mg base 1 iC iI gP):cD P w K mg base CX0 2 f fd jZ jB:=by
 z5 F.ok FP ?_ ?_
 .rintro _ _ _ _ ⟨t,b,rfl,_⟩; rfl
 .rintro cdv A outer s H _ Q E hr ⟨t,b,rfl,hb,hbd,q⟩
  z5⟨_,(bN (cY (PW.pt (pw_or (eF (dw (bU cW hr.md (by rfl) (bG (pv 0) bI)) (fun _=>rfl))) (pw_or1 (eF (dw (bU cW hr.md (by rfl) (bG (pv 1) bI)) (fun _=>rfl))))))
    (bQ pC)
    cC)
   (bN (cY (cL n8 (pv 1) bH (cM _))
    (bQ pC)
    cC)
   (bN (cA (i:=2) FP.nd rfl (Or.inl rfl) (bU d_ hr.md (by rfl) (bG (pv 0) (bG (pv 1) bI))))
   (bN (cY (cL yE (pv 1) bH (cM _))
    (bQ (cA (i:=2) FP.nd rfl (Or.inl rfl) (FJ xQ (pv 2))))
    cC)
   (bQ (cu (kZ (bG (bV mY (pv 0) (pv 2)) (bG (bV mY (pv 1) (pv 2)) bI))))))))),?_⟩
  unfold gZ gP
  walk_at "rd"
  have g0:=Kp (a:=t) hb
  have g1:=Rr (a:=t) hb hbd
  rw [if_neg (by simpa using hb)]
  z5 Yb (fun hn=>?_) fun hn=>?_
  .rw [decide_eq_true_eq] at hn
   z5⟨by om,Y_ g1,by om,Y_ g1,dW,fun p hp=>q p _ _ (Zf hb (by om) (by om) ?_) hp⟩
   qV Int.mul_pos_of_neg_of_neg (by om) hn
  .rw [decide_eq_true_eq] at hn
   z5⟨by om,g1,by om,g1,dW,fun p hp=>q p _ _ (Zf hb (by om) (by om) ?_) hp⟩
   qV Int.mul_pos g0 (by om)
noncomputable def nZ:Sp:=fun vs H Q _=>∃ (p q:Addr) (x y u v:Int),vs=[.ref p,.ref q]/\SqT K H p [.int x,.int y]/\SqT K H q [.int u,.int v]/\Bd x/\Bd y/\Bd u/\Bd v/\Q (.bl (decide (x * v<u * y))) H
~!Oa (F:Fun K oA oA JB f fd):cD P w K mg base CX0 1 f fd n_ (nZ (K:=K)):=by
 z5 F.ok Xx ?_ ?_
 .rintro _ _ _ _ ⟨p,q,x,y,u,v,rfl,_⟩; rfl
 .rintro cdv A outer s H _ Q E hr ⟨p,q,x,y,u,v,rfl,hp,hq,bx,b_y,bu,bv,k⟩
  z5⟨_,(bQ (cu (lQ yE (bV cZ (bZ cX (pv 0) bH (fun _ _=>rfl)) (bZ cX (pv 1) bH (fun _ _=>rfl))) (bV cZ (bZ cX (pv 1) bH (fun _ _=>rfl)) (bZ cX (pv 0) bH (fun _ _=>rfl))) (cM _)))),?_⟩
  walk_at "rd"
  qV⟨_,hp,_,d8,_,hq,_,dD,_,rfl,_,rfl,bx,bv,_,hq,_,d8,_,hp,_,dD,_,rfl,_,rfl,bu,b_y,k⟩
noncomputable def uV (g:Int->Int->Int):Sp:=fun vs H Q _=>∃ (p q:Addr) (x y u v:Int),vs=[.ref p,.ref q]/\SqT K H p [.int x,.int y]/\SqT K H q [.int u,.int v]/\Bd x/\Bd y/\Bd u/\Bd v/\0<y/\0<v/\Bd (y * v) /\
 ∀ r z o,Low (g (x * v) (u * y)) (y * v) z o->H r=none->Q (.ref r) (upd H r (.tup [.int z,.int o]))
~!aaW (F:Fun K Ab Ab Q0 f fd) (gW:OkF P w K mg base 2 jY jZ jB):cD P w K mg base CX0 3 f fd yq (uV (K:=K) fun a b=>a+b):=by
 z5 F.ok aat ?_ ?_
 .rintro _ _ _ _ ⟨p,q,x,y,u,v,rfl,_⟩; rfl
 .rintro cdv A outer s H _ Q E hr ⟨p,q,x,y,u,v,rfl,hp,hq,bx,b_y,bu,bv,y0,v0,byv,k⟩
  z5⟨_,(bQ (cu (bU gW hr.md (by rfl) (bG (bV dj (bV cZ (bZ cX (pv 0) bH (fun _ _=>rfl)) (bZ cX (pv 1) bH (fun _ _=>rfl))) (bV cZ (bZ cX (pv 1) bH (fun _ _=>rfl)) (bZ cX (pv 0) bH (fun _ _=>rfl)))) (bG (bV cZ (bZ cX (pv 0) bH (fun _ _=>rfl)) (bZ cX (pv 1) bH (fun _ _=>rfl))) bI))))),?_⟩
  unfold jB
  walk_at "rd"
  qV⟨_,hp,_,d8,_,hq,_,dD,_,rfl,_,rfl,bx,bv,_,hq,_,d8,_,hp,_,dD,_,rfl,_,rfl,bu,b_y,_,hp,_,dD,_,hq,_,dD,_,rfl,_,rfl,b_y,bv,Int.ne_of_gt (Int.mul_pos y0 v0),byv,fun r z o l hr=>k r z o l hr⟩
~!Wq (F:Fun K vD vD Ld f fd) (gW:OkF P w K mg base 2 jY jZ jB):cD P w K mg base CX0 3 f fd uI (uV (K:=K) fun a b=>a - b):=by
 z5 F.ok WY ?_ ?_
 .rintro _ _ _ _ ⟨p,q,x,y,u,v,rfl,_⟩; rfl
 .rintro cdv A outer s H _ Q E hr ⟨p,q,x,y,u,v,rfl,hp,hq,bx,b_y,bu,bv,y0,v0,byv,k⟩
  z5⟨_,(bQ (cu (bU gW hr.md (by rfl) (bG (bV ur (bV cZ (bZ cX (pv 0) bH (fun _ _=>rfl)) (bZ cX (pv 1) bH (fun _ _=>rfl))) (bV cZ (bZ cX (pv 1) bH (fun _ _=>rfl)) (bZ cX (pv 0) bH (fun _ _=>rfl)))) (bG (bV cZ (bZ cX (pv 0) bH (fun _ _=>rfl)) (bZ cX (pv 1) bH (fun _ _=>rfl))) bI))))),?_⟩
  unfold jB
  walk_at "rd"
  qV⟨_,hp,_,d8,_,hq,_,dD,_,rfl,_,rfl,bx,bv,_,hq,_,d8,_,hp,_,dD,_,rfl,_,rfl,bu,b_y,_,hp,_,dD,_,hq,_,dD,_,rfl,_,rfl,b_y,bv,Int.ne_of_gt (Int.mul_pos y0 v0),byv,fun r z o l hr=>k r z o l hr⟩
noncomputable def xX (c:Nat):Bool:=decide (c∈(Str.ofString "abcdefghijklmnopqrstuvwxyz").cps.toList)
noncomputable def lE (l:List Nat):Bool:=decide (1 <= l.length) && decide (l.length <= 8) && l.all xX
~!abv (c:Nat):((!decide ([c] < [97])) && !decide ([122] < [c]))=xX c:=by
 have e:(Str.ofString "abcdefghijklmnopqrstuvwxyz").cps.toList=(List.range 26).map (97 + ·):=by decide +kernel
 have m:c∈(List.range 26).map (97 + ·) ↔ 97 <= c/\c <= 122:=by
  rw [List.mem_map]
  constructor
  .rintro ⟨i,h,rfl⟩
   have:=List.mem_range.mp h
   qV⟨Nat.le_add_right ..,by om⟩
  .exact fun h=>⟨c - 97,List.mem_range.mpr (by om),by om⟩
 have h1:([c] < [97]) ↔ c<97:=by rw [List.cons_lt_cons_iff]; simp
 have h2:([122] < [c]) ↔ 122<c:=by rw [List.cons_lt_cons_iff]; simp
 unfold xX
 rw [e,decide_eq_decide.mpr m,decide_eq_decide.mpr h1,decide_eq_decide.mpr h2]
 by_cases a:c<97
 .rw [decide_eq_true a,decide_eq_false (p:=97 <= c/\c <= 122) (by om)]; rfl
 .by_cases b:122<c
  .rw [decide_eq_true b,decide_eq_false (p:=97 <= c/\c <= 122) (by om)]; qV Bool.and_false _
  .rw [decide_eq_false a,decide_eq_false b,decide_eq_true ⟨by om,by om⟩]; rfl
noncomputable def uP:Sp:=fun vs H Q _=>∃ v,vs=[v]/\((∃ x:Str,v=.str x/\x.length <= 1000/\Q (.bl (lE x.cps.toList)) H)\/∃ t,tyS H v=some t/\t ≠ "str" /\ Q (.bl false) H)
~!Q6 (F:Fun K lA lA wz f fd) (T:Txt K mg D):cD P w K mg base CX0 1 f fd lg uP:=by
 z5 cD.clean (sp:=fun vs H Q _=>∃ v,vs=[v]/\((∃ x:Str,v=.str x/\x.length <= 1000/\∀ H',Same H H'->Q (.bl (lE x.cps.toList)) H')\/∃ t,tyS H v=some t/\t ≠ "str" /\ ∀ H',Same H H'->Q (.bl false) H'))
  (F.ok QV (fun vs H Q E h=>?_) (fun cdv A outer s H vs Q E hr h=>?_)) fun vs H Q E hP=>by x5⟨v,h1,h2⟩:=hP; qV⟨v,h1,h2.imp (fun hP=>by x5⟨x,a,b,c⟩:=hP; qV⟨x,a,b,fun H' S=>⟨S,c⟩⟩) fun hP=>by x5⟨t,a,b,c⟩:=hP; qV⟨t,a,b,fun H' S=>⟨S,c⟩⟩⟩
 .obtain ⟨v,rfl,_⟩:=h
  rfl
 .obtain ⟨v,rfl,h⟩:=h
  z5⟨_,(bN (cY (PW.pt (pw_or (eF (dw (cB jh (by rfl) T.d7 boot_isinstance (bG (pv 0) (bG (lU (v:=.ty "str") (by rfl) T.afg boot_str rfl) bI))) (fun _=>rfl))) (pw_or1 (eF (yL BW BW bH (cB JQ (by rfl) T.lF PySem.boot_len (bG (pv 0) bI)) (Ni (by rfl) T.FW))))))
    (bQ (cu gB))
    cC)
   (bQ (cu (cB (Bg rfl) (by rfl) T.Yv boot_all (bG (jy (bO wz) Av Av ["sign"] (adV ((pv 0)).mono) (eV (i:=0)) c7 (Xb Y8 Y8 iZ (pv 0) iZ)) bI))))),?_⟩
  rcases h with ⟨x,rfl,hx,q⟩ | ⟨t,ht,hne,q⟩
  .have hz:x.length <= sizeLine:=aN hx (by decide)
   have hl:x.cps.toList.length=x.length:=Array.length_toList
   have ea:Str.ofString "a" = ⟨#[97]⟩:=by decide +kernel
   have ez:Str.ofString "z" = ⟨#[122]⟩:=by decide +kernel
   walk_at "rd"
   z5⟨hz,?_⟩
   by_cases h1:1 <= x.length
   .rw [if_pos (decide_eq_true (by om))]
    by_cases h2:x.length <= 8
    .rw [if_neg (by rw [decide_eq_true (by om)]; decide)]
     z5 Oi xX x (fun R h=>⟨_,rfl,h⟩) hz (fun c Hc R h=>?_) fun L hL=>⟨L,rfl,_,bK,?_⟩
     .simp only [q_,Gx,Vh,Xo,tOp,tUn,rU,Rx,Ph,aaH,tSl,Ei,tC,RK,rI0,rI,ab3,Ze,aa1,sV,Cu,tCB,Ar,zH,Vu,tOr,X3,SQ,Sw,acI,QT,Gu,aa8,cU,abw,Ti,RQ,Tr,Xe,RW,abS,SJ,K4,Py,yp,Kz,U4,MJ,rEq,rNe,Uq,yC,Um,Am,Rg,Lp,Rm,Ww,X8,adM,acN,Ends.unset,aa9,adz,Lx,aa4,Ss,aah,Wz,R8,W7,W2,acY,tSM,Rn,Jj,Di,W3,aai,Ry,KR,ab6,CJ,Jd,Tc,X_,rJoin,Yq,Xj,tB,Nf,aaw,Y7,CT,RN,RB,aaX,acP,Xa,Uc,JM,Xp,Ro,WX,Dq,aay,aaU,CP,V.str.injEq,L2.start,List.replicate_succ,List.replicate_zero,Nat.reduceSub,Nat.reduceAdd,List.map_cons,List.map_nil,List.length_cons,List.length_nil,List.cons_append,List.nil_append,List.append_nil,List.getElem?_cons_zero,List.getElem?_cons_succ,List.set_cons_zero,List.set_cons_succ,List.set_nil,Option.some.injEq,exists_eq_left',exists_eq_left,exists_and_left,exists_and_right,exists_eq_right,exists_eq,exists_eq',and_assoc,V.int.injEq,V.ref.injEq,V.bl.injEq,V.ty.injEq,List.cons.injEq,HO.tup.injEq,HO.lst.injEq,and_true,true_and,reduceCtorEq,d8,dD,bK,decide_true,decide_false,Bool.not_true,Bool.not_false,if_true,if_false,ite_true,ite_false,Bool.false_eq_true,List.mem_cons,String.reduceEq,or_true,true_or,or_false,false_or,beq_self_eq_true,Bool.or_true,Bool.true_or,Bool.or_false,Bool.false_or,Bool.and_true,Bool.and_false,Bool.true_and,Bool.false_and,String.reduceBEq,Int.reduceToNat,Int.reducePow,Int.reduceMul,Int.reduceSub,Int.reduceAdd,Int.reduceNeg,Int.reduceLE,Int.reduceLT,Int.reduceEq,ne_eq,not_false_eq_true,not_true_eq_false,Int.cast_ofNat_Int,ea,ez]
      have:=abv c
      rw [<- this] at h
      cases hd:(!decide ([c] < [97])) with
      | false=>rw [hd] at h; qV h
      | true=>rw [hd] at h; qV h
     .have ew:lE x.cps.toList=(x.cps.toList.map xX).all id:=by
       unfold lE
       rw [hl,decide_eq_true h1,decide_eq_true h2,List.all_map]; rfl
      rw [<- ew]
      qV q _ (Same.upd hL)
    .rw [if_pos (by rw [decide_eq_false (by om)]; rfl)]
     have ew:lE x.cps.toList=false:=by
      unfold lE
      rw [hl,decide_eq_false h2,Bool.and_false]; rfl
     rw [ew] at q
     qV q _ (Same.refl _)
   .rw [if_neg (by rw [decide_eq_true_eq]; om)]
    have ew:lE x.cps.toList=false:=by
     unfold lE
     rw [hl,decide_eq_false h1]; rfl
    rw [ew] at q
    qV q _ (Same.refl _)
  .simp only [q_,Gx,Vh,Xo,tOp,tUn,rU,Rx,Ph,aaH,tSl,Ei,tC,RK,rI0,rI,ab3,Ze,aa1,sV,Cu,tCB,Ar,zH,Vu,tOr,X3,SQ,Sw,acI,QT,Gu,aa8,cU,abw,Ti,RQ,Tr,Xe,RW,abS,SJ,K4,Py,yp,Kz,U4,MJ,rEq,rNe,Uq,yC,Um,Am,Rg,Lp,Rm,Ww,X8,adM,acN,Ends.unset,aa9,adz,Lx,aa4,Ss,aah,Wz,R8,W7,W2,acY,tSM,Rn,Jj,Di,W3,aai,Ry,KR,ab6,CJ,Jd,Tc,X_,rJoin,Yq,Xj,tB,Nf,aaw,Y7,CT,RN,RB,aaX,acP,Xa,Uc,JM,Xp,Ro,WX,Dq,aay,aaU,CP,V.str.injEq,L2.start,List.replicate_succ,List.replicate_zero,Nat.reduceSub,Nat.reduceAdd,List.map_cons,List.map_nil,List.length_cons,List.length_nil,List.cons_append,List.nil_append,List.append_nil,List.getElem?_cons_zero,List.getElem?_cons_succ,List.set_cons_zero,List.set_cons_succ,List.set_nil,Option.some.injEq,exists_eq_left',exists_eq_left,exists_and_left,exists_and_right,exists_eq_right,exists_eq,exists_eq',and_assoc,V.int.injEq,V.ref.injEq,V.bl.injEq,V.ty.injEq,List.cons.injEq,HO.tup.injEq,HO.lst.injEq,and_true,true_and,reduceCtorEq,d8,dD,bK,decide_true,decide_false,Bool.not_true,Bool.not_false,if_true,if_false,ite_true,ite_false,Bool.false_eq_true,List.mem_cons,String.reduceEq,or_true,true_or,or_false,false_or,beq_self_eq_true,Bool.or_true,Bool.true_or,Bool.or_false,Bool.false_or,Bool.and_true,Bool.and_false,Bool.true_and,Bool.false_and,String.reduceBEq,Int.reduceToNat,Int.reducePow,Int.reduceMul,Int.reduceSub,Int.reduceAdd,Int.reduceNeg,Int.reduceLE,Int.reduceLT,Int.reduceEq,ne_eq,not_false_eq_true,not_true_eq_false,Int.cast_ofNat_Int,ht]
   rw [beq_eq_false_iff_ne.mpr hne]
   qV q _ (Same.refl _)
structure Fk (K:Frag) (H:Hp) (p:Addr) (x y:Int):Prop where
 at_:SqT K H p [.int x,.int y]
 pos:0<y
 gcd:Int.gcd x y=1
~!Fk.same {K:Frag}{H H':Hp}{p:Addr}{x y:Int} (h:Fk K H p x y) (S:Same H H'):Fk K H' p x y:=⟨S.tup h.at_,h.pos,h.gcd⟩
noncomputable def iB:Sp:=fun vs H Q _=>∃ p x y,vs=[.ref p]/\Fk K H p x y/\Q (.bl true) H
~!Pb (F:Fun K jA jA xO f fd) (T:Txt K mg D) (cW:OkF P w K mg base 1 fL fQ gZ) (d_:OkF P w K mg base 1 iC iI gP):cD P w K mg base CX0 2 f fd jk (iB (K:=K)):=by
 z5 F.ok uF ?_ ?_
 .rintro _ _ _ _ ⟨p,x,y,rfl,_⟩; rfl
 .rintro cdv A outer s H _ Q E hr ⟨p,x,y,rfl,hf,q⟩
  have hp:=hf.at_
  z5⟨_,(bN (cY (PW.pt (pw_or (eF (dw (cB (jh.or pX) (by rfl) T.d7 boot_isinstance (bG (pv 0) (bG (lU (v:=.ty "tuple") (by rfl) T.Te boot_tuple rfl) bI))) (fun _=>rfl))) (pw_or1 (cL Br (cB Ip (by rfl) T.lF PySem.boot_len (bG (pv 0) bI)) bH (cM _)))))
    (bQ (cu gB))
    cC)
   (bN (cA (i:=1) uF.nd rfl (Or.inl rfl) (bZ cX (pv 0) bH (fun _ _=>rfl)))
   (bN (cA (i:=2) uF.nd rfl (Or.inl rfl) (bZ cX (pv 0) bH (fun _ _=>rfl)))
   (bN (cY (PW.pt (pw_or (eF (dw (bU cW hr.md (by rfl) (bG (pv 1) bI)) (fun _=>rfl))) (pw_or1 (eF (dw (bU cW hr.md (by rfl) (bG (pv 2) bI)) (fun _=>rfl))))))
    (bQ (cu gB))
    cC)
   (bQ (cu (K6 (lQ acn (pv 2) bH (cM _)) (Kr (lQ n8 (bU d_ hr.md (by rfl) (bG (pv 1) (bG (pv 2) bI))) bH (cM _)))))))))),?_⟩
  unfold gZ gP
  walk_at "rd"
  z5 .inr ⟨⟨_,hp⟩,_,hp,?_⟩
  rw [if_neg (by simp)]
  z5⟨_,hp,_,d8,_,hp,_,dD,_,yp,?_⟩
  rw [if_neg (by decide)]
  z5⟨_,yp,?_⟩
  rw [if_neg (by decide)]
  have hy:=hf.pos
  z5⟨y,rfl,?_⟩
  rw [if_pos (decide_eq_true (by om))]
  z5⟨x,rfl,y,rfl,?_⟩
  rw [hf.gcd]
  qV q
noncomputable def iM:Sp:=fun vs H Q _=>∃ (n:Str) (p:Addr) (x y:Int),vs=[.str n,.ref p]/\n.length <= 1000/\lE n.cps.toList=true/\Fk K H p x y/\Q .non H
~!Hu (F:Fun K iT iT rC f fd) (T:Txt K mg D) (jR:OkF P w K mg base 1 lA lg uP) (iJ:OkF P w K mg base 2 jA jk (iB (K:=K))):cD P w K mg base (CXO P w) 3 f fd iY (iM (K:=K)):=by
 z5 F.okX HN ?_ ?_
 .rintro _ _ _ _ ⟨n,p,x,y,rfl,_⟩; rfl
 .rintro cdv A outer s H _ Q E hr ⟨n,p,x,y,rfl,hn,hw,hf,q⟩
  z5⟨_,(bN (cY (eF (dw (bU jR hr.md (by rfl) (bG (pv 0) bI)) (fun _=>rfl)))
    (bQ (qW rfl (by rfl) T.Mr T.M5 qZ (bG iZ bI)))
    cC)
   (bQ (cY (eF (dw (bU iJ hr.md (by rfl) (bG (pv 1) bI)) (fun _=>rfl)))
    (bQ (qW rfl (by rfl) T.xU T.Df qZ (bG iZ bI)))
    cC))),?_⟩
  unfold uP iB
  walk_at "rd"
  rw [hw]
  qV .inl ⟨hn,⟨x,y,hf⟩,q⟩
noncomputable def jH (D:Adr):Sp:=fun vs H Q _=>∃ (s dx C:Addr) (n:Str) (p:Addr) (x y:Int),vs=[.ref s,.str n,.ref p]/\H s=some (.ins C dx [])/\Fam D C/\n.length <= 1000/\lE n.cps.toList=true/\Fk K H p x y /\
 ∀ l,upd H s (.ins C dx [("name",.str n),("pay",.ref p)]) l=none->Q .non (upd (upd H l (.lst [])) s (.ins C dx [("name",.str n),("pay",.ref p),("leads",.ref l)]))
~!Ls (F:Fun K Ad za tR f fd) (T:Txt K mg D) (iV:OkX P w K mg base 3 iT iY (iM (K:=K))):cD P w K mg base (CXO P w) 4 f fd jO (jH (K:=K) D):=by
 z5 F.okX Mh ?_ ?_
 .rintro _ _ _ _ ⟨s,dx,C,n,p,x,y,rfl,_⟩; rfl
 .rintro cdv A outer s H _ Q E hr ⟨o,dx,C,n,p,x,y,rfl,ho,hC,hn,hw,hf,q⟩
  z5⟨_,(bN (dh (gF iV hr.md (by rfl) fW (bG (pv 1) (bG (pv 2) bI))))
   (bN (vQ (pv 0) (pv 1) rfl)
   (bN (vQ (pv 0) (pv 2) rfl)
   (bQ (vQ (pv 0) (kW bI) rfl))))),?_⟩
  unfold iM
  walk_at "rd"
  have cl:=T.cl C hC
  z5⟨hn,hw,⟨x,y,hf⟩,C,dx,[],ho,cl,T.Cv C hC,(by decide),C,dx,_,rfl,cl,T.ZC C hC,(by show 1<1000; decide),bC _,fun l hl=>?_⟩
  rw [wg] at hl ⊢
  have ne:o≠l:=bL bK hl
  z5⟨C,dx,_,(bM ne).trans bK,cl,T.Eu C hC,(by show 2<1000; decide),?_⟩
  have e:upd (upd (upd H o (.ins C dx (mV "pay" (.ref p) (mV "name" (.str n) [])))) l (.lst [])) o (.ins C dx (mV "leads" (.ref l) (mV "pay" (.ref p) (mV "name" (.str n) []))))=upd (upd H l (.lst [])) o (.ins C dx [("name",.str n),("pay",.ref p),("leads",.ref l)]):=by
   funext b
   by_cases h1:b=o
   .subst h1; rw [bK,bK]; rfl
   .rw [bM h1,bM h1]
    by_cases h2:b=l
    .subst h2; rw [bK,bK]
    .rw [bM h2,bM h2,bM h1]
  rw [e]
  qV q l hl
noncomputable def jM:Sp:=fun vs H Q _=>∃ n:Str,vs=[.str n]/\n.length <= 1000/\lE n.cps.toList=true/\Q .non H
~!xq (F:Fun K eG eG mQ f fd) (T:Txt K mg D) (jR:OkF P w K mg base 1 lA lg uP):cD P w K mg base (CXO P w) 2 f fd eU jM:=by
 z5 F.okX xP ?_ ?_
 .rintro _ _ _ _ ⟨n,rfl,_⟩; rfl
 .rintro cdv A outer s H _ Q E hr ⟨n,rfl,hn,hw,q⟩
  z5⟨_,(bQ (cY (eF (dw (bU jR hr.md (by rfl) (bG (pv 0) bI)) (fun _=>rfl)))
    (bQ (qW rfl (by rfl) T.Mr T.M5 qZ (bG iZ bI)))
    cC)),?_⟩
  unfold uP
  walk_at "rd"
  rw [hw]
  qV .inl ⟨hn,q⟩
structure Ck (K:Frag) (H:Hp) (p:Addr) (x y:Int):Prop where
 fk:Fk K H p x y
 lo:0 <= x
 hi:x <= y
 by_:Bd y
noncomputable def pq:Sp:=fun vs H Q _=>∃ p x y,vs=[.ref p]/\Ck K H p x y/\Q .non H
~!B_ (F:Fun K fZ fZ pB f fd) (T:Txt K mg D) (iJ:OkF P w K mg base 2 jA jk (iB (K:=K))) (kh:OkF P w K mg base 1 oA n_ (nZ (K:=K))):cD P w K mg base (CXO P w) 3 f fd f9 (pq (K:=K)):=by
 z5 F.okX Ca ?_ ?_
 .rintro _ _ _ _ ⟨p,x,y,rfl,_⟩; rfl
 .rintro cdv A outer s H _ Q E hr ⟨p,x,y,rfl,hc,q⟩
  z5⟨_,(bQ (cY (PW.pt (pw_or (eF (dw (bU iJ hr.md (by rfl) (bG (pv 0) bI)) (fun _=>rfl))) (pw_or (dw (bU kh hr.md (by rfl) (bG (pv 0) (bG (gY (by rfl) T.qM) bI))) (fun _=>rfl)) (pw_or1 (dw (bU kh hr.md (by rfl) (bG (gY (by rfl) T.El) (bG (pv 0) bI))) (fun _=>rfl))))))
    (bQ (qW rfl (by rfl) T.Ea T.Fg qZ (bG iZ bI)))
    cC)),?_⟩
  unfold iB nZ
  walk_at "rd"
  have hy:=hc.fk.pos
  have lo:=hc.lo
  have hi:=hc.hi
  have by_:=hc.by_
  have bx:Bd x:=Nat.lt_of_le_of_lt (by om:x.natAbs <= y.natAbs) by_
  have b0:Bd 0:=Nat.two_pow_pos 8000
  have b1:Bd 1:=Nat.one_lt_two_pow (by decide)
  z5⟨⟨x,y,hc.fk⟩,x,y,hc.fk.at_,0,1,T.pA H,bx,by_,b0,b1,?_⟩
  rw [if_neg (by simp; om)]
  z5⟨1,1,T.uW H,x,y,hc.fk.at_,b1,b1,bx,by_,?_⟩
  rw [if_neg (by simp; om)]
  qV q
noncomputable def rT (D:Adr):Sp:=fun vs H Q _=>∃ (s dx:Addr) (n m:Str) (p:Addr) (x y:Int),vs=[.ref s,.str n,.ref p,.str m]/\H s=some (.ins D.Sure dx [])/\n.length <= 1000/\lE n.cps.toList=true/\m.length <= 1000/\lE m.cps.toList=true/\Fk K H p x y /\
 ∀ t l H',H l=none->(∀ b o,b≠s->H b=some o->H' b=some o)->H' t=some (.tup [.str m,.ref D.ONE])->H' l=some (.lst [.ref t])->H' s=some (.ins D.Sure dx [("name",.str n),("pay",.ref p),("leads",.ref l)])->Q .non H'
~!Je (F:Fun K xZ zJ vM f fd) (T:Txt K mg D) (jL:OkI P w K mg base (CXO P w) 4 D.Door_init jO (jH (K:=K) D)) (kO:OkX P w K mg base 2 eG eU jM):cD P w K mg base (CXO P w) 5 f fd lZ (rT (K:=K) D):=by
 z5 F.okX Ky ?_ ?_
 .rintro _ _ _ _ ⟨s,dx,n,m,p,x,y,rfl,_⟩; rfl
 .rintro cdv A outer s H _ Q E hr ⟨o,dx,n,m,p,x,y,rfl,ho,hn,hw,hm,hv,hf,q⟩
  z5⟨_,(bN (dh (yV T.zE jL hr.md (by rfl) T.YK fW (bG (pv 0) (bG (pv 1) (bG (pv 2) bI)))))
   (bN (dh (gF kO hr.md (by rfl) fW (bG (pv 3) bI)))
   (bQ (vQ (pv 0) (kW (bG (kZ (bG (pv 3) (bG (gY (by rfl) T.El) bI))) bI)) rfl)))),?_⟩
  unfold jH jM
  walk_at "rd"
  z5⟨dx,D.Sure,ho,(by simp [Fam]),hn,hw,⟨x,y,hf⟩,fun l hl=>⟨hm,hv,(by decide),fun t ht=>⟨(by decide),fun r hq=>?_⟩⟩⟩
  have ol:o≠l:=bL bK hl
  have ot:o≠t:=bL bK ht
  have lt:l≠t:=bL ((bM ol.symm).trans bK) ht
  have tr:t≠r:=bL bK hq
  have or_:o≠r:=bL ((bM ot).trans bK) hq
  z5⟨D.Sure,dx,_,(bM or_).trans ((bM ot).trans bK),T.Ng,T.w5,(by show 3<1000; decide),?_⟩
  rw [bM ol.symm] at hl
  rw [bM ot.symm,bM lt.symm] at ht
  rw [bM tr.symm,bM or_.symm] at hq
  z5 q t r _ ?_ (fun b u hb hu=>?_) ?_ ?_ bK
  .cases z:H r with
   | none=>rfl
   | some o' =>
    have bl:r≠l:=bL z hl
    rw [bM bl,z] at hq
    cases hq
  .have bl:b≠l:=bL hu hl
   have bt:b≠t:=bL hu ht
   have br:b≠r:=by
    intro e; subst e; rw [bM bl,hu] at hq; cases hq
   rw [bM hb,bM br,bM bt,bM hb,bM bl]; qV hu
  .rw [bM ot.symm,bM tr]; qV bK
  .rw [bM or_.symm]; qV bK
~!Bd.sm {i:Int} (h:i.natAbs<18446744073709551616):Bd i:=aW h (aN (by decide:18446744073709551616 <= 2 ^ 64) (Nat.pow_le_pow_right (by decide) (by decide)))
noncomputable def gj:Sp:=fun vs H Q _=>∃ (c:Int) (n:Nat),vs=[.int c,.int n]/\n <= 100/\∀ (l:Addr) (xs:List Int) H',Same H H'->H l=none->H' l=some (.lst (xs.map V.int))->xs.length=n->(∀ x∈xs,0 <= x/\x<2000000000)->Q (.ref l) H'
noncomputable def jS (c:Int) (n:Nat) (p:Addr) (H:Hp) (k:Nat) (σ:L2.St) (H':Hp):Prop:=∃ (xs:List Int) (m d:Int) (v:Option V),σ=[some (.int c),some (.int n),some (.ref p),some (.int m),some (.int d),v]/\(0 <= m/\m<1999999973)/\0 <= d/\xs.length=k/\(∀ x∈xs,0 <= x/\x<2000000000)/\Same H H'/\H' p=some (.lst (xs.map V.int))
~!Vo (F:Fun K iy iy Gp f fd) (T:Txt K mg D):cD P w K mg base CX0 1 f fd g_ gj:=by
 z5 F.ok lG ?_ ?_
 .rintro _ _ _ _ ⟨c,n,rfl,_⟩; rfl
 .rintro cdv A outer s H _ Q E hr ⟨c,n,rfl,hn,q⟩
  z5⟨_,(bN (cA (i:=2) lG.nd rfl (Or.inl rfl) (kW bI))
   (bN (cA (i:=3) lG.nd rfl (Or.inl rfl) (bV cR (bV PL (bV dj (bV cR (pv 0) bH) bH) bH) bH))
   (bN (cA (i:=4) lG.nd rfl (Or.inl rfl) bH)
   (bN (cY (PW.pt (pw_or (cL yE (pv 0) bH (cM _)) (pw_or1 (cL acn (pv 0) (bV Eb bH bH) (cM _)))))
    (bQ (cA (i:=4) lG.nd rfl (Or.inl rfl) (cB vL (by rfl) T.Oj boot_abs (bG (pv 0) bI))))
    cC)
   (bN (iD PassesOwn.never rfl (lC (by rfl) T.qe (bG (pv 1) bI).mono) (cG (i:=5) lG.nd rfl (Or.inl rfl))
    (bN (cA (i:=3) lG.nd rfl (Or.inl rfl) (bV cR (bV dj (bV dj (bV cZ (pv 3) (bV dj (bV cR (pv 3) bH) bH)) (bV cZ bH (pv 5))) bH) bH))
    (bN (dh (tH (pv 2) (bG (bZ bY (kW (bG (pv 3) (bG (bV cR (pv 4) bH) bI))) (lN qX (by rfl) T.Dk boot_int (bG (lQ Ir (pv 4) bH (cM _)) bI)) (fun _ _=>rfl)) bI)))
    (bQ (cA (i:=4) lG.nd rfl (Or.inl rfl) (bV mY (pv 4) bH))))))
   (bQ (cu (pv 2)))))))),?_⟩
  z5 Il fun R0 hR0=>?_
  walk_at "rd"
  z5⟨bC _,fun p hp=>⟨.inr (by constructor <;> decide),?_⟩⟩
  have m0:0 <= (c % 1999999973+31) * 765432101 % 1999999973/\(c % 1999999973+31) * 765432101 % 1999999973<1999999973:=⟨Int.emod_nonneg _ (by decide),Int.emod_lt_of_pos _ (by decide)⟩
  generalize (c % 1999999973+31) * 765432101 % 1999999973=m at m0 ⊢
  have a0:0 <= (if c<0 then -c else c):=by split <;> om
  subst hR0
  z5 cg fun R hR=>?_
  have loop:∀ d0:Int,0 <= d0->R { nx:=fun _ H'=>Q .non H',rt:=Q } [some (.int c),some (.int n),some (.ref p),some (.int m),some (.int d0),none] (upd H p (.lst [])):=by
   intro d0 a0
   subst hR
   have go:∀ d:Int,0 <= d->jS c n p H 0 [some (.int c),some (.int n),some (.ref p),some (.int m),some (.int d),none] (upd H p (.lst [])):=fun d hd=>⟨[],m,d,none,rfl,m0,hd,rfl,(by simp),Same.upd hp,bK⟩
   have fin:∀ (σ':L2.St) (H':Hp),jS c n p H n σ' H'->∃ v,σ'[2]?=some (some v)/\Q v H':=by
    rintro σ' H' ⟨xs,m,d,v,rfl,_,_,h1,h2,h3,h4⟩
    qV⟨_,rfl,q p xs H' h3 hp h4 h1 h2⟩
   z5 vY ?_
   walk_at "rd"
   z5⟨n,rfl,Nat.lt_of_le_of_lt hn (by decide),jS c n p H,go _ a0,?_,fin⟩
   rintro k σ' H' hk ⟨xs,m,d,v,rfl,hm,hd,h1,h2,h3,h4⟩
   walk_at "rd"
   have b1:Bd m:=Bd.sm (by om)
   have b2:Bd (m % 65521+40487):=Bd.sm (by om)
   have b3:Bd (k:Int):=Bd.sm (by om)
   have nx:0 <= (m * (m % 65521+40487)+7 * k+5) % 1999999973/\(m * (m % 65521+40487)+7 * k+5) % 1999999973<1999999973:=⟨Int.emod_nonneg _ (by decide),Int.emod_lt_of_pos _ (by decide)⟩
   generalize (m * (m % 65521+40487)+7 * (k:Int)+5) % 1999999973=z at nx ⊢
   z5⟨b1,b2,Bd.sm (by decide),b3,⟨_,h4⟩,(by decide),fun r hq=>.inr ?_⟩
   have pr:p≠r:=bL h4 hq
   have dd:0 <= d.fdiv 1000000:=by rw [Int.fdiv_eq_ediv_of_nonneg _ (by decide)]; om
   have fin:∀ x:Int,0 <= x/\x<2000000000->jS c n p H (k+1) [some (.int c),some (.int n),some (.ref p),some (.int z),some (.int (d.fdiv 1000000)),some (.int k)] (upd (upd H' r (.lst [.int z,.int (d % 1000000)])) p (.lst (xs.map V.int++[.int x]))):=by
    intro x hx
    z5⟨xs++[x],z,_,_,rfl,nx,dd,by simp [h1],?_,?_,?_⟩
    .intro y hy
     rcases List.mem_append.mp hy with hy | hy
     .exact h2 y hy
     .rw [List.mem_singleton.mp hy]; qV hx
    .intro b o hb
     have bp:b≠p:=bL hb hp
     have br:b≠r:=bL (h3 b o hb) hq
     rw [bM bp,bM br]; qV h3 b o hb
    .rw [bD]; qV bK
   by_cases h0:0<d
   .rw [if_pos (decide_eq_true h0)]
    qV⟨_,dD,_,(bM pr).trans h4,by rw [ao,h1]; qV aW hk (aN hn (by decide)),Bd.sm (by decide),fin _ (by om)⟩
   .rw [if_neg (by simp; om)]
    qV⟨_,d8,_,(bM pr).trans h4,by rw [ao,h1]; qV aW hk (aN hn (by decide)),Bd.sm (by decide),fin _ (by om)⟩
  clear hR
  walk_at "rd"
  z5 Yb (fun _=>loop _ a0) fun _=>⟨aal (by decide) (by decide),Yb (fun _=>loop _ a0) fun _=>loop 0 (by decide)⟩
noncomputable def adk (H:Hp) (D:Adr) (s:Addr) (n:Str) (p l:Addr):Prop:=∃ C dx,Fam D C/\H s=some (.ins C dx [("name",.str n),("pay",.ref p),("leads",.ref l)])
noncomputable def oY (D:Adr):Sp:=fun vs H Q _=>∃ (s:Addr) (n:Str) (p l:Addr) (xs:List V),vs=[.ref s]/\adk H D s n p l/\H l=some (.lst xs)/\xs.length <= 100/\∀ r,H r=none->Q (.ref r) (upd H r (.lst xs))
~!Lb (F:Fun K yS zQ um f fd) (T:Txt K mg D):cD P w K mg base CX0 1 f fd mJ (oY D):=by
 z5 F.ok JF ?_ ?_
 .rintro _ _ _ _ ⟨s,n,p,l,xs,rfl,_⟩; rfl
 .rintro cdv A outer s H _ Q E hr ⟨o,n,p,l,xs,rfl,⟨C,dx,hC,ho⟩,hl,hz,q⟩
  z5⟨_,(bQ (cu (lN xV (by rfl) T.Fp boot_list (bG (ug (pv 0) rfl) bI)))),?_⟩
  walk_at "rd"
  qV⟨C,dx,_,ho,T.cl C hC,T.Eu C hC,_,rfl,l,rfl,xs,hl,q⟩
structure Uo (H:Hp) (xs:List V) (ws:List (Str×Addr)):Prop where
 len:xs.length=ws.length
 at_:∀ (k:Nat) (g:Str×Addr),ws[k]?=some g->∃ t,xs[k]?=some (.ref t)/\H t=some (.tup [.str g.1,.ref g.2])
~!Uo.same {H H':Hp}{xs:List V}{ws:List (Str×Addr)} (h:Uo H xs ws) (S:Same H H'):Uo H' xs ws:=⟨h.len,fun k g e=>let ⟨t,a,b⟩:=h.at_ k g e; ⟨t,a,S _ _ b⟩⟩
noncomputable def cell (ns:List Int) (k:Int):Int:=ns.getD k.toNat 0
noncomputable def yu (K:Frag) (a:Addr) (ns:List Int):Sp:=fun vs H Q _=>∃ (k:Int),vs=[.ref a,.int k]/\SqL K H a (ns.map V.int)/\ns.length <= 63/\0 <= k/\Q (.int (cell ns k)) H
~!aaG (F:Fun K wD wD QD f fd) (a:Addr) (ns:List Int):cD P w K mg base CX0 1 f fd vW (yu K a ns):=by
 z5 cD.clean (sp:=fun vs H Q _=>∃ (k:Int),vs=[.ref a,.int k]/\SqL K H a (ns.map V.int)/\ns.length <= 63/\0 <= k/\∀ H',Same H H'->Q (.int (cell ns k)) H')
  (F.ok aa6 (fun vs H Q E h=>?_) (fun cdv A outer s H vs Q E hr h=>?_)) fun vs H Q E hP=>by x5⟨k,h1,h2,h3,h4,h5⟩:=hP; qV⟨k,h1,h2,h3,h4,fun H' S=>⟨S,h5⟩⟩
 .obtain ⟨k,rfl,_⟩:=h
  rfl
 .obtain ⟨k,rfl,hs,hl,hk,q⟩:=h
  z5⟨_,(bQ (cu (bZ bY (bV Qc (jz CG (pv 0) (gU (pv 1)) (gU (bV dj (pv 1) bH))) (kW (bG bH bI))) bH (fun _ _=>rfl)))),?_⟩
  walk_at "rd"
  z5⟨_,hs,fun p hp=>⟨M7,fun p1 hp1=>?_⟩⟩
  have n1:p≠p1:=bL bK hp1
  z5⟨_,(bM n1).trans bK,?_,fun p2 hp2=>⟨_,?_,q _ ?_⟩⟩
  .refine adl ?_
   have:=BL (ns.map V.int) (some k) (some (k+1))
   rw [ao] at this
   om
  .have:=aaP ns k.toNat
   rw [Int.toNat_of_nonneg hk] at this
   qV this
  .exact ((Same.upd hp).trans (Same.upd hp1)).trans (Same.upd hp2)
structure Fq (f:Int×Int):Prop where
 pos:0<f.2
 gcd:Int.gcd f.1 f.2=1
 sa:f.1.natAbs <= 10 ^ 40
 sb:f.2.natAbs <= 10 ^ 40
~!Fq.ba {f:Int×Int} (h:Fq f):Bd f.1:=Nat.lt_of_le_of_lt h.sa (by decide +kernel)
~!Fq.bb {f:Int×Int} (h:Fq f):Bd f.2:=Nat.lt_of_le_of_lt h.sb (by decide +kernel)
noncomputable def UW (fs:List (Int×Int)):List Nat:=fs.map fun f=>f.2.natAbs
noncomputable def lvB (fs:List (Int×Int)):Nat:=Lv.U8 (UW fs)
noncomputable def lvT (fs:List (Int×Int)):List Int:=fs.map fun f=>f.1 * ((lvB fs:Nat) / f.2)
~!z8 {B:Nat} : ∀ (bs:List Nat) (a:Nat),0<a->(∀ b∈bs,0<b/\b <= B)->bs.foldl Nat.lcm a <= a * B ^ bs.length
  | [],a,_,_=>by simp
  | b::bs,a,ha,hb=>by
    have h1:=hb b aQ
    have h2:=z8 bs (Nat.lcm a b) (Nat.lcm_pos ha h1.1) fun c hc=>hb c (aJ _ hc)
    rw [List.foldl_cons,List.length_cons,Nat.pow_succ]
    z5 aN h2 ?_
    have h3:Nat.lcm a b <= a * B:=aN (Nat.le_of_dvd (Nat.mul_pos ha h1.1) (Nat.lcm_dvd_mul a b)) (Nat.mul_le_mul_left a h1.2)
    calc Nat.lcm a b * B ^ bs.length <= a * B * B ^ bs.length:=Nat.mul_le_mul_right _ h3
      _=a * (B ^ bs.length * B):=by rw [Nat.mul_assoc,Nat.mul_comm B]
~!ZM {fs:List (Int×Int)} (h:∀ f∈fs,Fq f):∀ b∈UW fs,0<b:=fun b hb=>by
 x5⟨f,hf,rfl⟩:=List.mem_map.mp hb
 have:=(h f hf).pos
 om
~!CW {fs:List (Int×Int)} (h:∀ f∈fs,Fq f):0<lvB fs:=Lv.O6 (ZM h)
~!ZD {fs:List (Int×Int)} (h:∀ f∈fs,Fq f) (hz:fs.length <= 41):lvB fs <= (10 ^ 40) ^ 41:=by
 have h1:=z8 (B:=10 ^ 40) (UW fs) 1 (by decide) fun b hb=>by
  x5⟨f,hf,rfl⟩:=List.mem_map.mp hb
  have:=(h f hf).pos
  qV⟨by om,(h f hf).sb⟩
 rw [Nat.one_mul] at h1
 z5 aN h1 (Nat.pow_le_pow_right (by decide) ?_)
 unfold UW
 rw [ao]
 qV hz
~!Wi {fs:List (Int×Int)} (h:∀ f∈fs,Fq f) (hz:fs.length <= 41):Bd (lvB fs:Nat):=by
 unfold Bd
 rw [Int.natAbs_natCast]
 qV Nat.lt_of_le_of_lt (ZD h hz) (by decide +kernel)
~!cH {α:Type}{l:List α}{k:Nat}{x:α} (h:l[k]?=some x):l.take (k+1)=l.take k++[x]:=by
 rw [List.take_succ,h]; rfl
~!XF {fs:List (Int×Int)}{k:Nat}{f:Int×Int} (h:fs[k]?=some f):lvB (fs.take (k+1))=Nat.lcm (lvB (fs.take k)) f.2.natAbs:=by
 unfold lvB Lv.U8 UW
 rw [cH h,bD,List.foldl_append]; rfl
~!aa2 {n:Nat}{b:Int} (hb:0<b) (hn:0<n):Int.fdiv (n:Int) (Int.gcd (n:Int) b:Nat) * b=(Nat.lcm n b.natAbs:Nat):=by
 obtain ⟨m,rfl⟩ : ∃ m:Nat,b=m:=⟨b.toNat,by om⟩
 have hg:0<Nat.gcd n m:=Nat.gcd_pos_of_pos_left m hn
 rw [show Int.gcd (n:Int) (m:Int)=Nat.gcd n m from rfl,Int.natAbs_natCast,qR _ (by om),<- Int.natCast_ediv,<- Int.natCast_mul]
 congr 1
 unfold Nat.lcm
 qV Nat.div_mul_right_comm (Nat.gcd_dvd_left n m) m
~!TY {fs:List (Int×Int)}{f:Int×Int} (hf:f∈fs) (hq:Fq f):f.2 ∣ (lvB fs:Nat):=by
 have h1:f.2.natAbs ∣ lvB fs:=Lv.Gh (List.mem_map.mpr ⟨f,hf,rfl⟩)
 have:=Int.natCast_dvd_natCast.mpr h1
 rwa [Int.natAbs_of_nonneg (Int.le_of_lt hq.pos)] at this
noncomputable def fle (g f:Int×Int):Prop:=g.1 * f.2 <= f.1 * g.2
inductive FLK (K:Frag) (H:Hp):List V->List (Int×Int)->Prop
 | nil:FLK K H [] []
 | cons {p:Addr}{f:Int×Int}{xs:List V}{fs:List (Int×Int)} : SqT K H p [.int f.1,.int f.2]->FLK K H xs fs->FLK K H (.ref p::xs) (f::fs)
~!Ws {H:Hp} : ∀ {xs:List V}{fs:List (Int×Int)},FL H xs fs->FLK K H xs fs
 | _,_,.nil=>.nil
 | _,_,.cons e t=>.cons (.of e) (Ws t)
~!FLK.imp {H H':Hp} (h:∀ p a b,SqT K H p [.int a,.int b]->SqT K H' p [.int a,.int b]):∀ {xs:List V}{fs:List (Int×Int)},FLK K H xs fs->FLK K H' xs fs
 | _,_,.nil=>.nil
 | _,_,.cons e t=>.cons (h _ _ _ e) (FLK.imp h t)
~!FLK.same {H H':Hp} (S:Same H H') {xs:List V}{fs:List (Int×Int)} (h:FLK K H xs fs):FLK K H' xs fs:=h.imp fun _ _ _ e=>S.tup e
~!FLK.updL {H:Hp}{l:Addr}{ys zs:List V} (hl:H l=some (.lst ys)) {xs:List V}{fs:List (Int×Int)} (h:FLK K H xs fs):FLK K (upd H l (.lst zs)) xs fs:=h.imp fun _ _ _ e=>e.updO hl (fun _ z=>by cases z) fun _ _ z=>by cases z
~!FLK.length {H:Hp} : ∀ {xs:List V}{fs:List (Int×Int)},FLK K H xs fs->xs.length=fs.length
 | _,_,.nil=>rfl
 | _,_,.cons _ t=>by rw [List.length_cons,List.length_cons,FLK.length t]
~!FLK.get {H:Hp} : ∀ {xs:List V}{fs:List (Int×Int)}{k:Nat}{x:V},FLK K H xs fs->xs[k]?=some x->∃ p f,x=.ref p/\fs[k]?=some f/\SqT K H p [.int f.1,.int f.2]
 | _,_,_,_,.nil,h=>by simp at h
 | _,_,0,_,.cons (p:=p) (f:=f) e t,h=>by
  simp at h
  qV⟨p,f,h.symm,rfl,e⟩
 | _,_,k+1,_,.cons e t,h=>by
  x5⟨p,f,h1,h2,h3⟩:=FLK.get (k:=k) t (by simpa using h)
  qV⟨p,f,h1,by simpa using h2,h3⟩
~!FLK.append {H:Hp} : ∀ {xs ys:List V}{fs gs:List (Int×Int)},FLK K H xs fs->FLK K H ys gs->FLK K H (xs++ys) (fs++gs)
 | _,_,_,_,.nil,h=>h
 | _,_,_,_,.cons e t,h=>.cons e (FLK.append t h)
noncomputable def qY (K:Frag):Sp:=fun vs H Q _=>∃ (l:Addr) (xs:List V) (fs:List (Int×Int)),vs=[.ref l]/\H l=some (.lst xs)/\FLK K H xs fs/\(∀ f∈fs,Fq f)/\fs.length <= 41 /\
 ∀ D p,H D=none->upd H D (.lst ((lvT fs).map V.int)) p=none->Q (.ref p) (upd (upd H D (.lst ((lvT fs).map V.int))) p (.tup [.ref D,.int (lvB fs:Nat)]))
noncomputable def lJ (l:Addr) (fs:List (Int×Int)) (H1:Hp) (k:Nat) (σ:L2.St) (H:Hp):Prop:=∃ z,σ=[some (.ref l),some (.int (lvB (fs.take k):Nat)),z]/\H=H1
noncomputable def lK (fs:List (Int×Int)) (D:Addr) (H1:Hp) (k:Nat) (ys:List V) (H:Hp):Prop:=ys=((lvT fs).take k).map V.int/\H=upd H1 D (.lst ys)
structure Fz (f:Int×Int):Prop where
 pos:0<f.2
 ba:Bd f.1
 bb:Bd f.2
~!Fq.fz {f:Int×Int} (h:Fq f):Fz f:=⟨h.pos,h.ba,h.bb⟩
~!KC {fs:List (Int×Int)} (h:∀ f∈fs,Fz f):0<lvB fs:=Lv.O6 fun b hb=>by
 x5⟨f,hf,rfl⟩:=List.mem_map.mp hb
 have:=(h f hf).pos
 om
~!Wo {fs:List (Int×Int)} (h:∀ f∈fs,Fz f) (b:Bd (lvB fs:Nat)) (k:Nat):0<lvB (fs.take k)/\Bd (lvB (fs.take k):Nat):=by
 z5⟨KC fun f hf=>h f (List.mem_of_mem_take hf),?_⟩
 have dv:lvB (fs.take k) ∣ lvB fs:=Lv.yU.mpr fun c hc=>by
  x5⟨f,hf,rfl⟩:=List.mem_map.mp hc
  qV Lv.Gh (List.mem_map.mpr ⟨f,List.mem_of_mem_take hf,rfl⟩)
 have le:=Nat.le_of_dvd (KC h) dv
 unfold Bd at b ⊢
 rw [Int.natAbs_natCast] at b ⊢
 qV Nat.lt_of_le_of_lt le b
noncomputable def Aj (K:Frag):Sp:=fun vs H Q _=>∃ (l:Addr) (xs:List V) (fs:List (Int×Int)),vs=[.ref l]/\H l=some (.lst xs)/\FLK K H xs fs/\(∀ f∈fs,Fz f)/\fs.length <= 41/\Bd (lvB fs:Nat) /\
 ∀ D p,H D=none->upd H D (.lst ((lvT fs).map V.int)) p=none->Q (.ref p) (upd (upd H D (.lst ((lvT fs).map V.int))) p (.tup [.ref D,.int (lvB fs:Nat)]))
~!Ii (F:Fun K iK iK yI f fd) (d_:OkF P w K mg base 1 iC iI gP):cD P w K mg base CX0 2 f fd jr (Aj K):=by
 z5 F.ok zf ?_ ?_
 .rintro _ _ _ _ ⟨l,xs,fs,rfl,_⟩; rfl
 .rintro cdv A outer s H _ Q E hr ⟨l,xs,fs,rfl,hl,hf,hq,hz,hB,q⟩
  z5⟨_,(bN (cA (i:=1) zf.nd rfl (Or.inr rfl) bH)
   (bN (iD PassesOwn.never rfl (cV ((pv 0)).mono) (cG (i:=2) zf.nd rfl (Or.inl rfl))
    (bQ (cA (i:=1) zf.nd rfl (Or.inr rfl) (bV cZ (bV mY (pv 1) (bU d_ hr.md (by rfl) (bG (pv 1) (bG (bZ (show IxR _ (Nf K) from cX) (pv 2) bH (fun _ _=>rfl)) bI)))) (bZ (show IxR _ (Nf K) from cX) (pv 2) bH (fun _ _=>rfl))))))
   (bQ (cu (kZ (bG (jy (bO yI) TX ["fractions", "bottom", "?one"] ["one"] (cV ((pv 0)).mono) (eV (i:=0)) c7 (bV cZ (bZ (show IxR _ (Nf K) from cX) (pv 0) bH (fun _ _=>rfl)) (bV mY (pv 2) (bZ (show IxR _ (Nf K) from cX) (pv 0) bH (fun _ _=>rfl))))) (bG (pv 1) bI))))))),?_⟩
  unfold gP
  walk_at "rd"
  have hx:xs.length <= 41:=by rw [hf.length]; qV hz
  z5 fj ⟨_,rfl,l,xs,rfl,hl,lJ l fs H,⟨none,rfl,rfl⟩,?_,?_⟩
  .rintro k x σ' H' hk ⟨z,rfl,rfl⟩ _
   x5⟨p,g,rfl,hg,hp⟩:=hf.get hk
   have hm:=aC hg
   x5⟨b0,b1⟩:=Wo hq hB k
   have g0:=Kp (a:=((lvB (fs.take k):Nat):Int)) (b:=g.2) (Int.ne_of_gt (hq g hm).pos)
   have g1:=Rr (a:=((lvB (fs.take k):Nat):Int)) (b:=g.2) (Int.ne_of_gt (hq g hm).pos) (hq g hm).bb
   walk_at "rd"
   z5⟨_,hp,_,dD,_,rfl,by om,g1,_,hp,_,dD,_,rfl,?_,(hq g hm).bb,hl,some (.ref p),?_,rfl⟩
   .rw [qR _ g0]
    qV b1.div g0
   .rw [aa2 (hq g hm).pos b0,<- XF hg]
  .rintro σ' H' ⟨z,rfl,rfl⟩ _
   walk_at "rd"
   have e0:fs.take xs.length=fs:=by rw [hf.length]; qV aR
   rw [e0]
   z5 dR ⟨_,rfl,l,xs,rfl,hl,aN hx (by decide),fun D hD=>⟨lK fs D H',⟨rfl,rfl⟩,?_,?_⟩⟩
   .rintro k x ys Hc hk ⟨rfl,rfl⟩ _ ha
    x5⟨p,g,rfl,hg,hp⟩:=hf.get hk
    have hm:=aC hg
    have hpD:SqT K (upd H' D (.lst (((lvT fs).take k).map V.int))) p [.int g.1,.int g.2]:=(Same.upd hD).tup hp
    walk_at "rd"
    z5⟨_,hpD,_,d8,_,hpD,_,dD,_,rfl,Int.ne_of_gt (hq g hm).pos,(hq g hm).bb,_,rfl,(hq g hm).ba,?_,ha,?_,wg⟩
    .rw [qR _ (hq g hm).pos]
     qV hB.div (hq g hm).pos
    .rw [qR _ (hq g hm).pos]
     have e1:(lvT fs)[k]?=some (g.1 * ((lvB fs:Nat) / g.2)):=by
      unfold lvT
      rw [au,hg]; rfl
     rw [cH e1,bD]; rfl
   .rintro ys Hc ⟨rfl,rfl⟩ _
    have e2:(lvT fs).take xs.length=lvT fs:=by
     z5 aM ?_
     unfold lvT
     rw [ao,hf.length]
     qV aG _
    rw [e2]
    qV⟨dW,fun p hp=>q D p hD hp⟩
~!Ah (F:Fun K iK iK yI f fd) (d_:OkF P w K mg base 1 iC iI gP):cD P w K mg base CX0 2 f fd jr (qY K) :=
 (Ii F d_).imp fun vs H Q E h=>by
  x5⟨l,xs,fs,a,b,c,d,e,q⟩:=h
  qV⟨l,xs,fs,a,b,c,fun f hf=>(d f hf).fz,e,Wi d e,q⟩
noncomputable def zV:Sp:=fun vs H Q _=>∃ (l:Addr) (xs:List V) (fs:List (Int×Int)),vs=[.ref l]/\H l=some (.lst xs)/\FL H xs fs/\(∀ f∈fs,Fq f)/\fs.length <= 41 /\
 ∀ D p,H D=none->upd H D (.lst ((lvT fs).map V.int)) p=none->Q (.ref p) (upd (upd H D (.lst ((lvT fs).map V.int))) p (.tup [.ref D,.int (lvB fs:Nat)]))
~!XS {vs:List V}{H:Hp}{Q:VK}{E:XK} (h:zV vs H Q E):qY K vs H Q E:=by x5⟨l,xs,fs,a,b,c,d⟩:=h; qV⟨l,xs,fs,a,b,Ws c,d⟩
noncomputable def zB:Sp:=fun vs H Q _=>∃ (l:Addr) (xs:List V) (fs:List (Int×Int)),vs=[.ref l]/\H l=some (.lst xs)/\FL H xs fs/\(∀ f∈fs,Fq f)/\fs.length <= 41 /\
 ∀ p x y,Low (lvT fs).sum (lvB fs:Nat) x y->H p=none->Q (.ref p) (upd H p (.tup [.int x,.int y]))
~!Yk (F:Fun K tO tO Jt f fd) (T:Txt K mg D) (oZ:OkF P w K mg base 2 iK jr zV) (gW:OkF P w K mg base 2 jY jZ jB):cD P w K mg base CX0 3 f fd uo zB:=by
 z5 cD.cleanP (sp:=fun vs H Q _=>∃ (l:Addr) (xs:List V) (fs:List (Int×Int)),vs=[.ref l]/\H l=some (.lst xs)/\FL H xs fs/\(∀ f∈fs,Fq f)/\fs.length <= 41 /\
   ∀ p x y H',Low (lvT fs).sum (lvB fs:Nat) x y->Same H H'->H p=none->H' p=some (.tup [.int x,.int y])->Q (.ref p) H')
  (F.ok N6 (fun vs H Q E h=>?_) (fun cdv A outer s H vs Q E hr h=>?_)) fun vs H Q E hP=>by x5⟨l,xs,fs,h1,h2,h3,h4,h5,h6⟩:=hP; qV⟨l,xs,fs,h1,h2,h3,h4,h5,fun p x y H' l S e1 e2=>⟨S,p,_,e2,e1,h6 p x y l e1⟩⟩
 .obtain ⟨l,xs,fs,rfl,_⟩:=h
  rfl
 .obtain ⟨l,xs,fs,rfl,hl,hf,hq,hz,q⟩:=h
  z5⟨_,(bN (cA (i:=1) N6.nd rfl (Or.inl rfl) (bU oZ hr.md (by rfl) (bG (pv 0) bI)))
   (bQ (cu (bU gW hr.md (by rfl) (bG (cB (Bh rfl) (by rfl) T.Yh boot_sum (bG (bZ dX (pv 1) bH (fun _ _=>rfl)) bI)) (bG (bZ dX (pv 1) bH (fun _ _=>rfl)) bI)))))),?_⟩
  unfold zV jB
  walk_at "rd"
  z5⟨xs,hl,fs,hf,hq,hz,fun D p hD hp=>⟨lvT fs,(bM (bL bK hp)).trans bK,?_,Wi hq hz,fun p1 x y lw hp1=>?_⟩⟩
  .have:=CW hq
   om
  .have S:=(Same.upd hD (o:=.lst ((lvT fs).map V.int))).trans (Same.upd hp (o:=.tup [.ref D,.int (lvB fs:Nat)]))
   qV q p1 x y _ lw (S.trans (Same.upd hp1)) (S.free hp1) bK
structure Pairs (H:Hp) (xs:List V) (ps:List (Str×Int×Int)):Prop where
 len:xs.length=ps.length
 at_:∀ (k:Nat) (g:Str×Int×Int),ps[k]?=some g->∃ t c:Addr,xs[k]?=some (.ref t)/\H t=some (.tup [.str g.1,.ref c])/\H c=some (.tup [.int g.2.1,.int g.2.2])
structure W8 (g:Str×Int×Int):Prop where
 len:g.1.length <= 1000
 wd:lE g.1.cps.toList=true
 pos:0<g.2.2
 gcd:Int.gcd g.2.1 g.2.2=1
 lo:0 <= g.2.1
 hi:g.2.1 <= g.2.2
 fq:Fq g.2
noncomputable def mW:Sp:=fun vs H Q _=>∃ (l:Addr) (xs:List V) (ps:List (Str×Int×Int)),vs=[.ref l]/\H l=some (.lst xs)/\Pairs H xs ps/\(∀ g∈ps,W8 g)/\ps.length <= 41/\(∀ x y,Low (lvT (ps.map (·.2))).sum (lvB (ps.map (·.2)):Nat) x y->x=1/\y=1)/\∀ H',Same H H'->Q .non H'
noncomputable def jP (l:Addr) (H:Hp) (_:Nat) (σ:L2.St) (H':Hp):Prop:=∃ u v,σ=[some (.ref l),u,v]/\H'=H
noncomputable def jQ (D1:Addr) (ps:List (Str×Int×Int)) (H:Hp) (k:Nat) (ys:List V) (Hc:Hp):Prop:=FL H ys ((ps.map (·.2)).take k)/\Hc=upd H D1 (.lst ys)
~!Dw (F:Fun K jd jd nQ f fd) (T:Txt K mg D) (kO:OkX P w K mg base 2 eG eU jM) (oK:OkX P w K mg base 3 fZ f9 (pq (K:=K))) (Xd:OkX P w K mg base 3 tO uo zB):cD P w K mg base (CXO P w) 4 f fd ju mW:=by
 z5 F.okX pU ?_ ?_
 .rintro _ _ _ _ ⟨l,xs,ps,rfl,_⟩; rfl
 .rintro cdv A outer s H _ Q E hr ⟨l,xs,ps,rfl,hl,hp,hg,hz,h1,q⟩
  z5⟨_,(bN (iD PassesOwn.leaving rfl (cV ((pv 0)).mono) (gR (n:=2) rfl (cF (cG (i:=1) pU.nd rfl (Or.inl rfl)) (cF (cG (i:=2) pU.nd rfl (Or.inl rfl)) gC)))
    (bN (dh (gF kO hr.md (by rfl) fW (bG (pv 1) bI)))
    (bQ (dh (gF oK hr.md (by rfl) fW (bG (pv 2) bI))))))
   (bQ (cY (cL (Ub (K:=K) rfl hr.units) (gF Xd hr.md (by rfl) fW (bG (jy (bO nQ) qC qC ["pair"] (cV ((pv 0)).mono) (eV (i:=0)) c7 (bZ dX (pv 0) bH (fun _ _=>rfl))) bI)) (gY (by rfl) T.El) (cM _))
    (bQ (qW rfl (by rfl) T.Ea T.Fg qZ (bG iZ bI)))
    cC))),?_⟩
  unfold jM pq zB
  walk_at "rd"
  z5 fj ?_
  walk_at "rd"
  z5⟨xs,hl,jP l H,⟨none,none,rfl,rfl⟩,?_,?_⟩
  .rintro k x σ' H' hk ⟨u,v,rfl,rfl⟩ _
   have lk:k<ps.length:=by rw [<- hp.len]; qV(aq.mp hk).1
   have e:ps[k]?=some ps[k]:=aj lk
   have ok:=hg _ (aX lk)
   x5⟨t,c,a,b,d⟩:=hp.at_ k _ e
   rw [hk] at a
   cases a
   qV⟨t,rfl,_,b,rfl,_,_,rfl,_,_,rfl,rfl,_,rfl,_,rfl,ok.len,ok.wd,_,rfl,c,rfl,⟨_,_,⟨.of d,ok.pos,ok.gcd⟩,ok.lo,ok.hi,ok.fq.bb⟩,hl,_,_,rfl,rfl⟩
  .rintro σ' H' ⟨u,v,rfl,rfl⟩ _
   z5 dR ?_
   walk_at "rd"
   z5⟨xs,hl,by rw [hp.len]; qV aN hz (by decide),fun D1 hD=>⟨jQ D1 ps H',⟨.nil,rfl⟩,?_,?_⟩⟩
   .rintro k x ys Hc hk ⟨hf,rfl⟩ hy _
    have lk:k<ps.length:=by rw [<- hp.len]; qV(aq.mp hk).1
    have e:ps[k]?=some ps[k]:=aj lk
    x5⟨t,c,a,b,d⟩:=hp.at_ k _ e
    rw [hk] at a
    cases a
    walk_at "rd"
    z5⟨_,(bM (bL b hD)).trans b,_,dD,(bM (bL hl hD)).trans hl,?_,wg⟩
    rw [List.take_succ,au,e]
    qV hf.append (.one d)
   .rintro ys Hc ⟨hf,rfl⟩ hy
    have hk:(ps.map (·.2)).take xs.length=ps.map (·.2):=by rw [hp.len,<- ao (f:=fun g:Str×Int×Int=>g.2),aR]
    rw [hk] at hf
    z5⟨ys,bK,_,hf.same (Same.upd hD),?_,by rw [ao]; qV hz,fun p x y lo hn=>?_⟩
    .intro g hm
     x5⟨g',hm',rfl⟩:=List.mem_map.mp hm
     qV(hg g' hm').fq
    .obtain ⟨rfl,rfl⟩:=h1 x y lo
     z5⟨_,.tup (.of bK) (dz.ints K _ [1,1]),_,.tup (T.uW _) (dz.ints K _ [1,1]),rfl,rfl,?_⟩
     rw [if_neg (by decide)]
     qV q _ ((Same.upd hD).trans (Same.upd hn))
inductive DA (H:Hp) (S:Int):List (Key×V)->List (Str×Int)->Prop
 | nil:DA H S [] []
 | cons {n:Str}{W:Int}{c:Addr}{kvs:List (Key×V)}{acc:List (Str×Int)} (h:H c=some (.tup [.int (Ac.lw W S).1,.int (Ac.lw W S).2])) (t:DA H S kvs acc):DA H S ((.inr n,.ref c)::kvs) ((n,W)::acc)
~!DA.imp {H H':Hp}{S:Int} (h:∀ c x y,H c=some (.tup [.int x,.int y])->H' c=some (.tup [.int x,.int y])):∀ {kvs:List (Key×V)}{acc:List (Str×Int)},DA H S kvs acc->DA H' S kvs acc
 | _,_,.nil=>.nil
 | _,_,.cons a t=>.cons (h _ _ _ a) (t.imp h)
~!DA.len {H:Hp}{S:Int} : ∀ {kvs:List (Key×V)}{acc:List (Str×Int)},DA H S kvs acc->kvs.length=acc.length
 | _,_,.nil=>rfl
 | _,_,.cons _ t=>congrArg (· + 1) t.len
~!DA.keys {H:Hp}{S:Int} : ∀ {kvs:List (Key×V)}{acc:List (Str×Int)},DA H S kvs acc->kvs.map (·.1)=(acc.map (·.1)).map Sum.inr
 | _,_,.nil=>rfl
 | _,_,.cons _ t=>by rw [List.map_cons,List.map_cons,List.map_cons,t.keys]
~!DA.val {H:Hp}{S:Int} (r:Str):∀ {kvs:List (Key×V)}{acc:List (Str×Int)},DA H S kvs acc->(pW kvs (.inr r)=none/\Ac.look acc r=0)\/∃ c,pW kvs (.inr r)=some (.ref c)/\H c=some (.tup [.int (Ac.lw (Ac.look acc r) S).1,.int (Ac.lw (Ac.look acc r) S).2])
 | _,_,.nil=>.inl ⟨rfl,rfl⟩
 | _,_,.cons (n:=n) (W:=W) (c:=c) (kvs:=kvs) (acc:=acc) h t=>by
  by_cases e:n=r
  .subst e
   z5 .inr ⟨c,FT rfl,?_⟩
   have:Ac.look ((n,W)::acc) n=W:=by simp [Ac.look]
   rw [this]; qV h
  .have e1:pW ((Sum.inr n,V.ref c)::kvs) (Sum.inr r:Key)=pW kvs (.inr r):=Dz fun z=>e (Sum.inr.inj z)
   have e2:Ac.look ((n,W)::acc) r=Ac.look acc r:=by simp [Ac.look,List.find?_cons,e]
   rw [e1,e2]
   qV t.val r
~!DA.any {H:Hp}{S:Int} (r:Str):∀ {kvs:List (Key×V)}{acc:List (Str×Int)},DA H S kvs acc->(kvs.any fun kv=>decide (kv.1=(.inr r:Key)))=acc.any fun g=>decide (g.1=r)
 | _,_,.nil=>rfl
 | _,_,.cons (n:=n) _ t=>by
  rw [List.any_cons,List.any_cons,t.any r]
  congr 1
  by_cases e:n=r
  .subst e; rw [decide_eq_true rfl,decide_eq_true rfl]
  .rw [decide_eq_false e,decide_eq_false fun z=>e (Sum.inr.inj z)]
~!DA.sets {H:Hp}{S y:Int}{c:Addr}{r:Str} (hc:H c=some (.tup [.int (Ac.lw y S).1,.int (Ac.lw y S).2])):∀ {kvs:List (Key×V)}{acc:List (Str×Int)},DA H S kvs acc->DA H S (kvs.map fun kv=>if kv.1=(.inr r:Key) then (kv.1,.ref c) else kv) (acc.map fun g=>if g.1=r then (g.1,y) else g)
 | _,_,.nil=>.nil
 | _,_,.cons (n:=n) (W:=W) (c:=c') h t=>by
  rw [List.map_cons,List.map_cons]
  by_cases e:n=r
  .subst e
   rw [if_pos rfl,if_pos rfl]
   qV .cons hc (t.sets hc)
  .rw [if_neg e,if_neg fun z=>e (Sum.inr.inj z)]
   qV .cons h (t.sets hc)
~!DA.snoc {H:Hp}{S y:Int}{c:Addr}{r:Str} (hc:H c=some (.tup [.int (Ac.lw y S).1,.int (Ac.lw y S).2])):∀ {kvs:List (Key×V)}{acc:List (Str×Int)},DA H S kvs acc->DA H S (kvs++[(.inr r,.ref c)]) (acc++[(r,y)])
 | _,_,.nil=>.cons hc .nil
 | _,_,.cons h t=>.cons h (t.snoc hc)
~!DA.put {H:Hp}{S y:Int}{c:Addr}{r:Str}{kvs:List (Key×V)}{acc:List (Str×Int)} (hc:H c=some (.tup [.int (Ac.lw y S).1,.int (Ac.lw y S).2])) (h:DA H S kvs acc):DA H S (putK kvs (.inr r) (.ref c)) (Ac.put acc r y):=by
 unfold putK Ac.put
 rw [h.any r]
 split
 .exact h.sets hc
 .exact h.snoc hc
~!DA.get {H:Hp}{S:Int} : ∀ {kvs:List (Key×V)}{acc:List (Str×Int)}{i:Nat}{k:Key}{v:V},DA H S kvs acc->kvs[i]?=some (k,v)->∃ n W c,acc[i]?=some (n,W)/\k=.inr n/\v=.ref c/\H c=some (.tup [.int (Ac.lw W S).1,.int (Ac.lw W S).2])
 | _,_,_,_,_,.nil,e=>by simp at e
 | _,_,0,_,_,.cons h _,e=>by
  rw [List.getElem?_cons_zero] at e
  cases e
  qV⟨_,_,_,rfl,rfl,rfl,h⟩
 | _,_,i+1,_,_,.cons _ t,e=>t.get (by rw [List.getElem?_cons_succ] at e; qV e)
~!Tp:∀ {kvs:List (Key×V)}{i:Nat}{k:Key}{v:V},(kvs.map (·.1)).Nodup->kvs[i]?=some (k,v)->pW kvs k=some v
 | [],_,_,_,_,e=>by simp at e
 | p::kvs,0,k,v,_,e=>by
  rw [List.getElem?_cons_zero] at e
  cases e
  qV FT rfl
 | p::kvs,i+1,k,v,hn,e=>by
  rw [List.getElem?_cons_succ] at e
  rw [List.map_cons,List.nodup_cons] at hn
  rw [Dz fun z=>hn.1 (by rw [z]; qV List.mem_map.mpr ⟨(k,v),aC e,rfl⟩)]
  qV Tp hn.2 e
inductive WF (K:Frag) (H:Hp):List V->List (Str×Int×Int)->List (Str×Addr)->Prop
 | nil:WF K H [] [] []
 | cons {t c:Addr}{n:Str}{x y:Int}{xs:List V}{gs:List (Str×Int×Int)}{ws:List (Str×Addr)} (h1:H t=some (.tup [.str n,.ref c])) (h2:SqT K H c [.int x,.int y]) (r:WF K H xs gs ws):WF K H (.ref t::xs) ((n,x,y)::gs) ((n,c)::ws)
~!WF.imp {H H':Hp} (h:∀ t ys,H t=some (.tup ys)->H' t=some (.tup ys)) (h':∀ c xs,SqT K H c xs->SqT K H' c xs):∀ {xs:List V}{gs:List (Str×Int×Int)}{ws:List (Str×Addr)},WF K H xs gs ws->WF K H' xs gs ws
 | _,_,_,.nil=>.nil
 | _,_,_,.cons a b r=>.cons (h _ _ a) (h' _ _ b) (r.imp h h')
~!WF.same {H H':Hp} (S:Same H H') {xs:List V}{gs:List (Str×Int×Int)}{ws:List (Str×Addr)} (h:WF K H xs gs ws):WF K H' xs gs ws:=h.imp (fun t ys e=>S _ _ e) fun c xs e=>S.tup e
~!WF.updL {H:Hp}{l:Addr}{ys zs:List V} (hl:H l=some (.lst ys)) {xs:List V}{gs:List (Str×Int×Int)}{ws:List (Str×Addr)} (h:WF K H xs gs ws):WF K (upd H l (.lst zs)) xs gs ws :=
 h.imp (fun t us e=>(bM (fM e hl (by intro z; cases z))).trans e) fun c xs e=>e.updO hl (by intro ys z; cases z) (by intro ob ys z; cases z)
~!WF.len {H:Hp} : ∀ {xs:List V}{gs:List (Str×Int×Int)}{ws:List (Str×Addr)},WF K H xs gs ws->xs.length=gs.length
 | _,_,_,.nil=>rfl
 | _,_,_,.cons _ _ r=>congrArg (· + 1) r.len
~!WF.snoc {H:Hp}{t c:Addr}{n:Str}{x y:Int} (h1:H t=some (.tup [.str n,.ref c])) (h2:SqT K H c [.int x,.int y]):∀ {xs:List V}{gs:List (Str×Int×Int)}{ws:List (Str×Addr)},WF K H xs gs ws->WF K H (xs++[.ref t]) (gs++[(n,x,y)]) (ws++[(n,c)])
 | _,_,_,.nil=>.cons h1 h2 .nil
 | _,_,_,.cons a b r=>.cons a b (r.snoc h1 h2)
~!WF.ways {H:Hp} : ∀ {xs:List V}{gs:List (Str×Int×Int)}{ws:List (Str×Addr)},WF K H xs gs ws->Uo H xs ws
 | _,_,_,.nil=>⟨rfl,fun k g e=>by simp at e⟩
 | _,_,_,.cons a b r=>⟨congrArg (· + 1) r.ways.len,fun k g e=>by
  cases k with
  | zero =>
   rw [List.getElem?_cons_zero] at e
   cases e
   qV⟨_,rfl,a⟩
  | succ k =>
   rw [List.getElem?_cons_succ] at e ⊢
   qV r.ways.at_ k g e⟩
noncomputable def Uj (S:Int) (acc:List (Str×Int)):List (Str×Int×Int):=(acc.filter fun g=>decide (0<g.2)).map fun g=>(g.1,Ac.lw g.2 S)
~!Gq {S:Int}{acc:List (Str×Int)}{i:Nat}{n:Str}{W:Int} (h:acc[i]?=some (n,W)):Uj S (acc.take (i+1))=Uj S (acc.take i)++if 0<W then [(n,Ac.lw W S)] else []:=by
 unfold Uj
 rw [List.take_succ,h,List.filter_append,bD]
 congr 1
 show List.map _ (List.filter _ [(n,W)])=_
 by_cases e:0<W
 .rw [if_pos e,List.filter_cons,if_pos (decide_eq_true e)]; rfl
 .rw [if_neg e,List.filter_cons,if_neg (by simpa using e)]; rfl
structure PW (H:Hp) (xs:List V) (gs:List (Str×Int)) (S:Int):Prop where
 len:xs.length=gs.length
 at_:∀ (k:Nat) (g:Str×Int),gs[k]?=some g->∃ t c:Addr,xs[k]?=some (.ref t)/\H t=some (.tup [.str g.1,.ref c])/\H c=some (.tup [.int (Ac.lw g.2 S).1,.int (Ac.lw g.2 S).2])
~!PW.imp {H H':Hp} (h':∀ t ys,H t=some (.tup ys)->H' t=some (.tup ys)) {xs:List V}{gs:List (Str×Int)}{S:Int} (h:PW H xs gs S):PW H' xs gs S:=⟨h.len,fun k g e=>let ⟨t,c,a,b,d⟩:=h.at_ k g e; ⟨t,c,a,h' _ _ b,h' _ _ d⟩⟩
~!PW.same {H H':Hp}{xs:List V}{gs:List (Str×Int)}{S:Int} (h:PW H xs gs S) (T:Same H H'):PW H' xs gs S:=h.imp fun _ _ e=>T _ _ e
~!PW.pairs {H:Hp}{xs:List V}{gs:List (Str×Int)}{S:Int} (h:PW H xs gs S):Pairs H xs (gs.map fun g=>(g.1,Ac.lw g.2 S)):=⟨by rw [h.len,ao],fun k g e=>by
 rw [au] at e
 cases e0:gs[k]? with
 | none=>rw [e0] at e; cases e
 | some g0 =>
  rw [e0] at e
  cases e
  qV h.at_ k g0 e0⟩
structure Wt (gs:List (Str×Int)) (S:Int):Prop where
 pos:0<S
 le:S <= 10 ^ 20
 len:gs.length <= 8
 wd:∀ g∈gs,g.1.length <= 1000/\lE g.1.cps.toList=true
 lo:∀ g∈gs,0 <= g.2
 sum:(gs.map (·.2)).sum=S
~!Vd {i:Int} (h:i.natAbs <= 10 ^ 20):Bd i:=Nat.lt_of_le_of_lt h (by decide +kernel)
~!R6 {gs:List (Str×Int)} : (∀ g∈gs,0 <= g.2)->0 <= (gs.map (·.2)).sum/\∀ g∈gs,g.2 <= (gs.map (·.2)).sum:=by
 induction gs with
 | nil=>intro _; qV⟨by simp,by simp⟩
 | cons a gs ih =>
  intro h
  x5⟨h1,h2⟩:=ih fun g hg=>h g (aJ _ hg)
  have h0:=h a aQ
  rw [List.map_cons,List.sum_cons]
  z5⟨by om,fun g hg=>?_⟩
  rcases List.mem_cons.mp hg with rfl | hg
  .om
  .have:=h2 g hg
   om
~!Wt.hi {gs:List (Str×Int)}{S:Int} (h:Wt gs S) {g:Str×Int} (hg:g∈gs):g.2 <= S:=by
 rw [<- h.sum]; qV(R6 h.lo).2 g hg
~!Wt.pair {gs:List (Str×Int)}{S:Int} (h:Wt gs S) {g:Str×Int} (hg:g∈gs):W8 (g.1,Ac.lw g.2 S):=by
 have p:=h.pos
 have l:=h.le
 have lo:=h.lo g hg
 have hi:=h.hi hg
 have p2:=Ac.jT (t:=g.2) p
 have g1:=Ac.xr (t:=g.2) p
 qV⟨(h.wd g hg).1,(h.wd g hg).2,p2,g1,Ac.acj p lo,Ac.acy p hi,p2,g1,aN (Ac.D_ _ _) (aN (by om:g.2.natAbs <= 10 ^ 20) (by decide)),aN (Ac.BK _ _) (aN (by om:S.natAbs <= 10 ^ 20) (by decide))⟩
~!abU (a b c d:Int):PyData.eqv (.tuple (List.map PyData.int [a,b])) (.tuple (List.map PyData.int [c,d]))=(decide (a=c) && decide (b=d)):=by
 simp [PyData.eqv,PyData.eqvAll]
 rfl
noncomputable def wj (K:Frag):Sp:=fun vs H Q _=>∃ (l:Addr) (xs:List V) (gs:List (Str×Int)) (S:Int),vs=[.ref l]/\H l=some (.lst xs)/\PW H xs gs S/\Wt gs S /\
 ∀ H' r ys ws,Same H H'->H r=none->H' r=some (.lst ys)->WF K H' ys (Ac.ways gs S) ws->Q (.ref r) H'
noncomputable def jJ (l d:Addr) (gs:List (Str×Int)) (S:Int) (H:Hp) (k:Nat) (σ:L2.St) (H':Hp):Prop:=∃ u v kvs,σ=[some (.ref l),some (.ref d),u,v]/\Same H H'/\H' d=some (.dK kvs)/\DA H' S kvs (Ac.jl (gs.take k))
noncomputable def jC (K:Frag) (acc:List (Str×Int)) (S:Int) (d D1:Addr) (u:HO) (H:Hp) (i:Nat) (ys:List V) (Hc:Hp):Prop:=Same (upd H d u) Hc/\Hc D1=some (.lst ys)/\∃ ws,WF K Hc ys (Uj S (acc.take i)) ws
~!Fj (F:Fun K jm jm nY f fd) (T:Txt K mg D) (abR:OkX P w K mg base 3 Ab yq (uV (K:=K) (· + ·))):cD P w K mg base (CXO P w) 4 f fd jw (wj K):=by
 z5 F.okX lO ?_ ?_
 .rintro _ _ _ _ ⟨l,xs,gs,S,rfl,_⟩; rfl
 .rintro cdv A outer s H _ Q E hr ⟨l,xs,gs,S,rfl,hl,hp,W,q⟩
  have p0:=W.pos
  have sle:=W.le
  z5⟨_,(bN (cA (i:=1) lO.nd rfl (Or.inr rfl) Ec)
   (bN (iD PassesOwn.leaving rfl (cV ((pv 0)).mono) (gR (n:=2) rfl (cF (cG (i:=2) lO.nd rfl (Or.inl rfl)) (cF (cG (i:=3) lO.nd rfl (Or.inl rfl)) gC)))
    (bQ (Kq (wV hr) (pv 1) (pv 2) (gF abR hr.md (by rfl) fW (bG (XD (wV hr) (pv 1) (pv 2) (gY (by rfl) T.qM) (by first | qV⟨rfl,rfl,rfl,rfl,rfl⟩ | constructor <;> rfl)) (bG (pv 3) bI))) rfl)))
   (bQ (cu (jy (bO nY) wZ ["pairs", "chances", "?room", "chance"] ["room"] (aaN ((pv 1)).mono) (eV (i:=0)) (aan (cL (Ub (K:=K) rfl hr.units) (Jw (wV hr) (pv 2) (pv 0) (fun _ _=>rfl)) (gY (by rfl) T.qM) (cM _))) (kZ (bG (pv 0) (bG (Jw (wV hr) (pv 2) (pv 0) (fun _ _=>rfl)) bI)))))))),?_⟩
  unfold uV
  walk_at "rd"
  z5 fun d hd=>fj ?_
  walk_at "rd"
  have ld:l≠d:=bL hl hd
  z5⟨xs,(bM ld).trans hl,jJ l d gs S H,⟨none,none,[],rfl,Same.upd hd,bK,.nil⟩,?_,?_⟩
  .rintro k x σ' H' hk ⟨u,v,kvs,rfl,S1,h1,da⟩ _
   have lk:k<gs.length:=by rw [<- hp.len]; qV(aq.mp hk).1
   have e:gs[k]?=some gs[k]:=aj lk
   have hm:=aX lk
   x5⟨t,c,a,b,cc⟩:=hp.at_ k _ e
   rw [hk] at a
   cases a
   generalize gs[k]=g at *
   x5⟨n,x⟩:=g
   have wx:=W.hi hm
   have wl:=W.lo _ hm
   have al:=Ac.vO (gs.take k) fun g hg=>W.lo g (List.mem_of_mem_take hg)
   have st:((gs.take k).map (·.2)).sum <= S:=by
    have e1:gs.map (·.2)=(gs.take k).map (·.2)++(gs.drop k).map (·.2):=by rw [<- bD,List.take_append_drop]
    have e2:=(R6 (gs:=gs.drop k) fun g hg=>W.lo g (List.mem_of_mem_drop hg)).1
    have e3:=W.sum
    rw [e1,List.sum_append] at e3
    om
   have look:0 <= Ac.look (Ac.jl (gs.take k)) n/\(Ac.look (Ac.jl (gs.take k)) n).natAbs <= 10 ^ 20:=by
    rcases Ac.O5 (Ac.jl (gs.take k)) n with e0 | ⟨g,hg,e0⟩
    .rw [e0]; qV⟨Int.le_refl _,by decide⟩
    .rw [e0]
     have:=al.2.2 g hg
     om
   obtain ⟨cq,hq,sq⟩ : ∃ cq,(pW kvs (.inr n)).getD (.ref D.NOUGHT)=.ref cq/\SqT K H' cq [.int (Ac.lw (Ac.look (Ac.jl (gs.take k)) n) S).1,.int (Ac.lw (Ac.look (Ac.jl (gs.take k)) n) S).2]:=by
    rcases da.val n with ⟨e1,e2⟩ | ⟨c',e1,e2⟩
    .rw [e1,e2,((Ac.vU p0).mpr rfl).1,((Ac.vU p0).mpr rfl).2]
     qV⟨_,rfl,T.pA H'⟩
    .rw [e1]
     qV⟨c',rfl,.of e2⟩
   walk_at "rd"
   have q1:=Ac.jT (t:=Ac.look (Ac.jl (gs.take k)) n) p0
   have q2:=Ac.jT (t:=x) p0
   have d1:=aN (Ac.D_ (Ac.look (Ac.jl (gs.take k)) n) S) look.2
   have d2:=aN (Ac.BK (Ac.look (Ac.jl (gs.take k)) n) S) (by om:S.natAbs <= 10 ^ 20)
   have d3:=aN (Ac.D_ x S) (by have:x <= S:=wx; have:0 <= x:=wl; om:x.natAbs <= 10 ^ 20)
   have d4:=aN (Ac.BK x S) (by om:S.natAbs <= 10 ^ 20)
   have d5:Bd ((Ac.lw (Ac.look (Ac.jl (gs.take k)) n) S).2 * (Ac.lw x S).2):=by
    z5 Nat.lt_of_le_of_lt (m:=10 ^ 20 * 10 ^ 20) ?_ (by decide +kernel)
    rw [Int.natAbs_mul]
    qV Nat.mul_le_mul d2 d4
   have hlen:kvs.length<sizeLine:=by
    have h9:9<sizeLine:=by decide
    have:=al.2.1
    have:=W.len
    rw [da.len]
    rw [bA] at *
    om
   z5⟨_,S1 _ _ b,rfl,_,_,rfl,_,_,rfl,rfl,.inl ⟨kvs,.inl h1⟩,_,uK.k (k:=.inr n) h1,cq,hq,c,rfl,_,_,sq,_,_,.of (S1 _ _ cc),Vd d1,Vd d2,Vd d3,Vd d4,q1,q2,d5,fun r z o lo hr=>?_⟩
   have rd:d≠r:=bL h1 hr
   z5⟨_,Rq.k (k:=.inr n) ((bM rd).trans h1) hlen,(bM ld).trans ((bM (bL ‹H' l=some (HO.lst xs)› hr)).trans ‹H' l=some (HO.lst xs)›),_,_,_,rfl,?_,bK,?_⟩
   .intro b' o' e'
    rw [bM (bL e' hd),bM (bL (S1 _ _ e') hr)]
    qV S1 _ _ e'
   .obtain ⟨ez,eo⟩:=Ac.acK p0 lo.pos lo.gcd lo.eq
    rw [cH e,Ac.Bb]
    z5 DA.put ?_ (da.imp fun c' x' y' e'=>?_)
    .rw [bM rd.symm,<- ez,<- eo]; qV bK
    .rw [bM (fM e' h1 (by intro z; cases z)),bM (bL e' hr)]; qV e'
  .rintro σ' H' ⟨u,v,kvs,rfl,S1,h1,da⟩ _
   z5 Mx ?_
   have e8:gs.take xs.length=gs:=by rw [hp.len,aR]
   rw [e8] at da
   have al:=Ac.vO gs W.lo
   have nd:(kvs.map (·.1)).Nodup:=by
    rw [da.keys]
    qV al.1.map (f:=Sum.inr) (S:=(· ≠ ·)) fun a b h z=>h (Sum.inr.inj z)
   have hlen:kvs.length <= sizeLine:=by
    have h9:9<sizeLine:=by decide
    have:=al.2.1
    have:=W.len
    rw [da.len]
    om
   walk_at "rd"
   z5⟨kvs,h1,hlen,fun o D1 hD1=>⟨jC K (Ac.jl gs) S d D1 (.frz o (.dK kvs)) H',⟨Same.upd hD1,bK,[],.nil⟩,?_,?_⟩⟩
   .rintro i k y ys Hc hi ⟨S2,hD,ws,wf⟩ hy hfr pre hpre
    x5⟨u0,rfl⟩:=List.length_eq_one_iff.mp hpre
    x5⟨nm,X,c,ea,rfl,rfl,hc⟩:=da.get hi
    have vv:=Tp nd hi
    have hcd:c≠d:=fM hc h1 (by intro z; cases z)
    have hcc:Hc c=some (.tup [.int (Ac.lw X S).1,.int (Ac.lw X S).2]):=S2 _ _ ((bM hcd).trans hc)
    walk_at "rd"
    have dg:uK Hc d (kV (.inr nm)) (some (.ref c)):=.inl ⟨kvs,.inr nm,.inr ⟨o,hfr⟩,rfl,vv.symm⟩
    z5⟨[some (.str nm)],rfl,rfl,_,dg,_,.tup (.of hcc) (dz.ints K _ [_,_]),_,.tup (T.pA _) (dz.ints K _ [0,1]),rfl,rfl,?_⟩
    have X0:=(al.2.2 _ (aC ea)).1
    by_cases hX:X=0
    .subst hX
     x5⟨e1,e2⟩:=(Ac.vU (b:=S) p0).mpr rfl
     rw [show PyData.eqv (.tuple (List.map PyData.int [(Ac.lw 0 S).1,(Ac.lw 0 S).2])) (.tuple (List.map PyData.int [0,1]))=true by rw [e1,e2]; rfl]
     z5⟨hfr,S2,hD,ws,?_⟩
     rw [Gq ea,if_neg (by decide),List.append_nil]
     qV wf
    .have e0:PyData.eqv (.tuple (List.map PyData.int [(Ac.lw X S).1,(Ac.lw X S).2])) (.tuple (List.map PyData.int [0,1]))=false:=by
      rw [abU]
      simp only [Bool.and_eq_false_iff,decide_eq_false_iff_not]
      by_cases h1:(Ac.lw X S).1=0
      .exact .inr fun h2=>hX ((Ac.vU p0).mp ⟨h1,h2⟩)
      .exact .inl h1
     rw [e0]
     z5⟨_,dg,dW,fun p hp=>?_⟩
     have pD:D1≠p:=bL hD hp
     have pd:d≠p:=bL hfr hp
     z5⟨(bM pD).trans hD,(bM pd).trans hfr,?_,bK,ws++[(nm,c)],?_⟩
     .intro b' o' e'
      rw [bM (bL e' hD1),bM (bL (S2 _ _ e') hp)]
      qV S2 _ _ e'
     .rw [Gq ea,if_pos (by om)]
      qV WF.updL ((bM pD).trans hD) ((wf.same (Same.upd hp)).snoc bK (.of ((bM (bL hcc hp)).trans hcc)))
   .rintro ys Hc ⟨S2,hD,ws,wf⟩ _
    rw [da.len,aR] at wf
    z5 q _ D1 ys ws ?_ ?_ hD wf
    .intro b o' e'
     qV S2 _ _ ((bM (bL e' hd)).trans (S1 _ _ e'))
    .cases z:H D1 with
     | none=>rfl
     | some o' =>
      have:=(bM (H:=H') (o:=.frz o (.dK kvs)) (bL z hd)).trans (S1 _ _ z)
      rw [this] at hD1
      cases hD1
~!YD {gs:List (Str×Int)}{S:Int} (W:Wt gs S):∀ (hs:List (Str×Int)) (L:Int),(∀ g∈hs,g∈gs/\(Ac.lw g.2 S).2 ∣ L)->((hs.map fun g=>(Ac.lw g.2 S).1 * (L / (Ac.lw g.2 S).2)).sum) * S=(hs.map (·.2)).sum * L
 | [],L,_=>by simp
 | g::hs,L,h=>by
  have ih:=YD W hs L fun g hg=>h g (aJ _ hg)
  x5⟨hm,q,hq⟩:=h g aQ
  have p:=Ac.jT (t:=g.2) W.pos
  have e:=Ac.zy (t:=g.2) W.pos
  rw [List.map_cons,List.sum_cons,List.map_cons,List.sum_cons,Int.add_mul,Int.add_mul,ih]
  congr 1
  generalize (Ac.lw g.2 S).1=a at *
  generalize (Ac.lw g.2 S).2=b at *
  rw [hq,Int.mul_ediv_cancel_left _ (Int.ne_of_gt p),Int.mul_right_comm,e,Int.mul_assoc]
~!ZQ {gs:List (Str×Int)}{S:Int} (W:Wt gs S):∀ x y,Low (lvT ((gs.map fun g=>(g.1,Ac.lw g.2 S)).map (·.2))).sum (lvB ((gs.map fun g=>(g.1,Ac.lw g.2 S)).map (·.2)):Nat) x y->x=1/\y=1:=by
 intro x y lo
 have hq:∀ f∈((gs.map fun g=>(g.1,Ac.lw g.2 S)).map (·.2)),Fq f:=by
  intro f hf
  x5⟨u,hu,rfl⟩:=List.mem_map.mp hf
  x5⟨g,hg,rfl⟩:=List.mem_map.mp hu
  qV(W.pair hg).fq
 have e0:(gs.map fun g=>(g.1,Ac.lw g.2 S)).map (·.2)=gs.map fun g=>Ac.lw g.2 S:=by rw [List.map_map]; rfl
 have bp:=CW hq
 have top:=YD W gs (lvB ((gs.map fun g=>(g.1,Ac.lw g.2 S)).map (·.2)):Nat) fun g hg=>⟨hg,TY (f:=Ac.lw g.2 S) (List.mem_map.mpr ⟨(g.1,Ac.lw g.2 S),List.mem_map.mpr ⟨g,hg,rfl⟩,rfl⟩) (W.pair hg).fq⟩
 have e1:(lvT ((gs.map fun g=>(g.1,Ac.lw g.2 S)).map (·.2))).sum=(gs.map fun g=>(Ac.lw g.2 S).1 * ((lvB ((gs.map fun g=>(g.1,Ac.lw g.2 S)).map (·.2)):Nat) / (Ac.lw g.2 S).2)).sum:=by
  unfold lvT
  rw [List.map_map,List.map_map]; rfl
 rw [<- e1,W.sum,Int.mul_comm S] at top
 have e2:=Int.eq_of_mul_eq_mul_right (Int.ne_of_gt W.pos) top
 rw [e2] at lo
 have h:=lo.eq
 rw [Int.mul_comm _ y] at h
 have e3:x=y:=Int.eq_of_mul_eq_mul_right (by om) h
 subst e3
 have g:=lo.gcd
 have p:=lo.pos
 rw [Int.gcd_self] at g
 om
noncomputable def Keep (s:Addr) (H H':Hp):Prop:=∀ b o,b≠s->H b=some o->H' b=some o
~!Keep.tup {s C dx:Addr}{fs:List (Str×V)}{H H':Hp} (h:Keep s H H') (hs:H s=some (.ins C dx fs)):∀ t ys,H t=some (.tup ys)->H' t=some (.tup ys):=fun t ys e=>h t _ (fM e hs (by intro z; cases z)) e
~!Keep.lst {s C dx:Addr}{fs:List (Str×V)}{H H':Hp} (h:Keep s H H') (hs:H s=some (.ins C dx fs)) {t:Addr}{ys:List V} (e:H t=some (.lst ys)):H' t=some (.lst ys):=h t _ (fM e hs (by intro z; cases z)) e
~!Keep.free {s r:Addr}{o:HO}{H H':Hp} (h:Keep s H H') (hr:H' r=none) (hs:H' s=some o):H r=none:=by
 cases z:H r with
 | none=>rfl
 | some u =>
  have:=h r u (bL hs hr).symm z
  rw [hr] at this
  cases this
~!WF.updI {H:Hp}{o C dx:Addr}{fs:List (Str×V)}{u:HO} (ho:H o=some (.ins C dx fs)) {xs:List V}{gs:List (Str×Int×Int)}{ws:List (Str×Addr)} (h:WF K H xs gs ws):WF K (upd H o u) xs gs ws :=
 h.imp (fun t us e=>(bM (fM e ho (by intro z; cases z))).trans e) fun c xs e=>e.updO ho (by intro ys z; cases z) (by intro ob ys z; cases z)
~!PW.snoc {H:Hp}{xs:List V}{gs:List (Str×Int)}{S:Int} (h:PW H xs gs S) {t c:Addr}{g:Str×Int} (h1:H t=some (.tup [.str g.1,.ref c])) (h2:H c=some (.tup [.int (Ac.lw g.2 S).1,.int (Ac.lw g.2 S).2])):PW H (xs++[.ref t]) (gs++[g]) S:=by
 z5⟨by rw [aB,aB,h.len]; rfl,fun k u e=>?_⟩
 by_cases hk:k<gs.length
 .rw [aF hk] at e
  rw [aF (by rw [h.len]; qV hk)]
  qV h.at_ k u e
 .rw [aD (by om)] at e
  rw [aD (by rw [h.len]; om),h.len]
  have e0:k - gs.length=0:=by
   cases e1:k - gs.length with
   | zero=>rfl
   | succ m=>rw [e1] at e; simp at e
  rw [e0,List.getElem?_cons_zero] at e
  cases e
  rw [e0]
  qV⟨t,c,rfl,h1,h2⟩
structure Rv (K:Frag) (H:Hp) (s C:Addr) (n:Str) (p:Addr) (ds:List (Str×Int×Int)) (ld:Addr) (ys:List V) (ws:List (Str×Addr)):Prop where
 at_:∃ dx,H s=some (.ins C dx [("name",.str n),("pay",.ref p),("leads",.ref ld)])
 hl:H ld=some (.lst ys)
 wf:WF K H ys ds ws
noncomputable def gM (K:Frag) (D:Adr):Sp:=fun vs H Q _=>∃ (s dx C:Addr) (n:Str) (p l:Addr) (x y:Int) (xs:List V) (gs:List (Str×Int)) (S:Int),vs=[.ref s,.str n,.ref p,.ref l]/\H s=some (.ins C dx [])/\Fam D C/\n.length <= 1000/\lE n.cps.toList=true/\Fk K H p x y /\
 H l=some (.lst xs)/\PW H xs gs S/\Wt gs S/\∀ H' ld ys ws,H ld=none->Keep s H H'->Rv K H' s C n p (Ac.ways gs S) ld ys ws->Q .non H'
~!GF (F:Fun K wM wU rR f fd) (T:Txt K mg D) (jL:OkI P w K mg base (CXO P w) 4 D.Door_init jO (jH (K:=K) D)) (Dt:OkX P w K mg base 4 jd ju mW)
  (Dp:OkX P w K mg base 4 jm jw (wj K)):cD P w K mg base (CXO P w) 5 f fd gO (gM K D):=by
 z5 F.okX HJ ?_ ?_
 .rintro _ _ _ _ ⟨s,dx,C,n,p,l,x,y,xs,gs,S,rfl,_⟩; rfl
 .rintro cdv A outer s H _ Q E hr ⟨o,dx,C,n,p,l,x,y,xs,gs,S,rfl,ho,hC,hn,hw,hf,hl,hp,W,q⟩
  z5⟨_,(bN (dh (yV T.zE jL hr.md (by rfl) T.YK fW (bG (pv 0) (bG (pv 1) (bG (pv 2) bI)))))
   (bN (dh (gF Dt hr.md (by rfl) fW (bG (pv 3) bI)))
   (bQ (vQ (pv 0) (gF Dp hr.md (by rfl) fW (bG (pv 3) bI)) rfl)))),?_⟩
  unfold jH mW wj
  walk_at "rd"
  z5⟨dx,C,ho,hC,hn,hw,⟨x,y,hf⟩,fun l0 h0=>?_⟩
  have ol:o≠l0:=bL bK h0
  rw [bM ol.symm] at h0
  have k1:Keep o H (upd (upd H l0 (.lst [])) o (.ins C dx [("name",.str n),("pay",.ref p),("leads",.ref l0)])):=fun b u hb e=>(bM hb).trans ((bM (bL e h0)).trans e)
  have o1:upd (upd H l0 (.lst [])) o (.ins C dx [("name",.str n),("pay",.ref p),("leads",.ref l0)]) o=some (.ins C dx [("name",.str n),("pay",.ref p),("leads",.ref l0)]):=bK
  generalize upd (upd H l0 (.lst [])) o (.ins C dx [("name",.str n),("pay",.ref p),("leads",.ref l0)])=H1 at k1 o1 ⊢
  z5⟨xs,k1.lst ho hl,_,(hp.imp (k1.tup ho)).pairs,?_,?_,ZQ W,fun H2 S2=>?_⟩
  .intro g hg
   x5⟨u,hu,rfl⟩:=List.mem_map.mp hg
   qV W.pair hu
  .rw [ao]
   qV aN W.len (by decide)
  .refine ⟨xs,S2 _ _ (k1.lst ho hl),gs,S,(hp.imp (k1.tup ho)).same S2,W,fun H3 r ys ws S3 hr3 hr hwf=>?_⟩
   have o3:=S3 _ _ (S2 _ _ o1)
   z5⟨C,dx,_,o3,T.cl C hC,T.Eu C hC,(by show 3<1000; decide),?_⟩
   z5 q _ r ys ws (k1.free (S2.free hr3) o1) (fun b u hb e=>(bM hb).trans (S3 _ _ (S2 _ _ (k1 b u hb e)))) ⟨⟨dx,bK⟩,(bM (fM hr o3 (by intro z; cases z))).trans hr,hwf.updI o3⟩
noncomputable def sG (K:Frag) (D:Adr):Sp:=fun vs H Q _=>∃ (s dx:Addr) (n r1 r2:Str) (p c:Addr) (x y w S:Int),vs=[.ref s,.str n,.ref p,.ref c,.str r1,.str r2]/\H s=some (.ins D.Toss dx [])/\n.length <= 1000/\lE n.cps.toList=true/\Fk K H p x y /\
 H c=some (.tup [.int (Ac.lw w S).1,.int (Ac.lw w S).2])/\Wt [(r1,w),(r2,S - w)] S/\∀ H' ld ys ws,H ld=none->Keep s H H'->Rv K H' s D.Toss n p (Ac.ways [(r1,w),(r2,S - w)] S) ld ys ws->Q .non H'
~!Lq (F:Fun K yD zF vB f fd) (T:Txt K mg D) (iV:OkX P w K mg base 3 iT iY (iM (K:=K))) (oK:OkX P w K mg base 3 fZ f9 (pq (K:=K))) (Zt:OkX P w K mg base 3 vD uI (uV (K:=K) (· - ·)))
  (eX:OkI P w K mg base (CXO P w) 5 D.Mixed_init gO (gM K D)):cD P w K mg base (CXO P w) 6 f fd mC (sG K D):=by
 z5 F.okX Jm ?_ ?_
 .rintro _ _ _ _ ⟨s,dx,n,r1,r2,p,c,x,y,w,S,rfl,_⟩; rfl
 .rintro cdv A outer s H _ Q E hr ⟨o,dx,n,r1,r2,p,c,x,y,w,S,rfl,ho,hn,hw,hf,hc,W,q⟩
  z5⟨_,(bN (dh (gF iV hr.md (by rfl) fW (bG (pv 1) (bG (pv 2) bI))))
   (bN (dh (gF oK hr.md (by rfl) fW (bG (pv 3) bI)))
   (bQ (dh (yV T.wY eX hr.md (by rfl) T.K9 fW (bG (pv 0) (bG (pv 1) (bG (pv 2) (bG (kW (bG (kZ (bG (pv 4) (bG (pv 3) bI))) (bG (kZ (bG (pv 5) (bG (gF Zt hr.md (by rfl) fW (bG (gY (by rfl) T.El) (bG (pv 3) bI))) bI))) bI))) bI))))))))),?_⟩
  unfold iM pq uV gM
  walk_at "rd"
  have p0:=W.pos
  have sle:=W.le
  have w0:0 <= w:=W.lo (r1,w) (by simp)
  have w1:w <= S:=W.hi (g:=(r1,w)) (by simp)
  have q2:=Ac.jT (t:=w) p0
  have b3:=Vd (aN (Ac.D_ w S) (by om:w.natAbs <= 10 ^ 20))
  have b4:=Vd (aN (Ac.BK w S) (by om:S.natAbs <= 10 ^ 20))
  have b1:Bd 1:=Bd.sm (by decide)
  z5⟨hn,hw,⟨x,y,hf⟩,⟨_,_,⟨.of hc,q2,Ac.xr p0⟩,Ac.acj p0 w0,Ac.acy p0 w1,b4⟩,dW,fun p1 h1=>⟨1,1,T.uW _,_,_,.of (Same.upd h1 _ _ hc),b1,b1,b3,b4,by decide,q2,by rw [Int.one_mul]; qV b4,fun r z o1 lo hr=>⟨dW,fun p2 h2=>⟨dW,fun p3 h3=>?_⟩⟩⟩⟩
  have T2:Same (upd H p1 (.tup [.str r1,.ref c])) (upd (upd H p1 (.tup [.str r1,.ref c])) r (.tup [.int z,.int o1])):=Same.upd hr
  have T3:Same (upd (upd H p1 (.tup [.str r1,.ref c])) r (.tup [.int z,.int o1])) (upd (upd (upd H p1 (.tup [.str r1,.ref c])) r (.tup [.int z,.int o1])) p2 (.tup [.str r2,.ref r])):=Same.upd h2
  have T4:Same (upd (upd (upd H p1 (.tup [.str r1,.ref c])) r (.tup [.int z,.int o1])) p2 (.tup [.str r2,.ref r])) (upd (upd (upd (upd H p1 (.tup [.str r1,.ref c])) r (.tup [.int z,.int o1])) p2 (.tup [.str r2,.ref r])) p3 (.lst [.ref p1,.ref p2])):=Same.upd h3
  have TS:Same H (upd (upd (upd (upd H p1 (.tup [.str r1,.ref c])) r (.tup [.int z,.int o1])) p2 (.tup [.str r2,.ref r])) p3 (.lst [.ref p1,.ref p2])):=(Same.upd h1).trans (T2.trans (T3.trans T4))
  have e1:=T4 _ _ (T3 _ _ (T2 p1 _ bK))
  have e2:=T4 _ _ (T3 r _ bK)
  have e3:=T4 p2 _ bK
  x5⟨ez,eo⟩:=Ac.K1 p0 lo.pos lo.gcd lo.eq
  generalize upd (upd (upd (upd H p1 (.tup [.str r1,.ref c])) r (.tup [.int z,.int o1])) p2 (.tup [.str r2,.ref r])) p3 (.lst [.ref p1,.ref p2])=Hn at TS e1 e2 e3 ⊢
  z5⟨dx,D.Toss,TS _ _ ho,(by simp [Fam]),hn,hw,⟨x,y,hf.same TS⟩,[(r1,w),(r2,S - w)],S,⟨rfl,fun k g e=>?_⟩,W,fun H' ld ys ws f k d=>q H' ld ys ws (TS.free f) (fun b u hb e=>k b u hb (TS b u e)) d⟩
  match k,e with
  | 0,e =>
   cases e
   qV⟨p1,c,rfl,e1,TS _ _ hc⟩
  | 1,e =>
   cases e
   qV⟨p2,r,rfl,e3,by rw [<- ez,<- eo]; qV e2⟩
  | k+2,e=>cases e
noncomputable def jE (D1:Addr) (rs:List Str) (H:Hp) (k:Nat) (ys:List V) (Hc:Hp):Prop:=PW Hc ys ((rs.map fun r=>(r,(1:Int))).take k) rs.length/\Same H Hc/\Hc D1=some (.lst ys)
noncomputable def rF (K:Frag) (D:Adr):Sp:=fun vs H Q _=>∃ (s dx:Addr) (n:Str) (p l:Addr) (x y:Int) (rs:List Str),vs=[.ref s,.str n,.ref p,.ref l]/\H s=some (.ins D.Even dx [])/\n.length <= 1000/\lE n.cps.toList=true/\Fk K H p x y /\
 H l=some (.lst (rs.map V.str))/\Wt (rs.map fun r=>(r,(1:Int))) rs.length/\∀ H' ld ys ws,H ld=none->Keep s H H'->Rv K H' s D.Even n p (Ac.ways (rs.map fun r=>(r,(1:Int))) rs.length) ld ys ws->Q .non H'
~!KY (F:Fun K xY yW p8 f fd) (T:Txt K mg D) (eX:OkI P w K mg base (CXO P w) 5 D.Mixed_init gO (gM K D)):cD P w K mg base (CXO P w) 6 f fd mO (rF K D):=by
 z5 F.okX Ku ?_ ?_
 .rintro _ _ _ _ ⟨s,dx,n,p,l,x,y,rs,rfl,_⟩; rfl
 .rintro cdv A outer s H _ Q E hr ⟨o,dx,n,p,l,x,y,rs,rfl,ho,hn,hw,hf,hl,W,q⟩
  z5⟨_,(bQ (dh (yV T.wY eX hr.md (by rfl) T.K9 fW (bG (pv 0) (bG (pv 1) (bG (pv 2) (bG (jy (bO p8) uN uN ["room"] (cV ((pv 3)).mono) (eV (i:=0)) c7 (kZ (bG (pv 0) (bG (kZ (bG bH (bG (cB eN (by rfl) T.lF PySem.boot_len (bG (pv 4) bI)) bI))) bI)))) bI))))))),?_⟩
  unfold gM
  walk_at "rd"
  z5 dR ?_
  walk_at "rd"
  have l8:=W.len
  rw [ao] at l8
  have p0:=W.pos
  have z9:9<sizeLine:=by decide
  z5⟨_,hl,by rw [ao]; om,fun D1 hD=>⟨jE D1 rs H,⟨⟨rfl,fun k g e=>by simp at e⟩,Same.upd hD,bK⟩,?_,?_⟩⟩
  .rintro k x1 ys Hc hk ⟨pw,S1,hD1⟩ hy hlc
   rw [au] at hk
   cases er:rs[k]? with
   | none=>rw [er] at hk; cases hk
   | some r =>
    rw [er] at hk
    cases hk
    z5⟨_,hlc,dW,fun p1 hp1=>⟨dW,fun p2 hp2=>?_⟩⟩
    have T1:Same Hc (upd (upd Hc p1 (.tup [.int 1,.int (rs.map V.str).length])) p2 (.tup [.str r,.ref p1])):=(Same.upd hp1).trans (Same.upd hp2)
    have e1:upd (upd Hc p1 (.tup [.int 1,.int (rs.map V.str).length])) p2 (.tup [.str r,.ref p1]) p1=some (.tup [.int 1,.int (rs.map V.str).length]):=Same.upd hp2 p1 _ bK
    have e2:upd (upd Hc p1 (.tup [.int 1,.int (rs.map V.str).length])) p2 (.tup [.str r,.ref p1]) p2=some (.tup [.str r,.ref p1]):=bK
    generalize upd (upd Hc p1 (.tup [.int 1,.int (rs.map V.str).length])) p2 (.tup [.str r,.ref p1])=Hn at T1 e1 e2 ⊢
    have nD:∀ t us,Hn t=some (.tup us)->upd Hn D1 (.lst (ys++[.ref p2])) t=some (.tup us):=fun t us e=>(bM (fM e (T1 _ _ hD1) (by intro z; cases z))).trans e
    z5⟨T1 _ _ hD1,T1 _ _ hlc,?_,?_,bK⟩
    .rw [List.take_succ,au,er]
     z5((pw.same T1).imp nD).snoc (c:=p1) (nD _ _ e2) ?_
     x5⟨h1,h2⟩:=Ac.ac7 p0
     show _=some (HO.tup [.int (Ac.lw 1 (rs.length:Int)).1,.int (Ac.lw 1 (rs.length:Int)).2])
     rw [h1,h2,nD _ _ e1,ao]
    .intro b u e
     rw [bM (bL e hD)]
     qV T1 _ _ (S1 _ _ e)
  .rintro ys Hc ⟨pw,S1,hD1⟩ hy
   have ek:(rs.map fun r=>(r,(1:Int))).take (rs.map V.str).length=rs.map fun r=>(r,(1:Int)):=aM (by rw [ao,ao]; qV aG _)
   rw [ek] at pw
   qV⟨dx,D.Even,S1 _ _ ho,(by simp [Fam]),hn,hw,⟨x,y,hf.same S1⟩,ys,hD1,_,_,pw,W,fun H' ld ys ws f k d=>q H' ld ys ws (S1.free f) (fun b u hb e=>k b u hb (S1 b u e)) d⟩
noncomputable def Lt (x:Str):Prop:=x.cps.toList.all xX=true
~!RX (x y:Str):(x++y).cps.toList=x.cps.toList++y.cps.toList:=by
 show (x.cps++y.cps).toList=_
 rw [Array.toList_append]
~!aau (x y:Str):(x++y).length=x.length+y.length:=by
 show (x.cps++y.cps).size=_
 rw [Array.size_append]; rfl
~!YM {α:Type}{xs:List α}{i:Int} (h0:0 <= i) (h1:i<xs.length):∃ v,atI xs i=some v/\v∈xs:=by
 x5⟨n,rfl⟩:=Int.eq_ofNat_of_zero_le h0
 have hn:n<xs.length:=by om
 qV⟨xs[n],b_ (aj hn),aX hn⟩
~!Lt.one {i:Int} (h0:0 <= i) (h1:i<26):∃ c,atI (Str.ofString "abcdefghijklmnopqrstuvwxyz").cps.toList i=some c/\Lt ⟨#[c]⟩:=by
 have l1:(Str.ofString "abcdefghijklmnopqrstuvwxyz").cps.toList.length=26:=by decide +kernel
 x5⟨v,e,e2⟩:=YM (xs:=(Str.ofString "abcdefghijklmnopqrstuvwxyz").cps.toList) h0 (by rw [l1]; qV h1)
 z5⟨v,e,?_⟩
 unfold Lt xX
 simp only [List.all_cons,List.all_nil,Bool.and_true,decide_eq_true_eq]
 qV e2
structure Wd (x:Str):Prop where
 lt:Lt x
 lo:1 <= x.length
 hi:x.length <= 8
~!Wd.word {x:Str} (h:Wd x):lE x.cps.toList=true:=by
 have l:=h.lt
 have lo:=h.lo
 have hi:=h.hi
 have hl:x.cps.toList.length=x.length:=Array.length_toList
 unfold Lt at l
 unfold lE
 rw [l,hl,decide_eq_true lo,decide_eq_true hi]; rfl
~!Lt.fold:∀ (ys:List Str) (acc:Array Nat),acc.toList.all xX=true->(∀ y∈ys,Lt y)->(ys.foldl (fun acc p=>acc++(Str.ofString "").cps++p.cps) acc).toList.all xX=true
 | [],acc,h,_=>h
 | y::ys,acc,h,hy=>by
  rw [List.foldl_cons]
  z5 Lt.fold ys _ ?_ fun z hz=>hy z (aJ _ hz)
  have e0:(Str.ofString "").cps = #[]:=by decide +kernel
  have hy0:y.cps.toList.all xX=true:=hy y aQ
  rw [e0,Array.append_empty,Array.toList_append,List.all_append,h,hy0]; rfl
~!Lt.glued {ys:List Str} (h:∀ y∈ys,Lt y):Lt (Txt.join (Str.ofString "") ys):=by
 show ((ys.drop 1).foldl (fun acc p=>acc++(Str.ofString "").cps++p.cps) (ys.headD Str.empty).cps).toList.all xX=true
 z5 Lt.fold _ _ ?_ fun y hy=>h y (List.mem_of_mem_drop hy)
 cases ys with
 | nil=>rfl
 | cons y ys=>qV h y aQ
noncomputable def wN (ns:List Str) (o:Nat):List (Key×V):=(ns.zipIdx o).map fun g=>(.inr g.1,.int (g.2:Nat))
noncomputable abbrev Bj (ns:List Str):List (Key×V):=wN ns 0
~!DN {ns:List Str}{o:Nat} : (wN ns o).length=ns.length:=by unfold wN; rw [ao,List.length_zipIdx]
~!Ag {n:Str}{ns:List Str}{o:Nat} : wN (n::ns) o=(.inr n,.int (o:Nat))::wN ns (o+1):=by unfold wN; rw [List.zipIdx_cons]; rfl
~!Sg {n:Str} : ∀ {ns:List Str}{o:Nat},n ∉ ns->pW (wN ns o) (.inr n)=none
 | [],_,_=>rfl
 | a::ns,o,h=>by
  rw [Ag]
  have ne:¬ (Sum.inr a:Key)=.inr n:=fun z=>h (by injection z with z; rw [z]; qV aQ)
  unfold pW
  rw [List.find?_cons,decide_eq_false ne]
  qV Sg fun m=>h (aJ _ m)
~!Nx {n:Str} : ∀ {ns:List Str}{o k:Nat},ns.Nodup->ns[k]?=some n->pW (wN ns o) (.inr n)=some (.int ((o+k:Nat):Int))
 | [],_,_,_,h=>by simp at h
 | a::ns,o,0,_,h=>by
  rw [List.getElem?_cons_zero] at h
  cases h
  rw [Ag]
  unfold pW
  rw [List.find?_cons,decide_eq_true rfl]; rfl
 | a::ns,o,k+1,nd,h=>by
  rw [List.getElem?_cons_succ] at h
  x5⟨na,nd'⟩:=List.nodup_cons.mp nd
  have ne:¬ (Sum.inr a:Key)=.inr n:=fun z=>na (by injection z with z; rw [z]; qV aC h)
  have ih:=Nx (o:=o+1) nd' h
  rw [Ag]
  unfold pW at ih ⊢
  rw [List.find?_cons,decide_eq_false ne]
  rw [show o+(k+1)=o+1+k by om]
  qV ih
~!Ys {n:Str}{ns:List Str} (h:n ∉ ns):putK (Bj ns) (.inr n) (.int (ns.length:Nat))=Bj (ns++[n]):=by
 have a:((Bj ns).any fun kv=>decide (kv.1=.inr n))=false:=by
  rw [List.any_eq_false]
  intro kv hk
  unfold Bj wN at hk
  x5⟨g,hg,rfl⟩:=List.mem_map.mp hk
  have:g.1∈ns:=by
   have:=List.mem_map_of_mem (f:=Prod.fst) hg
   rwa [List.zipIdx_map_fst] at this  
  intro z
  have z:(Sum.inr g.1:Key)=.inr n:=of_decide_eq_true z
  injection z with z
  qV h (z ▸ this)
 unfold putK
 rw [a,if_neg (by decide)]
 unfold Bj wN
 rw [List.zipIdx_append,bD,Nat.zero_add]; rfl
structure Rw (H:Hp) (xs:List V) (ns:List Str):Prop where
 len:xs.length=ns.length
 at_:∀ (k:Nat) (n:Str),ns[k]?=some n->∃ t v,xs[k]?=some (.ref t)/\H t=some (.tup [.str n,v])
~!DG {α:Type}{l:List α}{k:Nat}{a:α} (nd:l.Nodup) (e:l[k]?=some a):a ∉ l.take k:=by
 x5⟨lk,rfl⟩:=aq.mp e
 rw [<- List.take_append_drop k l,List.nodup_append] at nd
 intro z
 z5 nd.2.2 _ z _ ?_ rfl
 rw [List.drop_eq_getElem_cons lk]
 qV aQ
noncomputable def mK:Sp:=fun vs H Q _=>∃ (p:Addr) (x y:Int),vs=[.ref p]/\Fk K H p x y/\0 <= x/\x<y/\Bd x/\Bd y/\Q .non H
~!Dl (F:Fun K jo jo qH f fd) (T:Txt K mg D) (iJ:OkF P w K mg base 2 jA jk (iB (K:=K))) (kh:OkF P w K mg base 1 oA n_ (nZ (K:=K))):cD P w K mg base CX0 3 f fd ji (mK (K:=K)):=by
 z5 F.ok Gk ?_ ?_
 .rintro _ _ _ _ ⟨p,x,y,rfl,_⟩; rfl
 .rintro cdv A outer s H _ Q E hr ⟨p,x,y,rfl,fk,x0,xy,bx,b_y,q⟩
  z5⟨_,(bQ (cY (PW.pt (pw_or (eF (dw (bU iJ hr.md (by rfl) (bG (pv 0) bI)) (fun _=>rfl))) (pw_or (dw (bU kh hr.md (by rfl) (bG (pv 0) (bG (gY (by rfl) T.qM) bI))) (fun _=>rfl)) (pw_or1 (eF (dw (bU kh hr.md (by rfl) (bG (pv 0) (bG (gY (by rfl) T.El) bI))) (fun _=>rfl)))))))
    (bQ pC)
    cC)),?_⟩
  unfold iB nZ
  walk_at "rd"
  have hy:=fk.pos
  have b0:Bd 0:=Nat.two_pow_pos 8000
  have b1:Bd 1:=Nat.one_lt_two_pow (by decide)
  z5⟨⟨x,y,fk⟩,x,y,fk.at_,0,1,T.pA H,bx,b_y,b0,b1,?_⟩
  rw [if_neg (by simp; om)]
  z5⟨x,y,fk.at_,1,1,T.uW H,bx,b_y,b1,b1,?_⟩
  rw [if_neg (by simp; om)]
  qV q
noncomputable def nW:Sp:=fun vs H Q _=>∃ (l:Addr) (xs:List V) (rs:List Str),vs=[.ref l]/\H l=some (.lst xs)/\Rw H xs rs/\rs.Nodup/\(∀ g∈rs,Wd g)/\rs.length <= 20 /\
 ∀ d H',Same H H'->H d=none->H' d=some (.dK (Bj rs))->Q (.ref d) H'
noncomputable def nJ (l d:Addr) (rs:List Str) (H:Hp) (k:Nat) (σ:L2.St) (H':Hp):Prop:=∃ u v,σ=[some (.ref l),some (.ref d),u,v]/\Same H H'/\H' d=some (.dK (Bj (rs.take k)))
~!GP (F:Fun K j9 j9 rZ f fd) (T:Txt K mg D) (jR:OkF P w K mg base 1 lA lg uP):cD P w K mg base CX0 2 f fd j7 nW:=by
 z5 F.ok nR ?_ ?_
 .rintro _ _ _ _ ⟨l,xs,rs,rfl,_⟩; rfl
 .rintro cdv A outer s H _ Q E hr ⟨l,xs,rs,rfl,hl,ra,nd,wd,n20,q⟩
  z5⟨_,(bN (cA (i:=1) nR.nd rfl (Or.inl rfl) Ec)
   (bN (iD PassesOwn.never rfl (cV ((pv 0)).mono) (cG (i:=2) nR.nd rfl (Or.inl rfl))
    (bN (cA (i:=3) nR.nd rfl (Or.inl rfl) (bZ dX (pv 2) bH (fun _ _=>rfl)))
    (bN (cY (PW.pt (pw_or (eF (dw (bU jR hr.md (by rfl) (bG (pv 3) bI)) (fun _=>rfl))) (pw_or1 (Ql (Yu (wV hr) (pv 3) (pv 1))))))
     (bQ pC)
     cC)
    (bQ (Kq (wV hr) (pv 1) (pv 3) (cB Ie (by rfl) T.lF PySem.boot_len (bG (pv 1) bI)) rfl)))))
   (bQ (cu (pv 1))))),?_⟩
  unfold uP
  walk_at "rd"
  z5 fun d hd=>fj ?_
  walk_at "rd"
  have ld:l≠d:=bL hl hd
  z5⟨xs,(bM ld).trans hl,nJ l d rs H,⟨none,none,rfl,Same.upd hd,bK⟩,?_,?_⟩
  .rintro k x σ' H' hk ⟨u,v,rfl,S1,h1⟩ hl'
   have lk:k<rs.length:=by rw [<- ra.len]; qV(aq.mp hk).1
   have e:rs[k]?=some rs[k]:=aj lk
   have hm:=aX lk
   x5⟨t,dv,a,b⟩:=ra.at_ k _ e
   rw [hk] at a
   cases a
   have hw:=wd _ hm
   have no:rs[k] ∉ rs.take k:=by qV DG nd e
   generalize rs[k]=n at *
   walk_at "rd"
   have l9:=hw.hi
   z5⟨_,S1 _ _ b,_,d8,.inl ⟨n,rfl,aN l9 (by decide),?_⟩⟩
   rw [if_neg (by rw [hw.word]; decide)]
   z5⟨_,uK.k (k:=.inr n) h1,?_⟩
   rw [Sg no,if_neg (by decide)]
   have hlen:(Bj (rs.take k)).length<sizeLine:=by
    have h9:21<sizeLine:=by decide
    rw [DN,bA]
    om
   z5⟨d,_,rfl,h1,_,Rq.k (k:=.inr n) h1 hlen,(bM ld).trans hl',_,_,rfl,fun b' o' e'=>(bM (bL e' hd)).trans (S1 _ _ e'),?_⟩
   rw [bK,DN,Ys no,cH e]
  .rintro σ' H' ⟨u,v,rfl,S1,h1⟩ _
   rw [ra.len,aR] at h1
   walk_at "rd"
   qV q d H' S1 hd h1
structure NWs (ns:List Str) (H:Hp) (zs:List V) (ws:List (Str×Addr)):Prop where
 len:zs.length=ws.length
 at_:∀ (k:Nat) (g:Str×Addr),ws[k]?=some g->∃ t i,zs[k]?=some (.ref t)/\ns[i]?=some g.1/\H t=some (.tup [.int (i:Nat),.ref g.2])
~!NWs.imp {ns:List Str}{H H':Hp}{zs:List V}{ws:List (Str×Addr)} (h':∀ t ys,H t=some (.tup ys)->H' t=some (.tup ys)) (h:NWs ns H zs ws):NWs ns H' zs ws:=⟨h.len,fun k g e=>let ⟨t,i,a,b,c⟩:=h.at_ k g e; ⟨t,i,a,b,h' _ _ c⟩⟩
~!NWs.snoc {ns:List Str}{H:Hp}{zs:List V}{ws:List (Str×Addr)}{t:Addr}{i:Nat}{g:Str×Addr} (h:NWs ns H zs ws) (hi:ns[i]?=some g.1) (ht:H t=some (.tup [.int (i:Nat),.ref g.2])):NWs ns H (zs++[.ref t]) (ws++[g]):=by
 z5⟨by rw [aB,aB,h.len]; rfl,fun k g' e=>?_⟩
 by_cases hk:k<ws.length
 .rw [aF hk] at e
  x5⟨t',i',a,b,c⟩:=h.at_ k g' e
  qV⟨t',i',by rw [aF (by rw [h.len]; qV hk)]; qV a,b,c⟩
 .rw [aD (by om)] at e
  have e0:k - ws.length=0:=by
   have:=(aq.mp e).1
   simp at this; om
  rw [e0] at e
  cases e
  z5⟨t,i,?_,hi,ht⟩
  rw [aD (by rw [h.len]; om),h.len,e0]; rfl
noncomputable def jN (D:Adr):Sp:=fun vs H Q _=>∃ (s n C dx p l:Addr) (nm:Str) (xs:List V) (ws:List (Str×Addr)) (ns:List Str),vs=[.ref s,.ref n]/\fH D C/\H s=some (.ins C dx [("name",.str nm),("pay",.ref p),("leads",.ref l)])/\H l=some (.lst xs)/\Uo H xs ws/\ws.length <= 100/\H n=some (.dK (Bj ns))/\ns.Nodup/\(∀ g∈ws,g.1∈ns) /\
 ∀ r H' zs,Same H H'->H r=none->H' r=some (.lst zs)->NWs ns H' zs ws->Q (.ref r) H'
noncomputable def nwJ (s n r:Addr) (ns:List Str) (ws:List (Str×Addr)) (H:Hp) (k:Nat) (σ:L2.St) (H':Hp):Prop:=∃ u v zs,σ=[some (.ref s),some (.ref n),some (.ref r),u,v]/\Same H H'/\H' r=some (.lst zs)/\NWs ns H' zs (ws.take k)
~!Ao (F:Fun K iw iw oO f fd) (T:Txt K mg D) (tX:OkI P w K mg base CX0 1 D.Door_ways mJ (oY D)):cD P w K mg base CX0 2 f fd ig (jN D):=by
 z5 F.ok jG ?_ ?_
 .rintro _ _ _ _ ⟨d,n,C,dx,p,l,nm,xs,ws,ns,rfl,_⟩; rfl
 .rintro cdv A outer s H _ Q E hr ⟨d,n,C,dx,p,l,nm,xs,ws,ns,rfl,hC,hs,hl,hw,n100,hn,nd,hin,q⟩
  z5⟨_,(bN (cA (i:=2) jG.nd rfl (Or.inl rfl) (kW bI))
   (bN (iD PassesOwn.never rfl (cV ((PE.any fun C (hC:fH D C)=>(qO (pv 0) (T.cl C hC.fam) (T.Jp C hC) tX hr.md))).mono) (gR (n:=2) rfl (cF (cG (i:=3) jG.nd rfl (Or.inl rfl)) (cF (cG (i:=4) jG.nd rfl (Or.inl rfl)) gC)))
    (bN (cY (Ql (Vt (wV hr) (pv 3) (pv 1)))
     (bQ pC)
     cC)
    (bQ (dh (tH (pv 2) (bG (kZ (bG (Jw (wV hr) (pv 1) (pv 3) (fun _ _=>rfl)) (bG (pv 4) bI))) bI))))))
   (bQ (cu (pv 2))))),?_⟩
  unfold oY
  walk_at "rd"
  z5⟨by decide,fun r hrn=>fj ?_⟩
  walk_at "rd"
  have sr:∀ {b o},H b=some o->(upd H r (.lst [])) b=some o:=fun {b o} e=>(bM (bL e hrn)).trans e
  z5⟨C,hC,dx,_,sr hs,rfl,nm,p,l,⟨C,dx,hC.fam,sr hs⟩,xs,sr hl,by rw [hw.len]; qV n100,fun r2 hr2=>⟨nwJ d n r ns ws H,?_,?_,?_⟩⟩
  .have rr:r≠r2:=bL bK hr2
   z5⟨none,none,[],rfl,fun b o e=>(bM (bL (sr e) hr2)).trans (sr e),(bM rr).trans bK,rfl,fun k g e=>by simp at e⟩
  .rintro k x σ' H' hk ⟨u,v,zs,rfl,S1,h1,nw⟩ hx
   have lk:k<ws.length:=by rw [<- hw.len]; qV(aq.mp hk).1
   have e:ws[k]?=some ws[k]:=aj lk
   have hm:=hin _ (aX lk)
   x5⟨t,a,b⟩:=hw.at_ k _ e
   rw [hk] at a
   cases a
   generalize ws[k]=g at *
   x5⟨m,c⟩:=g
   x5⟨i,hi⟩:=aY hm
   walk_at "rd"
   have rr:r≠r2:=bL bK hr2
   have vl:pW (Bj ns) (.inr m)=some (.int ((0+i:Nat):Int)):=Nx nd hi
   have dg:uK H' n (kV (.inr m)) (some (.int ((0+i:Nat):Int))):=vl ▸ uK.k (k:=.inr m) (S1 _ _ hn)
   z5⟨_,S1 _ _ b,rfl,_,_,rfl,_,_,rfl,rfl,_,dg,?_⟩
   rw [if_neg (by simp)]
   z5⟨⟨_,h1⟩,_,dg,dW,fun p hp=>?_⟩
   have rp:r≠p:=bL h1 hp
   have zl:zs.length<sizeLine:=by
    have h9:101<sizeLine:=by decide
    rw [nw.len,bA]
    om
   z5⟨zs,(bM rp).trans h1,zl,(bM rr.symm).trans ((bM (bL hx hp)).trans hx),_,_,_,rfl,fun b' o' e'=>(bM (bL e' hrn)).trans ((bM (bL (S1 _ _ e') hp)).trans (S1 _ _ e')),bK,?_⟩
   rw [cH e]
   z5(nw.imp fun t ys e'=>?_).snoc hi ?_
   .rw [bM (fM e' h1 (by intro z; cases z)),bM (bL e' hp)]; qV e'
   .rw [bM rp.symm,bK,Nat.zero_add]
  .rintro σ' H' ⟨u,v,zs,rfl,S1,h1,nw⟩ hx
   rw [hw.len,aR] at nw
   walk_at "rd"
   qV q r H' zs S1 hrn h1 nw
noncomputable def del (as:List Addr) (H:Hp):Hp:=fun b=>if b∈as then none else H b
~!jc {as:List Addr}{H:Hp}{b:Addr}{o:HO} (h:b ∉ as) (e:H b=some o):del as H b=some o:=by unfold del; rw [if_neg h]; qV e
~!qu {as:List Addr}{H:Hp}{b:Addr}{o:HO} (e:del as H b=some o):b ∉ as/\H b=some o:=by
 unfold del at e
 split at e
 .cases e
 .exact ⟨by assumption,e⟩
~!vH {as:List Addr}{H:Hp} : Same (del as H) H:=fun b o e=>(qu e).2
~!uf {as:List Addr}{H H':Hp} (h:∀ b o,b ∉ as->H b=some o->H' b=some o):Same (del as H) (del as H'):=fun b o e=>let ⟨a,c⟩:=qu e; jc a (h b o a c)
structure Dr where
 nm:Str
 p:Addr
 ws:List (Str×Addr)
noncomputable def WM (D:Adr) (H:Hp) (s:Addr) (g:Dr):Prop:=∃ C dx l xs,fH D C/\H s=some (.ins C dx [("name",.str g.nm),("pay",.ref g.p),("leads",.ref l)])/\H l=some (.lst xs)/\Uo H xs g.ws/\g.ws.length <= 100
~!WM.same {H H':Hp}{s:Addr}{g:Dr} (S:Same H H') (h:WM D H s g):WM D H' s g:=by x5⟨C,dx,l,xs,a,b,c,d,e⟩:=h; qV⟨C,dx,l,xs,a,S _ _ b,S _ _ c,d.same S,e⟩
structure wQ (D:Adr) (H:Hp) (xs:List V) (gs:List Dr):Prop where
 len:xs.length=gs.length
 at_:∀ (k:Nat) (g:Dr),gs[k]?=some g->∃ s,xs[k]?=some (.ref s)/\WM D H s g
~!wQ.same {H H':Hp}{xs:List V}{gs:List Dr} (S:Same H H') (h:wQ D H xs gs):wQ D H' xs gs:=⟨h.len,fun k g e=>let ⟨s,a,b⟩:=h.at_ k g e; ⟨s,a,b.same S⟩⟩
structure pY (ns:List Str) (H:Hp) (zs:List V) (gs:List Dr):Prop where
 len:zs.length=gs.length
 at_:∀ (k:Nat) (g:Dr),gs[k]?=some g->∃ t r ys,zs[k]?=some (.ref t)/\H t=some (.tup [.str g.nm,.ref g.p,.ref r])/\H r=some (.lst ys)/\NWs ns H ys g.ws
~!pY.same {ns:List Str}{H H':Hp}{zs:List V}{gs:List Dr} (S:Same H H') (h:pY ns H zs gs):pY ns H' zs gs:=⟨h.len,fun k g e=>let ⟨t,r,ys,a,b,c,d⟩:=h.at_ k g e; ⟨t,r,ys,a,S _ _ b,S _ _ c,d.imp fun _ _ z=>S _ _ z⟩⟩
~!pY.snoc {ns:List Str}{H:Hp}{zs ys:List V}{gs:List Dr}{t r:Addr}{g:Dr} (h:pY ns H zs gs) (ht:H t=some (.tup [.str g.nm,.ref g.p,.ref r])) (hr:H r=some (.lst ys)) (hn:NWs ns H ys g.ws):pY ns H (zs++[.ref t]) (gs++[g]):=by
 z5⟨by rw [aB,aB,h.len]; rfl,fun k g' e=>?_⟩
 by_cases hk:k<gs.length
 .rw [aF hk] at e
  x5⟨t',r',ys',a,b⟩:=h.at_ k g' e
  qV⟨t',r',ys',by rw [aF (by rw [h.len]; qV hk)]; qV a,b⟩
 .rw [aD (by om)] at e
  have e0:k - gs.length=0:=by
   have:=(aq.mp e).1
   simp at this; om
  rw [e0] at e
  cases e
  z5⟨t,r,ys,?_,ht,hr,hn⟩
  rw [aD (by rw [h.len]; om),h.len,e0]; rfl
noncomputable def Fd (ns:List Str):List (Key×V):=ns.map fun n=>(.inr n,.bl true)
~!ab8 {n:Str}{ns:List Str} (h:n ∉ ns):pW (Fd ns) (.inr n)=none:=by
 unfold pW
 rw [List.find?_eq_none.mpr]
 .rfl
 .intro kv hk z
  unfold Fd at hk
  x5⟨m,hm,rfl⟩:=List.mem_map.mp hk
  have z:(Sum.inr m:Key)=.inr n:=of_decide_eq_true z
  injection z with z
  qV h (z ▸ hm)
~!Yc {n:Str}{ns:List Str} (h:n ∉ ns):putK (Fd ns) (.inr n) (.bl true)=Fd (ns++[n]):=by
 have a:((Fd ns).any fun kv=>decide (kv.1=.inr n))=false:=by
  rw [List.any_eq_false]
  intro kv hk z
  unfold Fd at hk
  x5⟨m,hm,rfl⟩:=List.mem_map.mp hk
  have z:(Sum.inr m:Key)=.inr n:=of_decide_eq_true z
  injection z with z
  qV h (z ▸ hm)
 unfold putK
 rw [a,if_neg (by decide)]
 unfold Fd
 rw [bD]; rfl
noncomputable def TQ (H:Hp) (as:List Addr):Prop:=∀ a∈as,∃ u,H a=some u/\∀ ys,u≠.tup ys
noncomputable def oR (D:Adr):Sp:=fun vs H Q _=>∃ (l n:Addr) (xs:List V) (gs:List Dr) (ns:List Str),vs=[.ref l,.ref n]/\H l=some (.lst xs)/\wQ D H xs gs/\gs.length <= 100/\(gs.map (·.nm)).Nodup/\H n=some (.dK (Bj ns))/\ns.Nodup/\(∀ g∈gs,∀ z∈g.ws,z.1∈ns) /\
 ∀ r H' zs,Same H H'->H r=none->H' r=some (.lst zs)->(∀ as,TQ H as->pY ns (del as H') zs gs)->Q (.ref r) H'
noncomputable def oJ (l n d r:Addr) (ns:List Str) (gs:List Dr) (H:Hp) (k:Nat) (σ:L2.St) (H':Hp):Prop:=∃ u zs,σ=[some (.ref l),some (.ref n),some (.ref d),some (.ref r),u]/\Same H H'/\H' d=some (.dK (Fd ((gs.take k).map (·.nm))))/\H' r=some (.lst zs)/\∀ as,TQ H as->pY ns (del (d::r::as) H') zs (gs.take k)
~!Jr (F:Fun K mH mH vq f fd) (T:Txt K mg D) (oM:OkF P w K mg base 2 iw ig (jN D)):cD P w K mg base CX0 3 f fd lV (oR D):=by
 z5 F.ok oU ?_ ?_
 .rintro _ _ _ _ ⟨l,n,xs,gs,ns,rfl,_⟩; rfl
 .rintro cdv A outer s H _ Q E hr ⟨l,n,xs,gs,ns,rfl,hl,dr,n100,ndg,hn,nd,hin,q⟩
  z5⟨_,(bN (cA (i:=2) oU.nd rfl (Or.inl rfl) Ec)
   (bN (cA (i:=3) oU.nd rfl (Or.inl rfl) (kW bI))
   (bN (iD PassesOwn.never rfl (cV ((pv 0)).mono) (cG (i:=4) oU.nd rfl (Or.inl rfl))
    (bN (cY (Ql (Yu (wV hr) (ug (pv 4) rfl) (pv 2)))
     (bQ pC)
     cC)
    (bN (Kq (wV hr) (pv 2) (ug (pv 4) rfl) gB rfl)
    (bQ (dh (tH (pv 3) (bG (kZ (bG (ug (pv 4) rfl) (bG (ug (pv 4) rfl) (bG (bU oM hr.md (by rfl) (bG (pv 4) (bG (pv 1) bI))) bI)))) bI)))))))
   (bQ (cu (pv 3)))))),?_⟩
  unfold jN
  walk_at "rd"
  z5 fun d hd=>⟨by decide,fun r hrn=>fj ?_⟩
  walk_at "rd"
  have dr0:d≠r:=bL bK hrn
  have hrn':H r=none:=(bM dr0.symm).symm.trans hrn
  have st:Same H (upd (upd H d (.dK [])) r (.lst [])):=fun b o e=>(bM (bL e hrn')).trans ((bM (bL e hd)).trans e)
  z5⟨xs,st _ _ hl,oJ l n d r ns gs H,⟨none,[],rfl,st,(bM dr0).trans bK,bK,fun as _=>⟨rfl,fun k g e=>by simp at e⟩⟩,?_,?_⟩
  .rintro k x σ' H' hk ⟨u,zs,rfl,S1,h1,h2,of_⟩ hx
   have lk:k<gs.length:=by rw [<- dr.len]; qV(aq.mp hk).1
   have e:gs[k]?=some gs[k]:=aj lk
   have hm:=hin _ (aX lk)
   x5⟨t,a,b⟩:=dr.at_ k _ e
   rw [hk] at a
   cases a
   have no:gs[k].nm ∉ (gs.take k).map (·.nm):=by
    rw [List.map_take]
    qV DG ndg (by rw [au,e]; rfl)
   generalize gs[k]=g at *
   x5⟨C,dx,ll,ys,hC,hs,hll,hw,w100⟩:=b.same S1
   walk_at "rd"
   z5⟨C,dx,_,hs,T.cl C hC.fam,T.Cv C hC.fam,_,rfl,_,uK.k (k:=.inr g.nm) h1,?_⟩
   rw [ab8 no,if_neg (by decide)]
   have hlen:(Fd ((gs.take k).map (·.nm))).length<sizeLine:=by
    have h9:101<sizeLine:=by decide
    unfold Fd
    rw [ao,ao,bA]
    om
   have up:∀ {b o},b≠d->H' b=some o->upd H' d (.dK (putK (Fd ((gs.take k).map (·.nm))) (.inr g.nm) (.bl true))) b=some o:=fun {b o} h e=>(bM h).trans e
   have td:t≠d:=fM hs h1 (by intro z; cases z)
   have ld:ll≠d:=fM hll h1 (by intro z; cases z)
   have nd_:n≠d:=bL hn hd
   z5⟨C,dx,_,hs,T.cl C hC.fam,T.Cv C hC.fam,_,rfl,_,Rq.k (k:=.inr g.nm) h1 hlen,⟨zs,up dr0.symm h2⟩,C,dx,_,up td hs,T.cl C hC.fam,T.Cv C hC.fam,_,rfl,C,dx,_,up td hs,T.cl C hC.fam,T.ZC C hC.fam,_,rfl,C,hC,dx,g.p,ll,⟨g.nm,up td hs⟩,ys,up ld hll,g.ws,⟨hw.len,fun k g e=>let ⟨t,a,b⟩:=hw.at_ k g e; ⟨t,a,up (fM b h1 (by intro z; cases z)) b⟩⟩,w100,ns,up nd_ (S1 _ _ hn),nd,hm,?_⟩
   intro r3 H3 z3 S3 f3 e3 w3
   z5⟨by decide,fun p hp=>?_⟩
   have lr:l≠r:=bL hl hrn'
   have ld0:l≠d:=bL hl hd
   have a1:=S3 _ _ (up dr0.symm h2)
   have a2:=S3 d _ bK
   have rp:r≠p:=bL a1 hp
   have dp:d≠p:=bL a2 hp
   have a3:=S3 _ _ (up ld0 hx)
   have zl:zs.length<sizeLine:=by
    have h9:101<sizeLine:=by decide
    rw [(of_ [] (by intro a ha; cases ha)).len,bA]
    om
   have r3p:r3≠p:=bL e3 hp
   z5⟨zs,(bM rp).trans a1,zl,(bM lr).trans ((bM (bL a3 hp)).trans a3),_,_,rfl,fun b o e'=>?_,?_,bK,?_⟩
   .have c:=S3 _ _ (up (bL e' hd) (S1 _ _ e'))
    rw [bM (bL e' hrn'),bM (bL c hp)]
    qV c
   .rw [bM dr0,bM dp,a2,Yc no,cH e,bD]; rfl
   .intro as has
    have r3n:r3 ∉ d::r::as:=by
     simp only [List.mem_cons,not_or]
     z5⟨fun z=>(by rw [z,bK] at f3; cases f3),fun z=>(by rw [z,up dr0.symm h2] at f3; cases f3),fun z=>?_⟩
     x5⟨u,hu,_⟩:=has _ z
     rw [up (bL hu hd) (S1 _ _ hu)] at f3
     cases f3
    have asp:∀ a∈as,∃ u,H3 a=some u/\∀ ys,u≠.tup ys:=fun a ha=>let ⟨u,hu,n⟩:=has a ha; ⟨u,S3 _ _ (up (bL hu hd) (S1 _ _ hu)),n⟩
    have pn:p ∉ d::r::as:=by
     simp only [List.mem_cons,not_or]
     qV⟨dp.symm,rp.symm,fun z=>let ⟨u,hu,_⟩:=asp _ z; bL hu hp rfl⟩
    have u2:∀ {b o},b ∉ d::r::as->(upd H3 p (.tup [.str g.nm,.ref g.p,.ref r3])) b=some o->del (d::r::as) (upd (upd H3 p (.tup [.str g.nm,.ref g.p,.ref r3])) r (.lst (zs++[.ref p]))) b=some o:=fun {b o} h e=>jc h ((bM (by simp only [List.mem_cons,not_or] at h; qV h.2.1)).trans e)
    rw [cH e]
    z5((of_ as has).same fun b o e'=>?_).snoc (u2 pn bK) (u2 r3n ((bM r3p).trans e3)) (w3.imp fun t ys e'=>?_)
    .obtain ⟨b1,b2⟩:=qu e'
     have c:=S3 _ _ (up (by simp only [List.mem_cons,not_or] at b1; qV b1.1) b2)
     qV u2 b1 ((bM (bL c hp)).trans c)
    .refine u2 ?_ ((bM (bL e' hp)).trans e')
     simp only [List.mem_cons,not_or]
     qV⟨fM e' a2 (by intro z; cases z),fM e' a1 (by intro z; cases z),fun z=>let ⟨u,hu,n⟩:=asp _ z; n _ (Option.some.inj (hu.symm.trans e'))⟩
  .rintro σ' H' ⟨u,zs,rfl,S1,h1,h2,of_⟩ hx
   rw [dr.len,aR] at of_
   walk_at "rd"
   qV q r H' zs S1 hrn' h2 fun as has=>(of_ as has).same fun b o e=>let ⟨a,c⟩:=qu e; jc (fun z=>a (aJ _ (aJ _ z))) c
structure nj (D:Adr) (H:Hp) (xs:List V) (rms:List (Str×List Dr)):Prop where
 len:xs.length=rms.length
 at_:∀ (k:Nat) (g:Str×List Dr),rms[k]?=some g->∃ t l ys,xs[k]?=some (.ref t)/\H t=some (.tup [.str g.1,.ref l])/\H l=some (.lst ys)/\wQ D H ys g.2
~!nj.rooms {H:Hp}{xs:List V}{rms:List (Str×List Dr)} (h:nj D H xs rms):Rw H xs (rms.map (·.1)):=⟨by rw [h.len,ao],fun k n e=>by
 rw [au] at e
 cases e0:rms[k]? with
 | none=>rw [e0] at e; cases e
 | some g =>
  rw [e0] at e
  cases e
  x5⟨t,l,ys,a,b,_⟩:=h.at_ k g e0
  qV⟨t,_,a,b⟩⟩
~!nj.same {H H':Hp}{xs:List V}{rms:List (Str×List Dr)} (S:Same H H') (h:nj D H xs rms):nj D H' xs rms:=⟨h.len,fun k g e=>let ⟨t,l,ys,a,b,c,d⟩:=h.at_ k g e; ⟨t,l,ys,a,S _ _ b,S _ _ c,d.same S⟩⟩
structure vP (ns:List Str) (H:Hp) (zs:List V) (gss:List (List Dr)):Prop where
 len:zs.length=gss.length
 at_:∀ (k:Nat) (gs:List Dr),gss[k]?=some gs->∃ l ys,zs[k]?=some (.ref l)/\H l=some (.lst ys)/\pY ns H ys gs
~!vP.same {ns:List Str}{H H':Hp}{zs:List V}{gss:List (List Dr)} (S:Same H H') (h:vP ns H zs gss):vP ns H' zs gss:=⟨h.len,fun k g e=>let ⟨l,ys,a,b,c⟩:=h.at_ k g e; ⟨l,ys,a,S _ _ b,c.same S⟩⟩
~!vP.snoc {ns:List Str}{H:Hp}{zs ys:List V}{gss:List (List Dr)}{l:Addr}{gs:List Dr} (h:vP ns H zs gss) (hl:H l=some (.lst ys)) (ho:pY ns H ys gs):vP ns H (zs++[.ref l]) (gss++[gs]):=by
 z5⟨by rw [aB,aB,h.len]; rfl,fun k g' e=>?_⟩
 by_cases hk:k<gss.length
 .rw [aF hk] at e
  x5⟨l',ys',a,b⟩:=h.at_ k g' e
  qV⟨l',ys',by rw [aF (by rw [h.len]; qV hk)]; qV a,b⟩
 .rw [aD (by om)] at e
  have e0:k - gss.length=0:=by
   have:=(aq.mp e).1
   simp at this; om
  rw [e0] at e
  cases e
  z5⟨l,ys,?_,hl,ho⟩
  rw [aD (by rw [h.len]; om),h.len,e0]; rfl
~!Bo {H:Hp}{o b C0 dx0:Addr}{u:HO} (ho:H o=some (.ins C0 dx0 [])) (e:H b=some u) (n:u≠.ins C0 dx0 []):del [o] H b=some u:=jc (by simp only [List.mem_singleton]; qV fM e ho n) e
~!nj.off {H:Hp}{o C0 dx0:Addr}{xs:List V}{rms:List (Str×List Dr)} (ho:H o=some (.ins C0 dx0 [])) (h:nj D H xs rms):nj D (del [o] H) xs rms:=⟨h.len,fun k g e=>by
 x5⟨t,l,ys,a,b,c,d⟩:=h.at_ k g e
 z5⟨t,l,ys,a,Bo ho b (by intro z; cases z),Bo ho c (by intro z; cases z),d.len,fun k g e=>?_⟩
 x5⟨s,a,C,dx,l,xs,h1,h2,h3,h4,h5⟩:=d.at_ k g e
 qV⟨s,a,C,dx,l,xs,h1,Bo ho h2 (by intro z; injection z with _ _ z; cases z),Bo ho h3 (by intro z; cases z),⟨h4.len,fun k g e=>let ⟨t,a,b⟩:=h4.at_ k g e; ⟨t,a,Bo ho b (by intro z; cases z)⟩⟩,h5⟩⟩
structure Tw (rms:List (Str×List Dr)):Prop where
 len:rms.length <= 20
 nd:(rms.map (·.1)).Nodup
 wd:∀ g∈rms,Wd g.1
 few:∀ g∈rms,g.2.length <= 100
 dn:∀ g∈rms,(g.2.map (·.nm)).Nodup
 to_:∀ g∈rms,∀ d∈g.2,∀ z∈d.ws,z.1∈rms.map (·.1)
noncomputable def kE (D:Adr) (H:Hp) (a p:Addr) (rms:List (Str×List Dr)):Prop:=∃ dx n l zs,H a=some (.ins D.Hall dx [("share",.ref p),("numbers",.ref n),("offered",.ref l)])/\H n=some (.dK (Bj (rms.map (·.1))))/\H l=some (.lst zs)/\vP (rms.map (·.1)) H zs (rms.map (·.2))
~!kE.same {H H':Hp}{a p:Addr}{rms:List (Str×List Dr)} (S:Same H H') (h:kE D H a p rms):kE D H' a p rms:=by x5⟨dx,n,l,zs,b,c,d,e⟩:=h; qV⟨dx,n,l,zs,S _ _ b,S _ _ c,S _ _ d,e.same S⟩
noncomputable def rN (K:Frag) (D:Adr):Sp:=fun vs H Q _=>∃ (o dx p l:Addr) (x y:Int) (xs:List V) (rms:List (Str×List Dr)),vs=[.ref o,.ref p,.ref l]/\H o=some (.ins D.Hall dx [])/\Fk K H p x y/\0 <= x/\x<y/\Bd x/\Bd y/\H l=some (.lst xs)/\nj D H xs rms/\Tw rms /\
 ∀ H',Keep o H H'->kE D H' o p rms->Q .non H'
noncomputable def hJ (o D1:Addr) (rms:List (Str×List Dr)) (H:Hp) (k:Nat) (zs:List V) (H':Hp):Prop:=Same H H'/\H' D1=some (.lst zs)/\vP (rms.map (·.1)) (del [o,D1] H') zs ((rms.take k).map (·.2))
~!Jo (F:Fun K zT yd p7 f fd) (T:Txt K mg D) (qI:OkF P w K mg base 3 jo ji (mK (K:=K))) (rY:OkF P w K mg base 2 j9 j7 nW) (vK:OkF P w K mg base 3 mH lV (oR D)):cD P w K mg base CX0 4 f fd lX (rN K D):=by
 z5 F.ok Mg ?_ ?_
 .rintro _ _ _ _ ⟨o,dx,p,l,x,y,xs,rms,rfl,_⟩; rfl
 .rintro cdv A outer s H _ Q E hr ⟨o,dx,p,l,x,y,xs,rms,rfl,ho,fk,x0,xy,bx,b_y,hl,hR,ok,q⟩
  z5⟨_,(bN (dh (bU qI hr.md (by rfl) (bG (pv 1) bI)))
   (bN (vQ (pv 0) (pv 1) rfl)
   (bN (vQ (pv 0) (bU rY hr.md (by rfl) (bG (pv 2) bI)) rfl)
   (bQ (vQ (pv 0) (jy (bO p7) tK tK ["room"] (cV ((pv 2)).mono) (eV (i:=0)) c7 (bU vK hr.md (by rfl) (bG (bZ dX (pv 0) bH (fun _ _=>rfl)) (bG (aaf (K':=K) rfl (pv 1) rfl) bI)))) rfl))))),?_⟩
  unfold mK nW oR
  walk_at "rd"
  have hR0:=hR.off ho
  have hl0:del [o] H l=some (.lst xs):=Bo ho hl (by intro z; cases z)
  have S1:∀ u,Same (del [o] H) (upd H o u):=fun u b v e=>by
   x5⟨b1,b2⟩:=qu e
   qV(bM (by simpa using b1)).trans b2
  have cl:=T.yM
  z5⟨x,y,fk,x0,xy,bx,b_y,D.Hall,dx,[],ho,cl,T.Gz,(by show 0<1000; decide),xs,S1 _ _ _ hl0,_,(hR0.same (S1 _)).rooms,ok.nd,fun g hg=>?_,by rw [ao]; qV ok.len,fun d H2 S2 f2 e2=>?_⟩
  .obtain ⟨g',hg',rfl⟩:=List.mem_map.mp hg
   qV ok.wd g' hg'
  have od:d≠o:=fun z=>by rw [z,bK] at f2; cases f2
  z5⟨D.Hall,dx,_,S2 _ _ bK,cl,T.oH,(by show 1<1000; decide),dR ?_⟩
  have S3:∀ u,Same (del [o] H) (upd H2 o u):=fun u b v e=>(bM (by have:=(qu e).1; simpa using this)).trans (S2 _ _ (S1 _ _ _ e))
  walk_at "rd"
  have hz9:21<sizeLine:=by decide
  have n20:=ok.len
  z5⟨xs,S3 _ _ _ hl0,by rw [hR.len]; om,fun D1 hD1=>?_⟩
  have eo:upd H2 o (.ins D.Hall dx (mV "numbers" (.ref d) (mV "share" (.ref p) []))) o=some (.ins D.Hall dx [("share",.ref p),("numbers",.ref d)]):=bK
  have ed:upd H2 o (.ins D.Hall dx (mV "numbers" (.ref d) (mV "share" (.ref p) []))) d=some (.dK (Bj (rms.map (·.1)))):=(bM od).trans e2
  have S4:=S3 (.ins D.Hall dx (mV "numbers" (.ref d) (mV "share" (.ref p) [])))
  generalize upd H2 o (.ins D.Hall dx (mV "numbers" (.ref d) (mV "share" (.ref p) [])))=H3 at eo ed S4 hD1 ⊢
  have oD:o≠D1:=bL eo hD1
  z5⟨hJ o D1 rms H3,⟨Same.upd hD1,bK,rfl,fun k g e=>by simp at e⟩,?_,?_⟩
  .rintro k x1 ys Hc hk ⟨S5,h5,of_⟩ hy hlc
   have lk:k<rms.length:=by rw [<- hR.len]; qV(aq.mp hk).1
   have e:rms[k]?=some rms[k]:=aj lk
   have hm:=aX lk
   x5⟨t,ll,ds,a,b,c,dd⟩:=(hR0.same (S4.trans S5)).at_ k _ e
   rw [hk] at a
   cases a
   generalize rms[k]=g at *
   z5⟨t,rfl,_,b,_,dD,D.Hall,dx,_,S5 _ _ eo,cl,T.oH,_,rfl,ll,rfl,d,rfl,ds,c,g.2,dd,ok.few g hm,ok.dn g hm,_,S5 _ _ ed,ok.nd,ok.to_ g hm,?_⟩
   intro r H4 zs S6 f6 e6 o6
   have h4:=S6 _ _ h5
   have ho4:=S6 _ _ (S5 _ _ eo)
   z5⟨h4,S6 _ _ hlc,fun b v e'=>?_,bK,?_⟩
   .exact (bM (bL e' hD1)).trans (S6 _ _ (S5 _ _ e'))
   .have ee:del [o,D1] (upd H4 D1 (.lst (ys++[.ref r])))=del [o,D1] H4:=by
     funext b
     unfold del
     split
     .rfl
     .rename_i hb
      qV bM (by simp at hb; qV hb.2)
    rw [ee,cH e,bD]
    z5(of_.same (uf fun b v _ e'=>S6 _ _ e')).snoc (jc ?_ e6) (o6 [o,D1] ?_)
    .simp only [List.mem_cons,List.not_mem_nil,or_false,not_or]
     qV⟨fun z=>(by rw [z,S5 _ _ eo] at f6; cases f6),fun z=>(by rw [z,h5] at f6; cases f6)⟩
    .intro a ha
     simp only [List.mem_cons,List.not_mem_nil,or_false] at ha
     rcases ha with rfl | rfl
     .exact ⟨_,S5 _ _ eo,by intro ys z; cases z⟩
     .exact ⟨_,h5,by intro ys z; cases z⟩
  .rintro ys Hc ⟨S5,h5,of_⟩ hy
   rw [hR.len,aR] at of_
   z5⟨D.Hall,dx,_,S5 _ _ eo,cl,T.sY,(by show 2<1000; decide),q _ (fun b v nb e=>?_) ⟨dx,d,D1,ys,bK,(bM (fun z=>od (by rw [z]))).trans (S5 _ _ ed),(bM oD.symm).trans h5,of_.same fun b v e=>?_⟩⟩
   .exact (bM nb).trans (S5 _ _ (S4 _ _ (jc (by simpa using nb) e)))
   .obtain ⟨b1,b2⟩:=qu e
    qV(bM (by simp at b1; qV b1.1)).trans b2
noncomputable def dZ (D:Adr):Sp:=fun vs H Q _=>∃ (o p:Addr) (rms:List (Str×List Dr)),vs=[.ref o]/\kE D H o p rms/\Q (.int rms.length) H
~!zA (F:Fun K z_ zq vG f fd) (T:Txt K mg D):cD P w K mg base CX0 1 f fd fK (dZ D):=by
 z5 F.ok Ks ?_ ?_
 .rintro _ _ _ _ ⟨o,p,rms,rfl,_⟩; rfl
 .rintro cdv A outer s H _ Q E hr ⟨o,p,rms,rfl,⟨dx,n,l,zs,ho,hn,hl,of_⟩,q⟩
  z5⟨_,(bQ (cu (cB Ie (by rfl) T.lF PySem.boot_len (bG (ug (pv 0) rfl) bI)))),?_⟩
  walk_at "rd"
  z5⟨D.Hall,dx,_,ho,T.yM,T.oH,_,rfl,n,_,rfl,hn,?_⟩
  rw [DN,ao]
  qV q
noncomputable def gJ (D:Adr):Sp:=fun vs H Q _=>∃ (o p:Addr) (k:Nat) (rms:List (Str×List Dr)),vs=[.ref o,.int k]/\kE D H o p rms/\k<rms.length/\Q .non H
~!pK (F:Fun K lu kY i_ f fd) (T:Txt K mg D) (cW:OkF P w K mg base 1 fL fQ gZ) (dG:OkI P w K mg base CX0 1 D.Hall_size fK (dZ D)): cD P w K mg base CX0 2 f fd cT (gJ D):=by
 z5 F.ok pG ?_ ?_
 .rintro _ _ _ _ ⟨o,p,k,rms,rfl,_⟩; rfl
 .rintro cdv A outer s H _ Q E hr ⟨o,p,k,rms,rfl,hh,lk,q⟩
  z5⟨_,(bQ (cY (PW.pt (pw_or (eF (dw (bU cW hr.md (by rfl) (bG (pv 1) bI)) (fun _=>rfl))) (pw_or1 (eF (yL BW yE bH (pv 1) (PE.any fun C (hC:dO D C)=>(qO (pv 0) (T.cl C hC.fam) (T.oV C hC) dG hr.md)))))))
    (bQ pC)
    cC)),?_⟩
  unfold gZ dZ
  walk_at "rd"
  x5⟨dx,n,l,zs,ho,hn,hl,of_⟩:=hh
  rw [if_pos (by simp)]
  z5⟨D.Hall,(by unfold dO; simp),dx,_,ho,rfl,p,rms,⟨dx,n,l,zs,ho,hn,hl,of_⟩,?_⟩
  rw [if_neg (by simp; om)]
  qV q
noncomputable def fJ (D1:Addr) (ns:List Str) (gs:List Dr) (H:Hp) (k:Nat) (zs:List V) (H':Hp):Prop:=Same H H'/\H' D1=some (.lst zs)/\∀ as,TQ H as->pY ns (del (D1::as) H') zs (gs.take k)
noncomputable def pF (D:Adr):Sp:=fun vs H Q _=>∃ (o p:Addr) (k:Nat) (rms:List (Str×List Dr)) (g:Str×List Dr),vs=[.ref o,.int k]/\kE D H o p rms/\rms[k]?=some g/\g.2.length <= 100/\(∀ d∈g.2,d.ws.length <= 100) /\
 ∀ r H' zs,Same H H'->H r=none->H' r=some (.lst zs)->(∀ as,TQ H as->pY (rms.map (·.1)) (del as H') zs g.2)->Q (.ref r) H'
~!Dh (F:Fun K uD vd nU f fd) (T:Txt K mg D) (dY:OkI P w K mg base CX0 2 D.Hall_check_room cT (gJ D)): cD P w K mg base CX0 3 f fd jF (pF D):=by
 z5 F.ok FQ ?_ ?_
 .rintro _ _ _ _ ⟨o,p,k,rms,g,rfl,_⟩; rfl
 .rintro cdv A outer s H _ Q E hr ⟨o,p,k,rms,g,rfl,hh,hg,g100,w100,q⟩
  z5⟨_,(bN (dh (PE.any fun C (hC:cQ D C)=>(Fv (pv 0) (T.cl C hC.fam) (T.k_ C hC) dY hr.md (bG (pv 1) bI))))
   (bQ (cu (jy (bO nU) qy qy ["name", "pay", "numbered"] (cV ((bZ bY (ug (pv 0) rfl) (pv 1) (fun _ _=>rfl))).mono) (gR (n:=3) rfl (cF (eV (i:=0)) (cF (eV (i:=1)) (cF (eV (i:=2)) gC)))) c7 (kZ (bG (pv 0) (bG (pv 1) (bG (lN xV (by rfl) T.Fp boot_list (bG (pv 2) bI)) bI)))))))),?_⟩
  unfold gJ
  walk_at "rd"
  x5⟨dx,n,l,zs,ho,hn,hl,of_⟩:=hh
  have lk:=(aq.mp hg).1
  z5⟨D.Hall,(by unfold cQ; simp),dx,_,ho,rfl,p,k,rfl,rms,⟨dx,n,l,zs,ho,hn,hl,of_⟩,lk,qb ?_⟩
  x5⟨ll,ys,a,b,c⟩:=of_.at_ k g.2 (by rw [au,hg]; rfl)
  have z9:101<sizeLine:=by decide
  walk_at "rd"
  z5⟨D.Hall,dx,_,ho,T.yM,T.sY,_,rfl,l,rfl,zs,hl,_,b_ a,ll,rfl,ys,b,by rw [c.len]; om,fun D1 hD=>?_⟩
  z5⟨fJ D1 (rms.map (·.1)) g.2 H,⟨Same.upd hD,bK,fun as _=>⟨rfl,fun k g e=>by simp at e⟩⟩,?_,?_⟩
  .rintro i x1 zs1 Hc hi ⟨S5,h5,o5⟩ hy hlc pre hpre
   have li:i<g.2.length:=by rw [<- c.len]; qV(aq.mp hi).1
   have e:g.2[i]?=some g.2[i]:=aj li
   have hm:=w100 _ (aX li)
   x5⟨t,r,ws,ea,eb,ec,ed⟩:=(c.same S5).at_ i _ e
   rw [hi] at ea
   cases ea
   generalize g.2[i]=d at *
   obtain ⟨u1,u2,u3,rfl⟩ : ∃ a b c,pre=[a,b,c]:=by
    match pre,hpre with
    | [a,b,c],_=>qV⟨a,b,c,rfl⟩
   walk_at "rd"
   z5⟨_,eb,rfl,_,_,rfl,_,_,rfl,_,_,rfl,rfl,[_,_,_],rfl,rfl,?_⟩
   z5⟨r,rfl,ws,ec,fun l1 hl1=>⟨by decide,fun p1 hp1=>?_⟩⟩
   have lp:l1≠p1:=bL bK hp1
   have hp1':Hc p1=none:=(bM lp.symm).symm.trans hp1
   have S6:Same Hc (upd (upd Hc l1 (.lst ws)) p1 (.tup [.str d.nm,.ref d.p,.ref l1])):=(Same.upd hl1).trans (Same.upd hp1)
   have e6:upd (upd Hc l1 (.lst ws)) p1 (.tup [.str d.nm,.ref d.p,.ref l1]) l1=some (.lst ws):=(bM lp).trans bK
   have e7:upd (upd Hc l1 (.lst ws)) p1 (.tup [.str d.nm,.ref d.p,.ref l1]) p1=some (.tup [.str d.nm,.ref d.p,.ref l1]):=bK
   generalize upd (upd Hc l1 (.lst ws)) p1 (.tup [.str d.nm,.ref d.p,.ref l1])=H7 at S6 e6 e7 ⊢
   z5⟨S6 _ _ h5,S6 _ _ hlc,fun b v e'=>(bM (bL e' hD)).trans (S6 _ _ (S5 _ _ e')),bK,fun as has=>?_⟩
   have nin:∀ {b},Hc b=none->b ∉ D1::as:=fun {b} hb=>by
    simp only [List.mem_cons,not_or]
    qV⟨fun z=>(by rw [z,h5] at hb; cases hb),fun z=>let ⟨u,hu,_⟩:=has _ z; bL (S5 _ _ hu) hb rfl⟩
   have u2:∀ {b o},b ∉ D1::as->H7 b=some o->del (D1::as) (upd H7 D1 (.lst (zs1++[.ref p1]))) b=some o:=fun {b o} h e=>jc h ((bM (by simp only [List.mem_cons,not_or] at h; qV h.1)).trans e)
   rw [cH e]
   z5((o5 as has).same fun b v e'=>?_).snoc (u2 (nin hp1') e7) (u2 (nin hl1) e6) (ed.imp fun t us e'=>u2 ?_ (S6 _ _ e'))
   .obtain ⟨b1,b2⟩:=qu e'
    qV u2 b1 (S6 _ _ b2)
   .simp only [List.mem_cons,not_or]
    qV⟨fM e' h5 (by intro z; cases z),fun z=>let ⟨u,hu,n⟩:=has _ z; n _ (Option.some.inj ((S5 _ _ hu).symm.trans e'))⟩
  .rintro zs1 Hc ⟨S5,h5,o5⟩ _
   rw [c.len,aR] at o5
   qV q D1 Hc zs1 S5 hD h5 fun as has=>(o5 as has).same fun b o e=>let ⟨a,c⟩:=qu e; jc (fun z=>a (aJ _ z)) c
noncomputable def tV (C:Addr):Sp:=fun vs H Q _=>∃ a v,vs=[.ref a,v]/\H a=some (XN a C none)/\∀ d,H d=none->d≠a->Q .non (upd (upd H a (XN a C (some d))) d (.xd [("room",v)]))
~!Ef (F:Fun K vf uz qG f fd) (T:Txt K mg D):cD P w K mg base CX0 1 f fd jD (tV D.NoRoom):=by
 z5 F.okB Gi ?_ ?_
 .rintro _ _ _ _ ⟨a,v,rfl,_⟩; rfl
 .rintro cdv A outer s H _ Q E hr ⟨a,v,rfl,ha,q⟩
  z5⟨_,(cJ (PSB.mk (dh (Zb T.ib_HallError T.xi_NoRoom (by rfl) T.O_ (bG (pv 0) (bG iZ bI)))))
   (z6 (PSB.mk (aaI (pv 0) (pv 1) rfl)))),?_⟩
  qV⟨_,rfl,a,[_],rfl,ha,by decide,_,rfl,_,rfl,a,D.NoRoom,rfl,ha,T.xs_NoRoom,T.uJ,q⟩
~!Wh {H H':Hp} (S:Same H H') {v:V}{t:String} (h:tyS H v=some t):tyS H' v=some t:=by
 cases v with
 | ref a =>
  have h:(match H a with
   | some (.lst _)=>some "list"
   | some (.tup _)=>some "tuple"
   | some (.dK _)=>some "dict"
   | _=>none)=some t:=h
  show (match H' a with
   | some (.lst _)=>some "list"
   | some (.tup _)=>some "tuple"
   | some (.dK _)=>some "dict"
   | _=>none)=some t
  split at h
  .rename_i e; rw [S a _ e]; qV h
  .rename_i e; rw [S a _ e]; qV h
  .rename_i e; rw [S a _ e]; qV h
  .cases h
 | _=>qV h
noncomputable def tY (n:Nat):V->Prop | .int k=>0 <= k/\k<n | _=>False
noncomputable def Odd (H:Hp) (v:V):Prop:=∃ t,tyS H v=some t
~!Odd.same {H H':Hp}{v:V} (h:Odd H v) (S:Same H H'):Odd H' v:=h.imp fun _ z=>Wh S z
~!Y9 {H:Hp}{v:V}{t:String} (h:tyS H v=some t) (n:∀ k,v≠.int k):(t == "int")=false:=by
 cases v with
 | int k=>qV absurd rfl (n k)
 | ref a =>
  unfold tyS at h
  dsimp only at h
  split at h <;> cases h <;> rfl
 | _=>cases h <;> rfl
~!aae {H:Hp}{a d:Addr}{o o' x:HO} (n:H a=none) (e:d≠a):out (upd (upd (upd H a o) a o') d x) a=upd H d x:=by
 funext b
 by_cases z:b=a
 .subst z; rw [O1,bM (Ne.symm e),n]
 .rw [tW z]
  by_cases y:b=d
  .subst y; rw [bK,bK]
  .rw [bM y,bM z,bM z,bM y]
~!QC {C:Addr}{E:XK}{v:V}{t:TA}{R:Ends}{σ:L2.St}{H:Hp} (ht:∀ Q:List V->Hp->Prop,Q [v] H->t σ H Q) (e:∀ d,H d=none->E (.ref C) (some d) (upd H d (.xd [("room",v)]))):Jl C (tV C) (fun C d _ H'=>E C d H') t R σ H :=
 ht _ ⟨(show 1 <= sizeLine by decide),fun a ha=>⟨a,v,rfl,bK,fun d hd da=>⟨rfl,some d,(bM (Ne.symm da)).trans bK,(by rw [aae ha da]; qV e d (by rw [bM da] at hd; qV hd))⟩⟩⟩
noncomputable def Ay (D:Adr):Sp:=fun vs H Q E=>∃ (o p:Addr) (v:V) (rms:List (Str×List Dr)),vs=[.ref o,v]/\kE D H o p rms/\Odd H v/\(tY rms.length v->Q .non H)/\(¬ tY rms.length v->∀ d,H d=none->E (.ref D.NoRoom) (some d) (upd H d (.xd [("room",v)])))
~!Dv (F:Fun K lu kY i_ f fd) (T:Txt K mg D) (cW:OkF P w K mg base 1 fL fQ gZ) (dG:OkI P w K mg base CX0 1 D.Hall_size fK (dZ D)) (qt:OkI P w K mg base CX0 1 D.NoRoom_init jD (tV D.NoRoom)):cD P w K mg base (CXO P w) 3 f fd cT (Ay D):=by
 z5 F.okX pG ?_ ?_
 .rintro _ _ _ _ ⟨o,p,v,rms,rfl,_⟩; rfl
 .rintro cdv A outer s H _ Q E hr ⟨o,p,v,rms,rfl,hh,ov,q,e⟩
  z5⟨_,(bQ (cY (PW.pt (pw_or (eF (dw (bU cW hr.md (by rfl) (bG (pv 1) bI)) (fun _=>rfl))) (pw_or1 (eF (yL BW yE bH (pv 1) (PE.any fun C (hC:dO D C)=>(qO (pv 0) (T.cl C hC.fam) (T.oV C hC) dG hr.md)))))))
    (bQ (Vv rfl (by rfl) T.Mt T.xi_NoRoom qt hr.md Vn (bG (pv 1) bI)))
    cC)),?_⟩
  unfold gZ dZ
  walk_at "rd"
  have no:¬ tY rms.length v->Jl D.NoRoom (tV D.NoRoom) (fun C d x H'=>E C d H') (sV (Ei 1) Cu) { nx:=fun x H'=>Q V.non H',rt:=Q } [some (V.ref o),some v] H:=fun z=>QC (fun Q r=>⟨_,rfl,r⟩) (e z)
  by_cases iv:∃ k,v=.int k
  .obtain ⟨k,rfl⟩:=iv
   z5⟨_,rfl,?_⟩
   rw [if_neg (by decide)]
   z5⟨k,rfl,?_⟩
   by_cases k0:0 <= k
   .rw [if_pos (decide_eq_true k0)]
    have hI:=hh
    x5⟨dx,n,l,zs,ho,hn,hl,of_⟩:=hI
    z5⟨D.Hall,(by unfold dO; simp),dx,_,ho,rfl,p,rms,hh,k,rfl,?_⟩
    by_cases k1:k<rms.length
    .rw [if_neg (by simp [k1])]
     qV q ⟨k0,k1⟩
    .rw [if_pos (by simp [k1])]
     qV no fun z=>k1 z.2
   .rw [if_neg (by simp [k0])]
    qV no fun z=>k0 z.1
  .obtain ⟨t,et⟩:=ov
   z5⟨t,et,?_⟩
   rw [Y9 et fun k z=>iv ⟨k,z⟩]
   qV no fun z=>by
    cases v with
    | int k=>qV iv ⟨k,rfl⟩
    | _=>qV z
structure ac2 (rms:List (Str×List Dr)):Prop where
 len:rms.length <= 20
 few:∀ g∈rms,g.2.length <= 100
 ways:∀ g∈rms,∀ d∈g.2,d.ws.length <= 100
noncomputable def nV (n:Nat):V:=.int (n:Nat)
noncomputable def vJ (D1:Addr) (H:Hp) (vs:List V) (k:Nat) (ys:List V) (H':Hp):Prop:=Same H H'/\H' D1=some (.lst ys)/\ys=vs.take k
~!vJ.next {D1:Addr}{H H' H2:Hp}{vs ys:List V}{k:Nat}{v:V} (h:vJ D1 H vs k ys H') (hD:H D1=none) (S:Same H' H2) (e:vs[k]?=some v):vJ D1 H vs (k+1) (ys++[v]) (upd H2 D1 (.lst (ys++[v]))):=by
 x5⟨S1,h1,rfl⟩:=h
 qV⟨fun b o z=>(bM (bL z hD)).trans (S _ _ (S1 _ _ z)),bK,(cH e).symm⟩
noncomputable def d9 (n:Nat) (gs:List Nat):List Bool:=(List.range n).map fun k=>decide (k∈gs)
~!lM {n:Nat}{gs:List Nat} : (d9 n gs).length=n:=by unfold d9; rw [ao,List.length_range]
~!Ib {n g:Nat}{gs:List Nat} (h:g<n):(d9 n gs).set g true=d9 n (gs++[g]):=by
 z5 List.ext_getElem? fun k=>?_
 by_cases hk:k<n
 .by_cases e:g=k
  .subst e
   rw [List.getElem?_set_self (by rw [lM]; qV h)]
   unfold d9
   rw [au,List.getElem?_range h]
   simp
  .rw [List.getElem?_set_ne e]
   unfold d9
   rw [au,au,List.getElem?_range hk]
   simp [Ne.symm e]
 .rw [aO (by rw [List.length_set,lM]; om),aO (by rw [lM]; om)]
~!Sh {n k:Nat} (h:k<n):ixN n (k:Int)=some k:=by
 unfold ixN
 rw [if_pos (by om),if_pos (by om),Int.toNat_natCast]
noncomputable def wO (D:Adr):Sp:=fun vs H Q _=>∃ (o l p:Addr) (rms:List (Str×List Dr)) (gs:List Nat),vs=[.ref o,.ref l]/\kE D H o p rms/\H l=some (.lst (gs.map nV))/\gs.length <= 100/\(∀ g∈gs,g<rms.length)/\rms.length <= 20 /\
 ∀ r H',Same H H'->H r=none->H' r=some (.lst ((d9 rms.length gs).map V.bl))->Q (.ref r) H'
noncomputable def gmJ (o l D1:Addr) (n:Nat) (gs:List Nat) (H:Hp) (k:Nat) (σ:L2.St) (H':Hp):Prop:=∃ u,σ=[some (.ref o),some (.ref l),some (.ref D1),u]/\Same H H'/\H' D1=some (.lst ((d9 n (gs.take k)).map V.bl))
~!Hh (F:Fun K gG gG oW f fd) (T:Txt K mg D) (dG:OkI P w K mg base CX0 1 D.Hall_size fK (dZ D)) (dY:OkI P w K mg base CX0 2 D.Hall_check_room cT (gJ D)):cD P w K mg base CX0 3 f fd iQ (wO D):=by
 z5 F.ok iW ?_ ?_
 .rintro _ _ _ _ ⟨o,l,p,rms,gs,rfl,_⟩; rfl
 .rintro cdv A outer s H _ Q E hr ⟨o,l,p,rms,gs,rfl,hh,hl,hg,hm,n20,q⟩
  have z9:100<sizeLine:=by decide
  have hI:=hh
  x5⟨dx,nn,ll,zs,ho,hn,hll,of_⟩:=hI
  z5⟨_,(bN (cA (i:=2) iW.nd rfl (Or.inl rfl) (bV Yy (kW (bG gB bI)) (PE.any fun C (hC:dO D C)=>(qO (pv 0) (T.cl C hC.fam) (T.oV C hC) dG hr.md))))
   (bN (iD PassesOwn.never rfl (cV ((pv 1)).mono) (cG (i:=3) iW.nd rfl (Or.inl rfl))
    (bN (dh (PE.any fun C (hC:cQ D C)=>(Fv (pv 0) (T.cl C hC.fam) (T.k_ C hC) dY hr.md (bG (pv 3) bI))))
    (bQ (uH gB (QJ (pv 2) (pv 3) set_list)))))
   (bQ (cu (pv 2))))),?_⟩
  unfold dZ gJ
  walk_at "rd"
  z5⟨by om,fun p0 g0=>⟨D.Hall,(by unfold dO; simp),dx,_,Same.upd g0 _ _ ho,rfl,p,rms,hh.same (Same.upd g0),?_⟩⟩
  z5⟨_,_,_,rfl,rfl,bK,?_⟩
  z5⟨by om,by om,by simp; om,fun D1 g1=>fj ?_⟩
  have S1:Same H (upd H p0 (.lst [.bl false])):=Same.upd g0
  have e1:(List.replicate ((rms.length:Int)).toNat [V.bl false]).flatten=(d9 rms.length []).map V.bl:=by
   rw [Int.toNat_natCast]
   unfold d9
   generalize rms.length=n
   z5 List.ext_getElem? fun k=>?_
   rw [List.flatten_replicate_singleton,List.map_map,au]
   by_cases hk:k<n
   .rw [List.getElem?_range hk,List.getElem?_replicate,if_pos hk]; rfl
   .rw [aO (by rw [aP]; om),aO (by rw [List.length_range]; om)]; rfl
  rw [e1]
  have f1:=Same.free S1 g1
  have S2:Same H (upd (upd H p0 (.lst [.bl false])) D1 (.lst ((d9 rms.length []).map V.bl))):=S1.trans (Same.upd g1)
  walk_at "rd"
  z5⟨_,S2 _ _ hl,gmJ o l D1 rms.length gs H,⟨none,rfl,S2,bK⟩,?_,?_⟩
  .rintro k v σ' H' hk ⟨u,rfl,S3,h3⟩ hx
   rw [au] at hk
   cases e:gs[k]? with
   | none=>rw [e] at hk; cases hk
   | some g =>
    rw [e] at hk
    cases hk
    have gm:=hm g (aC e)
    walk_at "rd"
    z5⟨D.Hall,(by unfold cQ; simp),dx,_,S3 _ _ ho,rfl,⟨p,g,rfl,rms,hh.same S3,gm,?_⟩⟩
    have lD:D1≠l:=fun z=>by
     subst z
     rw [hl] at f1
     cases f1
    z5⟨_,_,rfl,h3,g,Sh (by rw [ao,lM]; qV gm),(bM lD.symm).trans (S3 _ _ hl),some (nV g),rfl,fun b o' z=>(bM (bL z f1)).trans (S3 _ _ z),?_⟩
    rw [bK,cH e,<- Ib gm,<- List.map_set]
  .rintro σ' H' ⟨u,rfl,S3,h3⟩ _
   rw [ao,aR] at h3
   qV⟨_,rfl,q D1 H' S3 f1 h3⟩
noncomputable def uX (D:Adr):Sp:=fun vs H _ E=>∃ (o l p:Addr) (rms:List (Str×List Dr)) (gs:List Nat) (v:V) (more:List V),vs=[.ref o,.ref l]/\kE D H o p rms/\H l=some (.lst (gs.map nV++v::more))/\gs.length+more.length <= 100/\(∀ g∈gs,g<rms.length)/\rms.length <= 20/\Odd H v/\¬ tY rms.length v /\
 ∀ d H',Same H H'->H d=none->H' d=some (.xd [("room",v)])->E (.ref D.NoRoom) (some d) H'
~!DR (F:Fun K gG gG oW f fd) (T:Txt K mg D) (dG:OkI P w K mg base CX0 1 D.Hall_size fK (dZ D)) (lB:OkI P w K mg base (CXO P w) 3 D.Hall_check_room cT (Ay D)):cD P w K mg base (CXO P w) 4 f fd iQ (uX D):=by
 z5 F.okX iW ?_ ?_
 .rintro _ _ _ _ ⟨o,l,p,rms,gs,v,more,rfl,_⟩; rfl
 .rintro cdv A outer s H _ Q E hr ⟨o,l,p,rms,gs,v,more,rfl,hh,hl,hg,hm,n20,ov,nv,q⟩
  have z9:200<sizeLine:=by decide
  have hI:=hh
  x5⟨dx,nn,ll,zs,ho,hn,hll,of_⟩:=hI
  z5⟨_,(bN (cA (i:=2) iW.nd rfl (Or.inl rfl) (bV Yy (kW (bG gB bI)) (PE.any fun C (hC:dO D C)=>(qO (pv 0) (T.cl C hC.fam) (T.oV C hC) dG hr.md))))
   (bN (iD PassesOwn.leaving rfl (cV ((pv 1)).mono) (cG (i:=3) iW.nd rfl (Or.inl rfl))
    (bN (dh (PE.any fun C (hC:cQ D C)=>(VP (pv 0) (T.cl C hC.fam) (T.k_ C hC) lB hr.md fW (bG (pv 3) bI))))
    (bQ (uH gB (QJ (pv 2) (pv 3) set_list)))))
   (bQ (cu (pv 2))))),?_⟩
  unfold dZ
  walk_at "rd"
  z5⟨by om,fun p0 g0=>⟨D.Hall,(by unfold dO; simp),dx,_,Same.upd g0 _ _ ho,rfl,p,rms,hh.same (Same.upd g0),?_⟩⟩
  z5⟨_,_,_,rfl,rfl,bK,?_⟩
  z5⟨by om,by om,by simp; om,fun D1 g1=>fj ?_⟩
  have S1:Same H (upd H p0 (.lst [.bl false])):=Same.upd g0
  have e1:(List.replicate ((rms.length:Int)).toNat [V.bl false]).flatten=(d9 rms.length []).map V.bl:=by
   rw [Int.toNat_natCast]
   unfold d9
   generalize rms.length=n
   z5 List.ext_getElem? fun k=>?_
   rw [List.flatten_replicate_singleton,List.map_map,au]
   by_cases hk:k<n
   .rw [List.getElem?_range hk,List.getElem?_replicate,if_pos hk]; rfl
   .rw [aO (by rw [aP]; om),aO (by rw [List.length_range]; om)]; rfl
  rw [e1]
  have f1:=Same.free S1 g1
  have S2:Same H (upd (upd H p0 (.lst [.bl false])) D1 (.lst ((d9 rms.length []).map V.bl))):=S1.trans (Same.upd g1)
  walk_at "rd"
  z5⟨_,S2 _ _ hl,(fun k σ H'=>k <= gs.length/\gmJ o l D1 rms.length gs H k σ H'),⟨bC _,none,rfl,S2,bK⟩,?_,?_⟩
  .rintro k x σ' H' hk ⟨kl,u,rfl,S3,h3⟩ hx
   walk_at "rd"
   have lD:D1≠l:=fun z=>by
    subst z
    rw [hl] at f1
    cases f1
   by_cases ke:k<gs.length
   .have e:gs[k]?=some gs[k]:=aj ke
    have ex:x=nV gs[k]:=by
     rw [aF (by rw [ao]; qV ke),au,e] at hk
     qV(Option.some.inj hk).symm
    subst ex
    have gm:=hm gs[k] (aX ke)
    z5⟨D.Hall,(by unfold cQ; simp),_,rfl,o,dx,_,rfl,S3 _ _ ho,rfl,_,rfl,o,p,_,rms,rfl,hh.same S3,⟨_,rfl⟩,fun _=>?_,fun z=>absurd (show tY rms.length (nV gs[k]) from ⟨Int.natCast_nonneg _,Int.ofNat_lt.mpr gm⟩) z⟩
    walk_at "rd"
    z5⟨_,_,rfl,h3,gs[k],Sh (by rw [ao,lM]; qV gm),(bM lD.symm).trans (S3 _ _ hl),ke,some (nV gs[k]),rfl,fun b o' z=>(bM (bL z f1)).trans (S3 _ _ z),?_⟩
    rw [bK,cH e,<- Ib gm,<- List.map_set]
   .have kg:k=gs.length:=by om
    have ex:x=v:=by
     rw [kg,aD (by rw [ao]; qV aG _),ao,Nat.sub_self] at hk
     qV(Option.some.inj hk).symm
    subst ex
    z5⟨D.Hall,(by unfold cQ; simp),_,rfl,o,dx,_,rfl,S3 _ _ ho,rfl,_,rfl,o,p,_,rms,rfl,hh.same S3,ov.same S3,fun z=>absurd z nv,fun _ d hd=>?_⟩
    qV q d _ (S3.trans (Same.upd hd)) (Same.free S3 hd) bK
  .rintro σ' H' ⟨kl,_⟩ _
   rw [aB,ao,List.length_cons] at kl
   om
noncomputable def vl (f:Int×Int):Rat:=(f.1:Rat) / (f.2:Rat)
~!fB {x:Int} (h:0<x):(x:Rat)≠0:=fun z=>by
 have:=Rat.intCast_inj.mp (z.trans Rat.intCast_zero.symm)
 om
~!XQ {x y:Int×Int} (hx:0<x.2) (hy:0<y.2) (h:x.1 * y.2=y.1 * x.2):vl x=vl y:=by
 have e:(x.1:Rat) * (y.2:Rat)=(y.1:Rat) * (x.2:Rat):=by rw [<- Rat.intCast_mul,<- Rat.intCast_mul,h]
 have:=fB hx
 have:=fB hy
 unfold vl
 grind
~!Za {x y:Int×Int} (hx:0<x.2) (hy:0<y.2) (h:vl x=vl y):x.1 * y.2=y.1 * x.2:=by
 have h1:=fB hx
 have h2:=fB hy
 unfold vl at h
 z5 Rat.intCast_inj.mp ?_
 rw [Rat.intCast_mul,Rat.intCast_mul]
 grind
~!Low.vl {t b x y:Int} (h:Low t b x y) (hb:0<b):vl (x,y)=vl (t,b):=XQ h.pos hb h.eq
~!Wf {x y u v:Int} (hy:0<y) (hv:0<v):vl (x * u,y * v)=vl (x,y) * vl (u,v):=by
 have:=fB hy
 have:=fB hv
 show ((x * u:Int):Rat) / ((y * v:Int):Rat)=(x:Rat) / (y:Rat) * ((u:Rat) / (v:Rat))
 rw [Rat.intCast_mul,Rat.intCast_mul]
 grind
~!adu {x y u v:Int} (hy:0<y) (hu:0<u) (hv:0<v):vl (x * v,y * u)=vl (x,y) / vl (u,v):=by
 have:=fB hy
 have:=fB hv
 have:=fB hu
 show ((x * v:Int):Rat) / ((y * u:Int):Rat)=(x:Rat) / (y:Rat) / ((u:Rat) / (v:Rat))
 rw [Rat.intCast_mul,Rat.intCast_mul]
 grind
~!adh {x y u v:Int} (hy:0<y) (hv:0<v):vl (x * v+u * y,y * v)=vl (x,y)+vl (u,v):=by
 have:=fB hy
 have:=fB hv
 show ((x * v+u * y:Int):Rat) / ((y * v:Int):Rat)=(x:Rat) / (y:Rat)+(u:Rat) / (v:Rat)
 rw [Rat.intCast_add,Rat.intCast_mul,Rat.intCast_mul,Rat.intCast_mul]
 grind
~!adf (x:Int):vl (x,1)=(x:Rat):=by
 show (x:Rat) / ((1:Int):Rat)=x
 rw [Rat.intCast_one]
 grind
noncomputable def Bn (n:Nat) (x:Int):Prop:=x.natAbs <= 10 ^ n
~!Bn.up {a b:Nat}{x:Int} (h:Bn a x) (l:a <= b):Bn b x:=aN h (Nat.pow_le_pow_right (by decide) l)
~!Bn.mul {a b:Nat}{x y:Int} (h:Bn a x) (g:Bn b y):Bn (a+b) (x * y):=by
 unfold Bn
 rw [Int.natAbs_mul,Nat.pow_add]
 qV Nat.mul_le_mul h g
~!Bn.add {a:Nat}{x y:Int} (h:Bn a x) (g:Bn a y):Bn (a+1) (x+y):=by
 have h:x.natAbs <= 10 ^ a:=h
 have g:y.natAbs <= 10 ^ a:=g
 unfold Bn
 rw [Nat.pow_succ]
 om
~!Bn.bd {n:Nat}{x:Int} (h:Bn n x) (l:n <= 2400):Bd x:=Nat.lt_of_le_of_lt (h.up l) (by decide +kernel)
~!Bn.lx {n:Nat}{t b x y:Int} (h:Bn n t) (l:Low t b x y):Bn n x:=aN l.lx h
~!Bn.ly {n:Nat}{t b x y:Int} (h:Bn n b) (l:Low t b x y):Bn n y:=aN l.ly h
noncomputable def JL:Sp:=fun vs H Q _=>∃ (p q:Addr) (x y u v:Int),vs=[.ref p,.ref q]/\H p=some (.tup [.int x,.int y])/\H q=some (.tup [.int u,.int v])/\Bd x/\Bd y/\Bd u/\Bd v/\0<y/\0<u/\Bd (y * u) /\
 ∀ r z o H',Same H H'->H r=none->H' r=some (.tup [.int z,.int o])->Low (x * v) (y * u) z o->Q (.ref r) H'
~!abM (F:Fun K zm zm Pu f fd) (gW:OkF P w K mg base 2 jY jZ jB):cD P w K mg base CX0 3 f fd zR JL:=by
 z5 F.ok abE ?_ ?_
 .rintro _ _ _ _ ⟨p,q,x,y,u,v,rfl,_⟩; rfl
 .rintro cdv A outer s H _ Q E hr ⟨p,q,x,y,u,v,rfl,hp,hq,bx,b_y,bu,bv,y0,v0,byv,k⟩
  z5⟨_,(bQ (cu (bU gW hr.md (by rfl) (bG (bV cZ (bZ dX (pv 0) bH (fun _ _=>rfl)) (bZ dX (pv 1) bH (fun _ _=>rfl))) (bG (bV cZ (bZ dX (pv 0) bH (fun _ _=>rfl)) (bZ dX (pv 1) bH (fun _ _=>rfl))) bI))))),?_⟩
  qV fY ⟨_,rfl,p,_,0,_,rfl,rfl,hp,d8,_,rfl,q,_,1,_,rfl,rfl,hq,dD,x,v,rfl,rfl,⟨bx,bv⟩,_,rfl,p,_,1,_,rfl,rfl,hp,dD,_,rfl,q,_,0,_,rfl,rfl,hq,d8,y,u,rfl,rfl,⟨b_y,bu⟩,_,_,rfl,Int.ne_of_gt (Int.mul_pos y0 v0),byv,fun r z o l hr=>k r z o _ (Same.upd hr) hr bK l⟩
~!Zi {sp:Sp}{te:TE}{t:TA}{σ:L2.St}{H:Hp}{Q:VK} (h:te σ H fun x H1=>t σ H1 fun xs H2=>sp (x::xs) H2 Q E0):Ar sp (sV te t) σ H Q:=h
structure Vm (K:Frag) (H:Hp) (t:Addr) (f:Int×Int) (cs:List (Nat×Int×Int)):Prop where
 ex:∃ (nm:Str) (p r:Addr) (ys:List V),H t=some (.tup [.str nm,.ref p,.ref r])/\H p=some (.tup [.int f.1,.int f.2])/\H r=some (.lst ys)/\ys.length=cs.length/\∀ (k:Nat) c,cs[k]?=some c->∃ tt a,ys[k]?=some (.ref tt)/\H tt=some (.tup [.int (c.1:Nat),.ref a])/\SqT K H a [.int c.2.1,.int c.2.2]
~!Vm.same {H H':Hp}{t:Addr}{f:Int×Int}{cs:List (Nat×Int×Int)} (h:Vm K H t f cs) (S:Same H H'):Vm K H' t f cs:=by
 x5⟨nm,p,r,ys,a,b,c,d,e⟩:=h.ex
 z5⟨nm,p,r,ys,S _ _ a,S _ _ b,S _ _ c,d,fun k z ez=>?_⟩
 x5⟨tt,a2,x1,x2,x3⟩:=e k z ez
 qV⟨tt,a2,x1,S _ _ x2,S.tup x3⟩
noncomputable def chF (cs:List (Nat×Int×Int)):List (Int×Int):=cs.map (·.2)
noncomputable def Nh (cs:List (Nat×Int×Int)) (Ts:List Int):Int:=(List.zipWith (fun p c=>p * Ts.getD c.1 0) (lvT (chF cs)) cs).sum
noncomputable def Az (K:Frag):Sp:=fun vs H Q _=>∃ (t T:Addr) (f:Int×Int) (cs:List (Nat×Int×Int)) (Ts:List Int),vs=[.ref t,.ref T]/\Vm K H t f cs/\H T=some (.lst (Ts.map V.int))/\cs.length <= 41/\(∀ c∈cs,c.1<Ts.length/\Fq c.2)/\(∀ x∈Ts,Bd x) /\
 ∀ r z o H',Same H H'->H r=none->H' r=some (.tup [.int z,.int o])->Low (Nh cs Ts) (lvB (chF cs):Nat) z o->Q (.ref r) H'
~!X7 {α β γ:Type}{g:α->β->γ}{xs:List α}{ys:List β}{k:Nat}{x:α}{y:β} (h1:xs[k]?=some x) (h2:ys[k]?=some y):(List.zipWith g xs ys)[k]?=some (g x y):=by
 rw [List.getElem?_zipWith,h1,h2]
~!YZ {fs:List (Int×Int)} (h:∀ f∈fs,Fq f) (hz:fs.length <= 41):Bn 1640 (lvB fs:Nat):=by
 have:=ZD h hz
 rw [<- Nat.pow_mul] at this
 unfold Bn
 rw [Int.natAbs_natCast]
 qV this
~!adT {fs:List (Int×Int)} (h:∀ f∈fs,Fq f) (hz:fs.length <= 41):∀ x∈lvT fs,Bn 1680 x:=fun x hx=>by
 x5⟨f,hf,rfl⟩:=List.mem_map.mp hx
 have b:Bn 1640 (((lvB fs:Nat):Int) / f.2):=aN (Int.natAbs_ediv_le_natAbs _ _) (YZ h hz)
 qV Bn.mul (a:=40) (b:=1640) (h f hf).sa b
~!DQ (F:Fun K jt jt j4 f fd) (T:Txt K mg D) (oZ:OkF P w K mg base 2 iK jr (qY K)) (gW:OkF P w K mg base 2 jY jZ jB):cD P w K mg base CX0 3 f fd jq (Az K):=by
 z5 F.ok uR ?_ ?_
 .rintro _ _ _ _ ⟨t,T,f,cs,Ts,rfl,_⟩; rfl
 .rintro cdv A outer s H _ Q E hr ⟨t,Ta,f,cs,Ts,rfl,of,hT,l41,hc,bT,q⟩
  x5⟨nm,p,r,ys,ht,hp,hr',yl,ya⟩:=of.ex
  have z9:100<sizeLine:=by decide
  have cl:(chF cs).length=cs.length:=ao ..
  have fq:∀ f∈chF cs,Fq f:=fun f hf=>by
   x5⟨c,hc',rfl⟩:=List.mem_map.mp hf
   qV(hc c hc').2
  z5⟨_,(bN (cA (i:=2) uR.nd rfl (Or.inl rfl) (bU oZ hr.md (by rfl) (bG (jy (bO j4) jW jW ["room", "chance"] (cV ((bZ dX (pv 0) bH (fun _ _=>rfl))).mono) (gR (n:=2) rfl (cF (eV (i:=0)) (cF (eV (i:=1)) gC))) c7 (pv 1)) bI)))
   (bQ (cu (bU gW hr.md (by rfl) (bG (cB (Bh rfl) (by rfl) T.Yh boot_sum (bG (jy (bO j4) jW jW ["part", "way"] (Q9 (by rfl) T.Xq (bG (bZ dX (pv 2) bH (fun _ _=>rfl)) (bG (bZ dX (pv 0) bH (fun _ _=>rfl)) bI)).mono) (gR (n:=2) rfl (cF (eV (i:=0)) (cF (eV (i:=1)) gC))) c7 (bV cZ (pv 0) (bZ bY (pv 3) (bZ dX (pv 1) bH (fun _ _=>rfl)) (fun _ _=>rfl)))) bI)) (bG (bZ dX (pv 2) bH (fun _ _=>rfl)) bI)))))),?_⟩
  z5 cg fun R1 hR1=>?_
  z5 cN (Zi (qb ⟨_,rfl,t,_,2,_,rfl,rfl,ht,b_ (j:=2) rfl,r,ys,rfl,hr',by om,fun D1 gD=>⟨fun k zs Hc=>Same H Hc/\Hc D1=some (.lst zs)/\FLK K H zs ((chF cs).take k),⟨Same.upd gD,bK,.nil⟩,?_,?_⟩⟩))
  .rintro k v zs Hc hk ⟨S1,h1,fl⟩ hz hc' pre hpre
   x5⟨w1,w2,rfl⟩:=xR hpre
   have lk:k<cs.length:=by rw [<- yl]; qV(aq.mp hk).1
   have ec:cs[k]?=some cs[k]:=aj lk
   x5⟨tt,a,e1,e2,e3⟩:=ya k _ ec
   rw [hk] at e1
   cases e1
   have en:(chF cs)[k]?=some cs[k].2:=by unfold chF; rw [au,ec]; rfl
   z5⟨tt,_,rfl,S1 _ _ e2,rfl,_,_,rfl,_,_,rfl,rfl,[_,_],rfl,rfl,_,rfl,h1,hc',fun b o z=>(bM (bL z gD)).trans (S1 _ _ z),bK,?_⟩
   rw [cH en]
   qV fl.append (.cons e3 .nil)
  rintro zs H1 ⟨S1,h1,fl⟩ hz
  rw [yl,<- cl,aR] at fl
  z5⟨D1,zs,chF cs,rfl,h1,fl.same S1,fq,by om,fun D2 p2 f2 g2=>?_⟩
  have S2:Same H1 (upd (upd H1 D2 (.lst ((lvT (chF cs)).map V.int))) p2 (.tup [.ref D2,.int (lvB (chF cs):Nat)])):=(Same.upd f2).trans (Same.upd g2)
  have k1:=Same.upd g2 (o:=.tup [.ref D2,.int (lvB (chF cs):Nat)]) _ _ (bK (H:=H1) (a:=D2) (o:=.lst ((lvT (chF cs)).map V.int)))
  have k2:upd (upd H1 D2 (.lst ((lvT (chF cs)).map V.int))) p2 (.tup [.ref D2,.int (lvB (chF cs):Nat)]) p2=_:=bK
  generalize upd (upd H1 D2 (.lst ((lvT (chF cs)).map V.int))) p2 (.tup [.ref D2,.int (lvB (chF cs):Nat)])=H2 at S2 k1 k2 ⊢
  have SS:=S1.trans S2
  have tl:(lvT (chF cs)).length=cs.length:=by unfold lvT; rw [ao,cl]
  dsimp only [cU,L2.start]
  subst hR1
  z5 fY (Zi (Q_ (Fy ⟨_,rfl,p2,_,0,_,rfl,rfl,k2,d8,_,rfl,t,_,2,_,rfl,rfl,SS _ _ ht,b_ (j:=2) rfl,D2,r,_,ys,rfl,k1,SS _ _ hr',by rw [ao,tl,yl],by rw [ao,tl]; om,fun D3 g3=>⟨fun k zs Hc=>Same H2 Hc/\Hc D3=some (.lst zs)/\zs=(((List.zipWith (fun p c=>p * Ts.getD c.1 0) (lvT (chF cs)) cs).take k).map V.int),⟨Same.upd g3,bK,rfl⟩,?_,?_⟩⟩)))
  .rintro k x y zs Hc t2 hx hy ⟨S3,h3,rfl⟩ hz ht2 ha hb pre hpre
   x5⟨w1,w2,rfl⟩:=xR hpre
   have lk:k<cs.length:=by rw [<- yl]; qV(aq.mp hy).1
   have ec:cs[k]?=some cs[k]:=aj lk
   x5⟨tt,a,e1,e2,e3⟩:=ya k _ ec
   rw [hy] at e1
   cases e1
   have el:(lvT (chF cs))[k]?=some ((lvT (chF cs))[k]'(by om)):=aj _
   rw [au,el] at hx
   cases hx
   have S4:Same Hc (upd Hc t2 (.tup [.int ((lvT (chF cs))[k]'(by om)),.ref tt])):=Same.upd ht2
   have k4:upd Hc t2 (.tup [.int ((lvT (chF cs))[k]'(by om)),.ref tt]) t2=_:=bK
   generalize upd Hc t2 (.tup [.int ((lvT (chF cs))[k]'(by om)),.ref tt])=H4 at S4 k4 ⊢
   have S24:=SS.trans (S3.trans S4)
   have cm:=hc _ (aX lk)
   have lt:cs[k].1<Ts.length:=cm.1
   have eT:(Ts.map V.int)[cs[k].1]?=some (.int (Ts.getD cs[k].1 0)):=by rw [au,aj lt,aA,aj lt]; rfl
   have bt:Bd (Ts.getD cs[k].1 0):=bT _ (by rw [aA,aj lt]; qV aX lt)
   have bl:Bd ((lvT (chF cs))[k]'(by om)):=(adT fq (by om) _ (aX _)).bd (by decide)
   z5⟨t2,_,rfl,k4,rfl,_,_,rfl,_,_,rfl,rfl,[_,_],rfl,rfl,_,rfl,_,rfl,_,rfl,tt,_,0,_,rfl,rfl,S24 _ _ e2,d8,Ta,_,_,_,rfl,rfl,S24 _ _ hT,b_ (j:=cs[k].1) eT,_,_,rfl,rfl,⟨bl,bt⟩,S4 _ _ h3,S4 _ _ ha,S4 _ _ hb,fun b o z=>(bM (bL z g3)).trans (S4 _ _ (S3 _ _ z)),bK,?_⟩
   rw [cH (X7 (g:=fun p (c:Nat×Int×Int)=>p * Ts.getD c.1 0) el ec),bD]; rfl
  .rintro zs Hc ⟨S3,h3,ez⟩ hz
   rw [ao,tl,aM (by rw [List.length_zipWith]; om)] at ez
   subst ez
   have b0:=CW fq
   qV⟨D3,_,rfl,h3,_,rfl,p2,_,1,_,rfl,rfl,S3 _ _ k2,dD,Nh cs Ts,(lvB (chF cs):Nat),rfl,by om,(YZ fq (by om)).bd (by decide),fun r z o l hr=>q r z o _ (SS.trans (S3.trans (Same.upd hr))) (Same.free (SS.trans S3) hr) bK l⟩
noncomputable def iG (cs:List (Nat×Int×Int)) (g:Nat->Rat):Rat:=(cs.map fun c=>vl c.2 * g c.1).sum
~!RZ {B:Int} (hB:0<B) {Ts:List Int} : ∀ {cs:List (Nat×Int×Int)},(∀ c∈cs,0<c.2.2/\c.2.2 ∣ B)->(((List.zipWith (fun p (c:Nat×Int×Int)=>p * Ts.getD c.1 0) (cs.map fun c=>c.2.1 * (B / c.2.2)) cs).sum:Int):Rat)=(B:Rat) * iG cs fun r=>(Ts.getD r 0:Rat)
 | [],_=>by
  show ((0:Int):Rat)=(B:Rat) * 0
  rw [Rat.intCast_zero,Rat.mul_zero]
 | c::cs,h=>by
  have ih:=RZ hB (Ts:=Ts) (cs:=cs) fun c hc=>h c (aJ _ hc)
  x5⟨c0,d,e⟩:=h c aQ
  rw [List.map_cons,List.zipWith_cons_cons,List.sum_cons,Rat.intCast_add,ih]
  show _=(B:Rat) * (vl c.2 * (Ts.getD c.1 0:Rat)+iG cs fun r=>(Ts.getD r 0:Rat))
  have e2:B / c.2.2=d:=by rw [e,Int.mul_ediv_cancel_left _ (by om)]
  rw [e2,e,Rat.intCast_mul,Rat.intCast_mul,Rat.intCast_mul]
  have:=fB c0
  unfold vl
  grind
~!abJ {cs:List (Nat×Int×Int)}{Ts:List Int}{z o:Int} (fq:∀ f∈chF cs,Fq f) (l:Low (Nh cs Ts) (lvB (chF cs):Nat) z o):vl (z,o)=iG cs fun r=>(Ts.getD r 0:Rat):=by
 have b0:(0:Int)<(lvB (chF cs):Nat):=by have:=CW fq; om
 rw [l.vl b0]
 have e:Nh cs Ts=(List.zipWith (fun p (c:Nat×Int×Int)=>p * Ts.getD c.1 0) (cs.map fun c=>c.2.1 * (((lvB (chF cs):Nat):Int) / c.2.2)) cs).sum:=by
  unfold Nh lvT
  congr 2
  show (cs.map (·.2)).map _=_
  rw [List.map_map]; rfl
 have:=RZ b0 (Ts:=Ts) (cs:=cs) fun c hc=>⟨(fq c.2 (List.mem_map.mpr ⟨c,hc,rfl⟩)).pos,TY (List.mem_map.mpr ⟨c,hc,rfl⟩) (fq c.2 (List.mem_map.mpr ⟨c,hc,rfl⟩))⟩
 show ((Nh cs Ts:Int):Rat) / (((lvB (chF cs):Nat):Int):Rat)=_
 rw [e,this]
 have:=fB b0
 grind
~!WL {a:Nat} : ∀ {l:List Int},(∀ x∈l,Bn a x)->l.sum.natAbs <= l.length * 10 ^ a
 | [],_=>by simp
 | x::l,h=>by
  have h1:=WL (l:=l) fun y hy=>h y (aJ _ hy)
  have h2:x.natAbs <= 10 ^ a:=h x aQ
  rw [List.sum_cons,List.length_cons,Nat.add_mul,Nat.one_mul]
  om
~!abX {a b:Nat}{cs:List (Nat×Int×Int)}{Ts:List Int} (h1:∀ x∈lvT (chF cs),Bn a x) (h2:∀ x∈Ts,Bn b x) (l:cs.length <= 100):Bn (a+b+2) (Nh cs Ts):=by
 have h:∀ x∈List.zipWith (fun p (c:Nat×Int×Int)=>p * Ts.getD c.1 0) (lvT (chF cs)) cs,Bn (a+b) x:=fun x hx=>by
  x5⟨k,hk⟩:=aY hx
  rw [List.getElem?_zipWith] at hk
  cases e1:(lvT (chF cs))[k]? with
  | none=>rw [e1] at hk; cases hk
  | some p =>
   cases e2:cs[k]? with
   | none=>rw [e1,e2] at hk; cases hk
   | some c =>
    rw [e1,e2] at hk
    cases hk
    z5 Bn.mul (h1 p (aC e1)) ?_
    rw [aA]
    cases e3:Ts[c.1]? with
    | none=>qV bC _
    | some x=>qV h2 x (aC e3)
 have hs:=WL h
 unfold Bn Nh
 rw [Nat.pow_add _ (a+b) 2,Nat.mul_comm]
 z5 aN hs (Nat.mul_le_mul_right _ ?_)
 rw [List.length_zipWith]
 om
structure BJ (n:Nat) (f:Int×Int) (cs:List (Nat×Int×Int)):Prop where
 pay:0<f.2/\Bn 40 f.1/\Bn 40 f.2
 few:cs.length <= 41
 ch:∀ c∈cs,c.1<n/\Fq c.2
 lv:Bn 60 (lvB (chF cs):Nat)
~!BJ.fq {n:Nat}{f:Int×Int}{cs:List (Nat×Int×Int)} (h:BJ n f cs):∀ f∈chF cs,Fq f:=fun f hf=>by
 x5⟨c,hc,rfl⟩:=List.mem_map.mp hf
 qV(h.ch c hc).2
~!BJ.tops {n:Nat}{f:Int×Int}{cs:List (Nat×Int×Int)} (h:BJ n f cs):∀ x∈lvT (chF cs),Bn 100 x:=fun x hx=>by
 x5⟨g,hg,rfl⟩:=List.mem_map.mp hx
 have b:Bn 60 (((lvB (chF cs):Nat):Int) / g.2):=aN (Int.natAbs_ediv_le_natAbs _ _) h.lv
 qV Bn.mul (a:=40) (b:=60) (h.fq g hg).sa b
structure DrN (K:Frag) (H:Hp) (ns:List Str) (d:Dr) (f:Int×Int) (cs:List (Nat×Int×Int)):Prop where
 pay:H d.p=some (.tup [.int f.1,.int f.2])
 len:d.ws.length=cs.length
 at_:∀ (k:Nat) g c,d.ws[k]?=some g->cs[k]?=some c->ns[c.1]?=some g.1/\SqT K H g.2 [.int c.2.1,.int c.2.2]
~!DrN.same {H H':Hp}{ns:List Str}{d:Dr}{f:Int×Int}{cs:List (Nat×Int×Int)} (h:DrN K H ns d f cs) (S:Same H H'):DrN K H' ns d f cs:=⟨S _ _ h.pay,h.len,fun k g c e1 e2=>⟨(h.at_ k g c e1 e2).1,S.tup (h.at_ k g c e1 e2).2⟩⟩
~!qQ {ns:List Str} (nd:ns.Nodup) {i j:Nat}{n:Str} (h1:ns[i]?=some n) (h2:ns[j]?=some n):i=j:=by
 qV(List.getElem?_inj (aq.mp h1).1 nd).mp (h1.trans h2.symm)
~!pY.offN {ns:List Str} (nd:ns.Nodup) {H:Hp}{zs:List V}{gs:List Dr} (h:pY ns H zs gs) {k:Nat}{d:Dr} (e:gs[k]?=some d) {f:Int×Int}{cs:List (Nat×Int×Int)} (hd:DrN K H ns d f cs):∃ t,zs[k]?=some (.ref t)/\Vm K H t f cs:=by
 x5⟨t,r,ys,a,b,c,w⟩:=h.at_ k d e
 z5⟨t,a,d.nm,d.p,r,ys,b,hd.pay,c,by rw [w.len,hd.len],fun j g eg=>?_⟩
 have lj:j<d.ws.length:=by rw [hd.len]; qV(aq.mp eg).1
 have ew:d.ws[j]?=some d.ws[j]:=aj lj
 x5⟨tt,i,x1,x2,x3⟩:=w.at_ j _ ew
 x5⟨y1,y2⟩:=hd.at_ j _ g ew eg
 cases qQ nd x2 y1
 qV⟨tt,_,x1,x3,y2⟩
noncomputable def wq (fs:List (Int×Int)) (r:Nat):Rat:=vl (fs.getD r (0,1))
noncomputable def Ov (s f:Int×Int) (cs:List (Nat×Int×Int)) (fs:List (Int×Int)):Rat:=vl f+vl s * iG cs (wq fs)
~!Ul {W:Rat}{g h:Nat->Rat} : ∀ {cs:List (Nat×Int×Int)},(∀ c∈cs,g c.1=W * h c.1)->iG cs g=W * iG cs h
 | [],_=>by
  show (0:Rat)=W * 0
  rw [Rat.mul_zero]
 | c::cs,e=>by
  have ih:=Ul (cs:=cs) fun c hc=>e c (aJ _ hc)
  show vl c.2 * g c.1+iG cs g=W * (vl c.2 * h c.1+iG cs h)
  rw [ih,e c aQ]
  grind
structure Ve (K:Frag) (H:Hp) (ns:List Str) (n:Nat) (gs:List Dr) (fcs:List ((Int×Int)×List (Nat×Int×Int))):Prop where
 len:gs.length=fcs.length
 at_:∀ (k:Nat) d fc,gs[k]?=some d->fcs[k]?=some fc->DrN K H ns d fc.1 fc.2/\BJ n fc.1 fc.2
~!yO {a b c:Rat} (p:0<c):a <= b / c ↔ a * c <= b:=by rw [<- Rat.not_lt,Rat.div_lt_iff p,Rat.not_lt]
~!Aa {a b c:Rat} (p:0<c):b / c <= a ↔ b <= a * c:=by rw [<- Rat.not_lt,Rat.lt_div_iff p,Rat.not_lt]
noncomputable def IsI (q:Rat):Prop:=∃ z:Int,q=(z:Rat)
~!IsI.add {p q:Rat} (h:IsI p) (g:IsI q):IsI (p+q):=by
 x5⟨a,rfl⟩:=h; x5⟨b,rfl⟩:=g; qV⟨a+b,(Rat.intCast_add a b).symm⟩
~!IsI.mul {p q:Rat} (h:IsI p) (g:IsI q):IsI (p * q):=by
 x5⟨a,rfl⟩:=h; x5⟨b,rfl⟩:=g; qV⟨a * b,(Rat.intCast_mul a b).symm⟩
~!Qs {f:Int×Int}{N:Nat} (h0:0<f.2) (h:f.2 ∣ (N:Int)):IsI (vl f * ((N:Int):Rat)):=by
 x5⟨d,e⟩:=h
 z5⟨f.1 * d,?_⟩
 have:=fB h0
 rw [e,Rat.intCast_mul,Rat.intCast_mul]
 unfold vl
 grind
~!Rh {g:Int×Int}{N:Nat} (h0:0<g.2) (hg:Int.gcd g.1 g.2=1) (h:IsI (vl g * ((N:Int):Rat))):g.2 ∣ (N:Int):=by
 x5⟨z,e⟩:=h
 have h1:=fB h0
 have e2:g.1 * (N:Int)=z * g.2:=by
  z5 Rat.intCast_inj.mp ?_
  rw [Rat.intCast_mul,Rat.intCast_mul,<- e]
  unfold vl
  grind
 have c:Nat.Coprime g.2.natAbs g.1.natAbs:=by rw [Nat.coprime_comm]; qV hg
 have d:g.2.natAbs ∣ g.1.natAbs * N:=by
  have:g.2.natAbs ∣ (g.1 * (N:Int)).natAbs:=Int.natAbs_dvd_natAbs.mpr ⟨z,by rw [e2,Int.mul_comm]⟩
  rwa [Int.natAbs_mul,Int.natAbs_natCast] at this
 qV Int.natAbs_dvd.mp (Int.natCast_dvd_natCast.mpr (c.dvd_of_dvd_mul_left d))
structure Io (s:Int×Int) (L:Nat) (fc:(Int×Int)×List (Nat×Int×Int)):Prop where
 f0:0<fc.1.2
 pay:fc.1.2 ∣ (L:Int)
 big:fc.1.1.natAbs <= 10 ^ 30
 few:fc.2.length <= 41
 ch:∀ c∈fc.2,0<c.2.2/\s.2 * c.2.2 ∣ (L:Int)/\0 <= c.2.1/\c.2.1 <= c.2.2
noncomputable def zu (L k:Nat) (fs:List (Int×Int)):Prop:=∀ f∈fs,0<f.2/\Int.gcd f.1 f.2=1/\f.2 ∣ ((L ^ k:Nat):Int)/\f.1.natAbs <= 10 ^ 30 * 42 ^ k * f.2.natAbs
noncomputable def Wn (B q:Rat):Prop:=-B <= q/\q <= B
~!Yd {f:Int×Int}{B:Nat} (h0:0<f.2) (h:f.1.natAbs <= B * f.2.natAbs):Wn ((B:Int):Rat) (vl f):=by
 have p:(0:Rat)<(f.2:Rat):=Rat.intCast_pos.mpr h0
 have e:((f.2.natAbs:Nat):Int)=f.2:=by om
 have h':((f.1.natAbs:Nat):Int) <= (B:Int) * f.2:=by rw [<- e,<- Int.natCast_mul]; qV Int.ofNat_le.mpr h
 unfold vl
 constructor
 .rw [yO p,<- Rat.intCast_neg,<- Rat.intCast_mul,Rat.intCast_le_intCast,Int.neg_mul]
  om
 .rw [Aa p,<- Rat.intCast_mul,Rat.intCast_le_intCast]
  om
~!agJ {f:Int×Int}{B:Nat} (h0:0<f.2) (h:Wn ((B:Int):Rat) (vl f)):f.1.natAbs <= B * f.2.natAbs:=by
 have p:(0:Rat)<(f.2:Rat):=Rat.intCast_pos.mpr h0
 have e:((f.2.natAbs:Nat):Int)=f.2:=by om
 unfold vl at h
 x5⟨h1,h2⟩:=h
 rw [yO p,<- Rat.intCast_neg,<- Rat.intCast_mul,Rat.intCast_le_intCast,Int.neg_mul] at h1
 rw [Aa p,<- Rat.intCast_mul,Rat.intCast_le_intCast] at h2
 have:((f.1.natAbs:Nat):Int) <= ((B * f.2.natAbs:Nat):Int):=by rw [Int.natCast_mul,e]; om
 qV Int.ofNat_le.mp this
~!Wn.add {A B p q:Rat} (h:Wn A p) (g:Wn B q):Wn (A+B) (p+q):=by
 x5⟨a,b⟩:=h; x5⟨c,d⟩:=g
 qV⟨by grind,by grind⟩
~!Wn.part {B c q:Rat} (h:Wn B q) (c0:0 <= c) (c1:c <= 1):Wn B (c * q):=by
 x5⟨a,b⟩:=h
 have B0:0 <= B:=by
  have:=Rat.le_trans a b
  grind
 have k1:=Rat.mul_le_mul_of_nonneg_left a c0
 have k2:=Rat.mul_le_mul_of_nonneg_left b c0
 have k3:=Rat.mul_le_mul_of_nonneg_right c1 B0
 rw [Rat.one_mul] at k3
 z5⟨?_,Rat.le_trans k2 k3⟩
 have : -B <= c * -B:=by
  rw [Rat.mul_neg]
  qV Rat.neg_le_neg k3
 qV Rat.le_trans this k1
~!YS {B:Rat}{G:Nat->Rat} (hG:∀ r,Wn B (G r)):∀ {cs:List (Nat×Int×Int)},(∀ c∈cs,0<c.2.2/\0 <= c.2.1/\c.2.1 <= c.2.2)->Wn (((cs.length:Nat):Rat) * B) (iG cs G)
 | [],_=>by
  show Wn (((0:Nat):Rat) * B) 0
  rw [show ((0:Nat):Rat)=0 from rfl,Rat.zero_mul]
  qV⟨by grind,by grind⟩
 | c::cs,h=>by
  x5⟨a,b,d⟩:=h c aQ
  have p:(0:Rat)<(c.2.2:Rat):=Rat.intCast_pos.mpr a
  have c0:0 <= vl c.2:=by
   unfold vl
   rw [yO p,Rat.zero_mul]
   qV Rat.intCast_nonneg.mpr b
  have c1:vl c.2 <= 1:=by
   unfold vl
   rw [Aa p,Rat.one_mul,Rat.intCast_le_intCast]
   qV d
  have ih:=YS hG (cs:=cs) fun c hc=>h c (aJ _ hc)
  have:=((hG c.1).part c0 c1).add ih
  show Wn _ (vl c.2 * G c.1+iG cs G)
  rw [List.length_cons,show ((cs.length+1:Nat):Rat)=(cs.length:Rat)+1 from by rw [Rat.natCast_add]; rfl]
  have e:((cs.length:Rat)+1) * B=B+(cs.length:Rat) * B:=by grind
  rw [e]
  qV this
~!Tq {x:Rat}{G:Nat->Rat} : ∀ {cs:List (Nat×Int×Int)},(∀ c∈cs,IsI (vl c.2 * G c.1 * x))->IsI (iG cs G * x)
 | [],_=>⟨0,by show (0:Rat) * x=_; rw [Rat.zero_mul]; rfl⟩
 | c::cs,h=>by
  have ih:=Tq (cs:=cs) fun c hc=>h c (aJ _ hc)
  show IsI ((vl c.2 * G c.1+iG cs G) * x)
  rw [Rat.add_mul]
  qV(h c aQ).add ih
~!zu.wq {L k:Nat}{fs:List (Int×Int)} (h:zu L k fs) (r:Nat):IsI (wq fs r * (((L ^ k:Nat):Int):Rat))/\Wn (((10 ^ 30 * 42 ^ k:Nat):Int):Rat) (wq fs r):=by
 unfold K52.wq
 cases e:fs[r]? with
 | none =>
  rw [aA,e]
  have z:vl (0,1)=0:=by
   show ((0:Int):Rat) / ((1:Int):Rat)=0
   rw [Rat.intCast_zero]; grind
  show IsI (vl (0,1) * _)/\Wn _ (vl (0,1))
  z5⟨by rw [z,Rat.zero_mul]; qV⟨0,rfl⟩,Yd (by decide) (bC _)⟩
 | some f =>
  rw [aA,e]
  x5⟨a,b,c,d⟩:=h f (aC e)
  qV⟨Qs a c,Yd a d⟩
~!aaz {s:Int×Int}{L k:Nat}{fc:(Int×Int)×List (Nat×Int×Int)}{fs:List (Int×Int)} (s0:0 <= s.1) (s1:s.1 <= s.2) (s2:0<s.2) (d:Io s L fc) (h:zu L k fs):IsI (Ov s fc.1 fc.2 fs * (((L ^ (k+1):Nat):Int):Rat))/\Wn (((10 ^ 30 * 42 ^ (k+1):Nat):Int):Rat) (Ov s fc.1 fc.2 fs):=by
 have eL:(((L ^ (k+1):Nat):Int):Rat)=((L:Int):Rat) * (((L ^ k:Nat):Int):Rat):=by rw [Nat.pow_succ,Int.natCast_mul,Rat.intCast_mul,Rat.mul_comm]
 have p:(0:Rat)<(s.2:Rat):=Rat.intCast_pos.mpr s2
 have q0:0 <= vl s:=by
  unfold vl
  rw [yO p,Rat.zero_mul]
  qV Rat.intCast_nonneg.mpr s0
 have q1:vl s <= 1:=by
  unfold vl
  rw [Aa p,Rat.one_mul,Rat.intCast_le_intCast]
  qV s1
 unfold Ov
 constructor
 .rw [Rat.add_mul]
  z5 IsI.add ?_ ?_
  .rw [eL,<- Rat.mul_assoc]
   qV(Qs d.f0 d.pay).mul ⟨_,rfl⟩
  .have e:vl s * iG fc.2 (K52.wq fs) * (((L ^ (k+1):Nat):Int):Rat)=iG fc.2 (K52.wq fs) * (vl s * (((L:Int):Rat) * (((L ^ k:Nat):Int):Rat))):=by rw [eL]; grind
   rw [e]
   z5 Tq fun c hc=>?_
   x5⟨c0,dv,_⟩:=d.ch c hc
   have e2:vl c.2 * K52.wq fs c.1 * (vl s * (((L:Int):Rat) * (((L ^ k:Nat):Int):Rat)))=(vl (s.1 * c.2.1,s.2 * c.2.2) * ((L:Int):Rat)) * (K52.wq fs c.1 * (((L ^ k:Nat):Int):Rat)):=by
    rw [Wf s2 c0]; grind
   rw [e2]
   qV(Qs (f:=(s.1 * c.2.1,s.2 * c.2.2)) (Int.mul_pos s2 c0) dv).mul (h.wq c.1).1
 .have w1:Wn (((10 ^ 30:Nat):Int):Rat) (vl fc.1):=Yd d.f0 (aN d.big (Nat.le_mul_of_pos_right _ (by have:=d.f0; om)))
  have w2:=(YS (fun r=>(h.wq r).2) (cs:=fc.2) fun c hc=>let ⟨a,_,b,e⟩:=d.ch c hc; ⟨a,b,e⟩).part q0 q1
  have w:=w1.add w2
  have le:(((10 ^ 30:Nat):Int):Rat)+((fc.2.length:Nat):Rat) * (((10 ^ 30 * 42 ^ k:Nat):Int):Rat) <= (((10 ^ 30 * 42 ^ (k+1):Nat):Int):Rat):=by
   rw [show ((fc.2.length:Nat):Rat)=(((fc.2.length:Nat):Int):Rat) from rfl,<- Rat.intCast_mul,<- Rat.intCast_add,Rat.intCast_le_intCast,<- Int.natCast_mul,<- Int.natCast_add]
   z5 Int.ofNat_le.mpr ?_
   have h1:fc.2.length * (10 ^ 30 * 42 ^ k) <= 41 * (10 ^ 30 * 42 ^ k):=Nat.mul_le_mul_right _ d.few
   have h2:10 ^ 30 * 1 <= 10 ^ 30 * 42 ^ k:=Nat.mul_le_mul_left _ (Nat.pos_of_ne_zero (by simp))
   have e:10 ^ 30 * 42 ^ (k+1)=10 ^ 30 * 42 ^ k * 42:=(Nat.mul_assoc (10 ^ 30) (42 ^ k) 42).symm
   rw [e]
   generalize 10 ^ 30 * 42 ^ k=x at *
   generalize fc.2.length * x=u at *
   om
  qV⟨Rat.le_trans (Rat.neg_le_neg le) w.1,Rat.le_trans w.2 le⟩
~!Wk {cs:List (Nat×Int×Int)}{fs:List (Int×Int)} : Ov (1,1) (0,1) cs fs=iG cs (wq fs):=by
 unfold Ov
 have z:vl (0,1)=0:=by
  show ((0:Int):Rat) / ((1:Int):Rat)=0
  rw [Rat.intCast_zero]; grind
 have o:vl (1,1)=1:=by
  show ((1:Int):Rat) / ((1:Int):Rat)=1
  rw [Rat.intCast_one]; grind
 rw [z,o,Rat.one_mul,Rat.zero_add]
~!Io.beh {s:Int×Int}{L:Nat}{fc:(Int×Int)×List (Nat×Int×Int)} (h:Io s L fc):Io (1,1) L ((0,1),fc.2):=⟨(show (0:Int)<1 by decide),Int.one_dvd _,bC _,h.few,fun c hc=>by
 x5⟨a,b,c,d⟩:=h.ch c hc
 z5⟨a,?_,c,d⟩
 show 1 * _ ∣ _
 rw [Int.one_mul]
 qV Int.dvd_trans (Int.dvd_mul_left _ _) b⟩
noncomputable def tu (gl:List Nat) (fcss:List (List ((Int×Int)×List (Nat×Int×Int)))) (fs gs:List (Int×Int)):Prop :=
 gs.length=fcss.length/\∀ (k:Nat) fcs g,fcss[k]?=some fcs->gs[k]?=some g->0<g.2/\Int.gcd g.1 g.2=1/\(k∈gl->g=(1,1))/\(k ∉ gl->(fcs=[]->g=(0,1))/\(fcs≠[]->∃ fc∈fcs,vl g=iG fc.2 (wq fs))/\∀ fc∈fcs,iG fc.2 (wq fs) <= vl g)
~!Wg {L k:Nat} : 0<(1:Int)/\Int.gcd 1 1=1/\(1:Int) ∣ ((L ^ k:Nat):Int)/\(1:Int).natAbs <= 10 ^ 30 * 42 ^ k * (1:Int).natAbs:=⟨by decide,by decide,Int.one_dvd _,by
 show 1 <= 10 ^ 30 * 42 ^ k * 1
 have:0<10 ^ 30 * 42 ^ k:=Nat.mul_pos (by decide) (Nat.pow_pos (by decide))
 om⟩
~!tu.ok {gl:List Nat}{L k:Nat}{fcss:List (List ((Int×Int)×List (Nat×Int×Int)))}{fs gs:List (Int×Int)} (d:∀ fcs∈fcss,∀ fc∈fcs,Io (1,1) L ((0,1),fc.2)) (n:tu gl fcss fs gs) (h:zu L k fs):zu L (k+1) gs:=by
 intro g hg
 x5⟨j,hj⟩:=aY hg
 have lj:j<fcss.length:=by rw [<- n.1]; qV(aq.mp hj).1
 x5⟨g0,g1,z1,z2⟩:=n.2 j _ g (aj lj) hj
 have m:=aX lj
 generalize fcss[j]=fcs at *
 by_cases hm:j∈gl
 .have:=z1 hm
  subst this
  qV Wg
 x5⟨z,nz,_⟩:=z2 hm
 by_cases e:fcs=[]
 .have:=z e
  subst this
  qV⟨g0,g1,Int.one_dvd _,bC _⟩
 .obtain ⟨fc,hf,ev⟩:=nz e
  x5⟨a,b⟩:=aaz (by decide) (by decide) (by decide) (d fcs m fc hf) h
  rw [Wk,<- ev] at a b
  qV⟨g0,g1,Rh g0 g1 a,agJ g0 b⟩
~!acd {x y:Int×Int} (hx:0<x.2) (hy:0<y.2):vl x<vl y ↔ x.1 * y.2<y.1 * x.2:=by
 have h1:(0:Rat)<(x.2:Rat):=Rat.intCast_pos.mpr hx
 have h2:(0:Rat)<(y.2:Rat):=Rat.intCast_pos.mpr hy
 unfold vl
 have e:(y.1:Rat) / (y.2:Rat) * (x.2:Rat)=((y.1:Rat) * (x.2:Rat)) / (y.2:Rat):=by grind
 rw [Rat.div_lt_iff h1,e,Rat.lt_div_iff h2,<- Rat.intCast_mul,<- Rat.intCast_mul,Rat.intCast_lt_intCast]
~!acs {a b c:Rat} (h1:a <= b) (h2:b<c):a<c:=Rat.not_le.mp fun h=>Rat.not_le.mpr h2 (Rat.le_trans h h1)
structure Fb (f:Int×Int):Prop where
 pos:0<f.2
 bx:Bd f.1
 b_y:Bd f.2
structure Top (fs:List (Int×Int)) (j:Nat) (f:Int×Int):Prop where
 at_:fs[j]?=some f
 le:∀ g∈fs,vl g <= vl f
 lt:∀ i g,i<j->fs[i]?=some g->vl g<vl f
noncomputable def Ds:Sp:=fun vs H Q _=>∃ (l:Addr) (xs:List V) (fs:List (Int×Int)),vs=[.ref l]/\H l=some (.lst xs)/\FL H xs fs/\(∀ f∈fs,Fb f)/\(fs=[]->Q .non H)/\∀ p f j,H p=some (.tup [.int f.1,.int f.2])->Top fs j f->Q (.ref p) H
~!Pg (F:Fun K ou ou xM f fd) (T:Txt K mg D) (kh:OkF P w K mg base 1 oA n_ (nZ (K:=K))):cD P w K mg base CX0 2 f fd oh Ds:=by
 z5 F.ok qg ?_ ?_
 .rintro _ _ _ _ ⟨l,xs,fs,rfl,_⟩; rfl
 .rintro cdv A outer s H _ Q E hr ⟨l,xs,fs,rfl,hl,fl,fb,ne,q⟩
  z5⟨_,(bN (cA (i:=1) qg.nd rfl (Or.inl rfl) vI)
   (bN (iD PassesOwn.never rfl (cV ((pv 0)).mono) (cG (i:=2) qg.nd rfl (Or.inl rfl))
    (bQ (cY (PW.pt (pw_or (cL Xm (pv 1) vI (cM _)) (pw_or1 (dw (bU kh hr.md (by rfl) (bG (pv 1) (bG (pv 2) bI))) (fun _=>rfl)))))
     (bQ (cA (i:=1) qg.nd rfl (Or.inl rfl) (pv 2)))
     cC)))
   (bQ (cu (pv 1))))),?_⟩
  z5 cN ?_
  z5 cg fun R1 hR1=>?_
  z5 dI (fj ⟨_,rfl,l,xs,rfl,hl,fun k σ H'=>∃ v u,σ=[some (.ref l),some v,u]/\H'=H/\((k=0/\v=.non)\/∃ p f j,v=.ref p/\H p=some (.tup [.int f.1,.int f.2])/\j<k/\Top (fs.take k) j f),⟨_,_,rfl,rfl,.inl ⟨rfl,rfl⟩⟩,?_,?_⟩)
  .rintro k x σ' H' hk ⟨v,u,rfl,rfl,hv⟩ hx
   x5⟨p,g,rfl,hg,hp⟩:=fl.get hk
   have gb:=fb g (aC hg)
   have lk:=(aq.mp hg).1
   have gk:(fs.take (k+1))[k]?=some g:=by rw [List.getElem?_take,if_pos (by om)]; qV hg
   rcases hv with ⟨rfl,rfl⟩ | ⟨p1,f1,j,rfl,hp1,hj,tp⟩
   .refine ⟨_,rfl,rfl,true,congrArg V.bl (decide_eq_true rfl),_,rfl,hx,_,_,rfl,rfl,.inr ⟨p,g,0,rfl,hp,by decide,gk,fun g' hg'=>?_,fun i g' hi=>absurd hi (Nat.not_lt_zero _)⟩⟩
    rw [cH hg,List.take_zero,List.nil_append,List.mem_singleton] at hg'
    subst hg'
    qV Rat.le_refl
   .refine ⟨_,rfl,rfl,false,congrArg V.bl (decide_eq_false (fun z=>by cases z)),?_⟩
    have f1m:f1∈fs:=List.mem_of_mem_take (aC tp.at_)
    have fb1:=fb f1 f1m
    have iff:=acd fb1.pos gb.pos
    z5⟨_,rfl,_,rfl,p1,p,f1.1,f1.2,g.1,g.2,rfl,.of hp1,.of hp,fb1.bx,fb1.b_y,gb.bx,gb.b_y,decide (f1.1 * g.2<g.1 * f1.2),rfl,?_⟩
    by_cases hlt:f1.1 * g.2<g.1 * f1.2
    .rw [decide_eq_true hlt]
     have lt:=iff.mpr hlt
     z5⟨_,rfl,hx,_,_,rfl,rfl,.inr ⟨p,g,k,rfl,hp,by om,gk,fun g' hg'=>?_,fun i g' hi eg=>?_⟩⟩
     .rw [cH hg] at hg'
      rcases List.mem_append.mp hg' with z | z
      .exact Rat.le_of_lt (acs (tp.le g' z) lt)
      .rw [List.mem_singleton.mp z]; qV Rat.le_refl
     .rw [List.getElem?_take,if_pos (by om)] at eg
      qV acs (tp.le g' (aC (by rw [List.getElem?_take,if_pos hi]; qV eg))) lt
    .rw [decide_eq_false hlt]
     have le:vl g <= vl f1:=Rat.not_lt.mp fun z=>hlt (iff.mp z)
     have cut:∀ i:Nat,i<k->(fs.take (k+1))[i]?=(fs.take k)[i]?:=fun i hi=>by rw [List.getElem?_take,List.getElem?_take,if_pos (by om),if_pos hi]
     z5⟨hx,_,_,rfl,rfl,.inr ⟨p1,f1,j,rfl,hp1,by om,by rw [cut j hj]; qV tp.at_,fun g' hg'=>?_,fun i g' hi eg=>?_⟩⟩
     .rw [cH hg] at hg'
      rcases List.mem_append.mp hg' with z | z
      .exact tp.le g' z
      .rw [List.mem_singleton.mp z]; qV le
     .rw [cut i (by om)] at eg
      qV tp.lt i g' hi eg
  .rintro σ' H' ⟨v,u,rfl,rfl,hv⟩ hx
   subst hR1
   rcases hv with ⟨z,rfl⟩ | ⟨p1,f1,j,rfl,hp1,hj,tp⟩
   .exact ⟨_,rfl,ne (List.eq_nil_of_length_eq_zero (by rw [<- fl.length]; qV z))⟩
   .rw [fl.length,aR] at tp
    qV⟨_,rfl,q p1 f1 j hp1 tp⟩
noncomputable def uM:V->Prop | .int k=>0 <= k/\k <= 40 | _=>False
noncomputable def Jf (D:Adr):Sp:=fun vs H Q E=>∃ v,vs=[v]/\Odd H v/\(uM v->Q .non H)/\(¬ uM v->E (.ref D.NoNumber) none H)
~!GQ (F:Fun K jU jU sO f fd) (T:Txt K mg D) (cW:OkF P w K mg base 1 fL fQ gZ):cD P w K mg base (CXO P w) 2 f fd j5 (Jf D):=by
 z5 F.okX Hi ?_ ?_
 .rintro _ _ _ _ ⟨v,rfl,_⟩; rfl
 .rintro cdv A outer s H _ Q E hr ⟨v,rfl,ov,q,e⟩
  z5⟨_,(bQ (cY (PW.pt (pw_or (eF (dw (bU cW hr.md (by rfl) (bG (pv 0) bI)) (fun _=>rfl))) (pw_or1 (eF (yL BW BW bH (pv 0) (Ni (by rfl) T.acL))))))
    (bQ (qW rfl (by rfl) T.xU T.Df qZ (bG iZ bI)))
    cC)),?_⟩
  unfold gZ
  walk_at "rd"
  have no:¬ uM v->1 <= sizeLine/\E (Value.ref D.NoNumber) none H:=fun z=>⟨by decide,e z⟩
  by_cases iv:∃ k,v=.int k
  .obtain ⟨k,rfl⟩:=iv
   z5⟨_,rfl,?_⟩
   rw [if_neg (by decide)]
   z5⟨k,rfl,?_⟩
   by_cases k0:0 <= k
   .rw [if_pos (decide_eq_true k0)]
    z5⟨k,rfl,?_⟩
    by_cases k1:k <= 40
    .rw [if_neg (by simp [k1])]
     qV q ⟨k0,k1⟩
    .rw [if_pos (by simp [k1])]
     qV no fun z=>k1 z.2
   .rw [if_neg (by simp [k0])]
    qV no fun z=>k0 z.1
  .obtain ⟨t,et⟩:=ov
   z5⟨t,et,?_⟩
   rw [Y9 et fun k z=>iv ⟨k,z⟩]
   qV no fun z=>by
    cases v with
    | int k=>qV iv ⟨k,rfl⟩
    | _=>qV z
noncomputable def P_ (D:Adr):Sp:=fun vs H Q _=>∃ (v:V) (W:Int),vs=[v,.int W]/\((v=.non/\Q (.ref D.NOUGHT) H)\/∃ (p:Addr) (z y:Int),v=.ref p/\H p=some (.tup [.int z,.int y])/\0<y/\Bd z/\Bd y/\0<W/\Bd W/\Bd (y * W) /\
 ∀ r a b H',Same H H'->H r=none->H' r=some (.tup [.int a,.int b])->Low z (y * W) a b->Q (.ref r) H')
~!Ra (F:Fun K pJ pJ Af f fd) (T:Txt K mg D) (QG:OkF P w K mg base 3 zm zR JL):cD P w K mg base CX0 4 f fd pN (P_ D):=by
 z5 F.ok Pr ?_ ?_
 .rintro _ _ _ _ ⟨v,W,rfl,_⟩; rfl
 .rintro cdv A outer s H _ Q E hr ⟨v,W,rfl,c⟩
  z5⟨_,(bQ (cu (yh (cL Xm (pv 0) vI (cM _)) (gY (by rfl) T.qM) (bU QG hr.md (by rfl) (bG (pv 0) (bG (dB (bG (pv 1) (bG bH bI))) bI)))))),?_⟩
  rcases c with ⟨rfl,q⟩ | ⟨p,z,y,rfl,hp,y0,bz,b_y,w0,bW,byW,q⟩
  .exact fY ⟨_,rfl,rfl,true,congrArg V.bl (decide_eq_true rfl),q⟩
  .refine fY ⟨_,rfl,rfl,false,congrArg V.bl (decide_eq_false (fun z=>by cases z)),_,rfl,_,rfl,dW,fun r1 H1 S1 f1 h1=>⟨p,r1,z,y,W,1,rfl,S1 _ _ hp,h1,bz,b_y,bW,Bd.sm (by decide),y0,w0,byW,fun r a b H2 S2 f2 h2 l=>?_⟩⟩
   rw [Int.mul_one] at l
   qV q r a b H2 (S1.trans S2) (Same.free S1 f2) h2 l
~!mU {α:Type}{l:List α}{a b:α}{k:Nat} (h:(l++[a])[k]?=some b):(k<l.length/\l[k]?=some b)\/(k=l.length/\b=a):=by
 by_cases hk:k<l.length
 .rw [aF hk] at h
  qV .inl ⟨hk,h⟩
 .have hl:=(aq.mp h).1
  rw [aB,List.length_cons,List.length_nil] at hl
  have e:k=l.length:=by om
  subst e
  rw [aD (aG _),Nat.sub_self] at h
  cases h
  qV .inr ⟨rfl,rfl⟩
~!zW {as:List Addr}{H:Hp}{a:Addr}{u:HO} (h:a∈as):del as (upd H a u)=del as H:=by
 funext b
 unfold del
 split
 .rfl
 .rename_i hb
  qV bM fun z=>hb (z ▸ h)
~!S_ {fs:List (Int×Int)}{f:Int×Int} (hf:f∈fs) (h0:0<f.2):f.2 ∣ (lvB fs:Nat):=by
 have h1:f.2.natAbs ∣ lvB fs:=Lv.Gh (List.mem_map.mpr ⟨f,hf,rfl⟩)
 have:=Int.natCast_dvd_natCast.mpr h1
 rwa [Int.natAbs_of_nonneg (Int.le_of_lt h0)] at this
~!ac9 {fs:List (Int×Int)} (fz:∀ f∈fs,Fz f) {r:Nat} (lr:r<fs.length):((lvT fs).getD r 0:Rat)=(((lvB fs:Nat):Int):Rat) * wq fs r:=by
 have e:fs[r]?=some fs[r]:=aj lr
 have q:=fz _ (aX lr)
 unfold wq lvT
 rw [aA,aA,au,e]
 show ((fs[r].1 * (((lvB fs:Nat):Int) / fs[r].2):Int):Rat)=(((lvB fs:Nat):Int):Rat) * vl fs[r]
 x5⟨d,ed⟩:=S_ (aX lr) q.pos
 have:=fB q.pos
 have e2:((lvB fs:Nat):Int) / fs[r].2=d:=by rw [ed,Int.mul_ediv_cancel_left _ (Int.ne_of_gt q.pos)]
 rw [e2,ed,Rat.intCast_mul,Rat.intCast_mul]
 unfold vl
 grind
structure adF (fs:List (Int×Int)):Prop where
 fz:∀ f∈fs,Fz f
 few:fs.length <= 12
 lv:Bn 480 (lvB fs:Nat)
 tops:∀ x∈lvT fs,Bn 640 x
structure Gb (K:Frag) (D:Adr) (H:Hp) (o:Addr) (s:Int×Int) (fcss:List (List ((Int×Int)×List (Nat×Int×Int)))):Prop where
 ex:∃ (p:Addr) (rms:List (Str×List Dr)),kE D H o p rms/\ac2 rms/\(rms.map (·.1)).Nodup/\H p=some (.tup [.int s.1,.int s.2])/\fcss.length=rms.length/\∀ (k:Nat) g fcs,rms[k]?=some g->fcss[k]?=some fcs->Ve K H (rms.map (·.1)) fcss.length g.2 fcs
 s0:0<s.2
 b1:Bn 40 s.1
 b2:Bn 40 s.2
 n12:fcss.length <= 12
~!Ve.same {H H':Hp}{ns:List Str}{n:Nat}{gs:List Dr}{fcs:List ((Int×Int)×List (Nat×Int×Int))} (S:Same H H') (h:Ve K H ns n gs fcs):Ve K H' ns n gs fcs:=⟨h.len,fun k d fc e1 e2=>⟨(h.at_ k d fc e1 e2).1.same S,(h.at_ k d fc e1 e2).2⟩⟩
~!Gb.same {H H':Hp}{o:Addr}{s:Int×Int}{fcss:List (List ((Int×Int)×List (Nat×Int×Int)))} (S:Same H H') (h:Gb K D H o s fcss):Gb K D H' o s fcss:=by
 x5⟨p,rms,a,b,c,d,e,f⟩:=h.ex
 qV⟨⟨p,rms,a.same S,b,c,S _ _ d,e,fun k g fcs e1 e2=>(f k g fcs e1 e2).same S⟩,h.s0,h.b1,h.b2,h.n12⟩
structure Rds (K:Frag) (H:Hp) (ls:List Addr) (fss:List (List (Int×Int))):Prop where
 len:ls.length=fss.length
 nd:ls.Nodup
 at_:∀ (k:Nat) l fs,ls[k]?=some l->fss[k]?=some fs->∃ zs,H l=some (.lst zs)/\FLK K H zs fs
~!Rds.same {H H':Hp}{ls:List Addr}{fss:List (List (Int×Int))} (S:Same H H') (h:Rds K H ls fss):Rds K H' ls fss:=⟨h.len,h.nd,fun k l fs e1 e2=>by
 x5⟨zs,a,b⟩:=h.at_ k l fs e1 e2
 qV⟨zs,S _ _ a,b.same S⟩⟩
~!Rds.off {H:Hp}{ls:List Addr}{fss:List (List (Int×Int))}{t:Addr}{ys zs:List V} (h:Rds K H ls fss) (ht:H t=some (.lst ys)) (n:t ∉ ls):Rds K (upd H t (.lst zs)) ls fss:=⟨h.len,h.nd,fun k l fs e1 e2=>by
 x5⟨zs,a,b⟩:=h.at_ k l fs e1 e2
 qV⟨zs,(bM fun z=>n (by rw [<- z]; qV aC e1)).trans a,b.updL ht⟩⟩
~!Rds.snoc {H:Hp}{ls:List Addr}{fss:List (List (Int×Int))}{l:Addr}{zs:List V}{fs:List (Int×Int)} (h:Rds K H ls fss) (n:l ∉ ls) (hl:H l=some (.lst zs)) (fl:FLK K H zs fs):Rds K H (ls++[l]) (fss++[fs]):=by
 z5⟨by rw [aB,aB,h.len]; rfl,?_,fun k l' fs' e1 e2=>?_⟩
 .rw [List.nodup_append]
  z5⟨h.nd,by simp,fun a ha b hb z=>?_⟩
  rw [List.mem_singleton.mp hb] at z
  qV n (z ▸ ha)
 .have ll:=h.len
  rcases mU e1 with ⟨a1,a2⟩ | ⟨a1,a2⟩ <;> rcases mU e2 with ⟨c1,c2⟩ | ⟨c1,c2⟩
  .exact h.at_ k l' fs' a2 c2
  .om
  .om
  .subst a2; subst c2; qV⟨zs,hl,fl⟩
structure rQ (N:List (Int×Int)->List (Int×Int)->Prop) (fs0:List (Int×Int)) (L:Nat) (fss:List (List (Int×Int))):Prop where
 first:fss[0]?=some fs0
 next:∀ (k:Nat) fs gs,fss[k]?=some fs->fss[k+1]?=some gs->N fs gs
 ok:∀ (k:Nat) fs,fss[k]?=some fs->zu L k fs/\fs.length=fs0.length
structure aco (s:Int×Int) (fcss:List (List ((Int×Int)×List (Nat×Int×Int)))) (L:Nat):Prop where
 s0:0 <= s.1
 s1:s.1 <= s.2
 s2:0<s.2
 L0:0<L
 d:∀ fcs∈fcss,∀ fc∈fcs,Io s L fc
~!zu.bd {L k m:Nat}{fs:List (Int×Int)} (h:zu L k fs) (L0:0<L) (hk:k <= m) (m40:m <= 40) (hm:L ^ m <= 10 ^ 480) (few:fs.length <= 12):adF fs:=by
 have le:L ^ k <= 10 ^ 480:=aN (Nat.pow_le_pow_right L0 hk) hm
 have p0:0<L ^ k:=Nat.pow_pos L0
 have f42:42 ^ k <= 10 ^ 66:=aN (Nat.pow_le_pow_right (by decide) (aN hk m40)) (by decide +kernel)
 have fz0:∀ f∈fs,f.2.natAbs <= 10 ^ 480/\f.2.natAbs ∣ L ^ k:=fun f hf=>by
  x5⟨a,b,c,d⟩:=h f hf
  have c':f.2.natAbs ∣ L ^ k:=by
   have:=Int.natAbs_dvd_natAbs.mpr c
   rwa [Int.natAbs_natCast] at this
  qV⟨aN (Nat.le_of_dvd p0 c') le,c'⟩
 have top:∀ f∈fs,f.1.natAbs <= 10 ^ 96 * f.2.natAbs:=fun f hf=>by
  x5⟨a,b,c,d⟩:=h f hf
  z5 aN d (Nat.mul_le_mul_right _ ?_)
  have:(10:Nat) ^ 30 * 42 ^ k <= 10 ^ 30 * 10 ^ 66:=Nat.mul_le_mul_left _ f42
  rw [<- Nat.pow_add] at this
  qV this
 have fz:∀ f∈fs,Fz f:=fun f hf=>by
  x5⟨a,b,c,d⟩:=h f hf
  x5⟨e,_⟩:=fz0 f hf
  have b2:Bn 480 f.2:=e
  have b1:Bn 576 f.1:=aN (top f hf) (by
   have:(10:Nat) ^ 96 * f.2.natAbs <= 10 ^ 96 * 10 ^ 480:=Nat.mul_le_mul_left _ e
   rw [<- Nat.pow_add] at this
   qV this)
  qV⟨a,b1.bd (by decide),b2.bd (by decide)⟩
 have lv:lvB fs ∣ L ^ k:=Lv.yU.mpr fun c hc=>by
  x5⟨f,hf,rfl⟩:=List.mem_map.mp hc
  qV(fz0 f hf).2
 have lvl:lvB fs <= 10 ^ 480:=aN (Nat.le_of_dvd p0 lv) le
 z5⟨fz,few,by unfold Bn; rw [Int.natAbs_natCast]; qV lvl,fun x hx=>?_⟩
 x5⟨f,hf,rfl⟩:=List.mem_map.mp hx
 have dv:=S_ hf (fz f hf).pos
 x5⟨q,eq⟩:=dv
 have p:=(fz f hf).pos
 have e2:((lvB fs:Nat):Int) / f.2=q:=by rw [eq,Int.mul_ediv_cancel_left _ (Int.ne_of_gt p)]
 show Bn 640 (f.1 * (((lvB fs:Nat):Int) / f.2))
 rw [e2]
 have h1:f.1.natAbs * q.natAbs <= 10 ^ 96 * f.2.natAbs * q.natAbs:=Nat.mul_le_mul_right _ (top f hf)
 have h2:f.2.natAbs * q.natAbs=lvB fs:=by
  have:=congrArg Int.natAbs eq
  rw [Int.natAbs_natCast,Int.natAbs_mul] at this
  qV this.symm
 rw [Nat.mul_assoc,h2] at h1
 have h3:(10:Nat) ^ 96 * lvB fs <= 10 ^ 96 * 10 ^ 480:=Nat.mul_le_mul_left _ lvl
 rw [<- Nat.pow_add] at h3
 unfold Bn
 rw [Int.natAbs_mul]
 qV aN h1 (aN h3 (Nat.pow_le_pow_right (by decide) (by decide)))
structure af4 (I:Hp->Prop) (N:List (Int×Int)->List (Int×Int)->Prop) (n L:Nat):Prop where
 same:∀ H H',Same H H'->I H->I H'
 ok:∀ k fs gs,zu L k fs->fs.length=n->N fs gs->zu L (k+1) gs/\gs.length=n
noncomputable def Vr (K:Frag) (I:Hp->Prop) (N:List (Int×Int)->List (Int×Int)->Prop) (n:Nat):Sp:=fun vs H Q _=>∃ (la:Addr) (xs:List V) (fs:List (Int×Int)),vs=[.ref la]/\I H/\H la=some (.lst xs)/\FLK K H xs fs/\adF fs/\fs.length=n /\
 ∀ r H' zs gs,Same H H'->H r=none->H' r=some (.lst zs)->FLK K H' zs gs->N fs gs->Q (.ref r) H'
noncomputable def Ek (K:Frag) (spF:Sp) (f:Addr):Sp:=fun vs H Q _=>∃ (l0:Addr) (many L:Nat) (fs0:List (Int×Int)) (I:Hp->Prop) (N:List (Int×Int)->List (Int×Int)->Prop) (xs0:List V),vs=[.ref l0,.int many,.ref f]/\many <= 40/\I H/\af4 I N fs0.length L/\(∀ vs H Q E,Vr K I N fs0.length vs H Q E->spF vs H Q E)/\0<L/\L ^ many <= 10 ^ 480/\fs0.length <= 12/\zu L 0 fs0/\H l0=some (.lst xs0)/\FLK K H xs0 fs0 /\
 ∀ t ls fss H',Same H H'->H t=none->(∀ l∈ls,H l=none)->t ∉ l0::ls->H' t=some (.lst ((l0::ls).map V.ref))->Rds K H' (l0::ls) fss->fss.length=many+1->rQ N fs0 L fss->Q (.ref t) H'
~!M6 {n:Nat} (h:1 <= n):ixN n (-1)=some (n - 1):=by
 unfold ixN
 rw [if_neg (by om),if_pos (by om)]
 congr 1
 om
~!NK {xs:List V}{x:V} : atI (xs++[x]) (-1)=some x:=by
 unfold atI
 rw [aB,List.length_singleton,M6 (by om)]
 show (xs++[x])[xs.length+1 - 1]?=some x
 rw [Nat.add_sub_cancel,aD (aG _),Nat.sub_self]; rfl
~!Aq {fr fo:Addr}{fd:FuncData}{spF:Sp} (F:Fun K m9 m9 oF fr fd) (T:Txt K mg D) (YC:OkL P w K mg base 6 fo ["ahead"] spF):cD P w K mg base CX0 7 fr fd nA (Ek K spF fo):=by
 z5 F.ok rA ?_ ?_
 .rintro _ _ _ _ ⟨l0,many,L,fs0,I,N,xs0,rfl,_⟩; rfl
 .rintro cdv A outer s H _ Q E hr ⟨l0,many,L,fs0,I,N,xs0,rfl,m40,hI,st,imp,L0,hm,n12,r0,hl0,fl0,q⟩
  have z9:101<sizeLine:=by decide
  z5⟨_,(bN (cA (i:=3) rA.nd rfl (Or.inl rfl) (eY (bG (pv 0) bI)))
   (bN (Gm PassesOwn.never (cL BW (cB eN (by rfl) T.lF PySem.boot_len (bG (pv 3) bI)) (pv 1) (cM _))
    (bQ (dh (tH (pv 3) (bG (Y0 YC hr.md (pv 2) (bG (bZ bY (pv 3) (FJ xQ bH) (fun _ _=>rfl)) bI)) bI)))))
   (bQ (cu (pv 3))))),?_⟩
  z5 cN ⟨_,rfl,M7,fun t H1 S1 f1 h1=>?_⟩
  dsimp only [cU,L2.start]
  have nt0:t≠l0:=(bL hl0 f1).symm
  z5 cg fun R1 hR1=>?_
  z5 dI ⟨fun m σ H'=>∃ (ls:List Addr) (fss:List (List (Int×Int))),m=many+1 - fss.length/\σ=[some (.ref l0),some (.int many),some (.ref fo),some (.ref t)]/\Same H H'/\(∀ l∈ls,H l=none)/\t ∉ l0::ls/\H' t=some (.lst ((l0::ls).map V.ref))/\Rds K H' (l0::ls) fss/\fss.length <= many+1/\rQ N fs0 L fss,⟨many,[],[fs0],by simp,rfl,S1,by simp,by simpa using nt0,h1,⟨rfl,by simp,fun k l fs e1 e2=>?_⟩,by simp,⟨rfl,fun k fs gs _ e=>by simp at e,fun k fs e=>?_⟩⟩,?_⟩
  .have k0:k=0:=by have:=(aq.mp e1).1; simp at this; qV this
   subst k0
   cases e1
   cases e2
   qV⟨xs0,S1 _ _ hl0,fl0.same S1⟩
  .have k0:k=0:=by have:=(aq.mp e).1; simp at this; qV this
   subst k0
   cases e
   qV⟨r0,rfl⟩
  .rintro m σ H' ⟨ls,fss,rfl,rfl,S,new,nt,ht,rd,le,ro⟩
   have ll:=rd.len
   z5⟨_,rfl,t,_,rfl,ht,_,rfl,_,_,rfl,rfl,decide (fss.length <= many),?_,?_⟩
   .refine congrArg V.bl (decide_eq_decide.mpr ?_)
    rw [ao,ll]
    om
   by_cases c:fss.length <= many
   .rw [decide_eq_true c]
    have f0:0<fss.length:=by rw [<- ll]; simp
    obtain ⟨lx,la,el,ela⟩ : ∃ lx la,l0::ls=lx++[la]/\(l0::ls)[fss.length - 1]?=some la:=by
     have:(l0::ls)≠[]:=by simp
     z5⟨(l0::ls).dropLast,(l0::ls).getLast this,(List.dropLast_concat_getLast this).symm,?_⟩
     rw [<- ll,<- List.getLast?_eq_getElem?,List.getLast?_eq_some_getLast this]
    have ef:fss[fss.length - 1]?=some (fss[fss.length - 1]'(by om)):=aj _
    x5⟨zs,hz,flz⟩:=rd.at_ _ la _ ela ef
    x5⟨rok,rl⟩:=ro.ok _ _ ef
    have rb:=rok.bd L0 (m:=many) (by om) m40 hm (by om)
    generalize fss[fss.length - 1]'(by om)=fs at *
    have aL:atI ((l0::ls).map V.ref) (-1)=some (.ref la):=by rw [el,bD]; qV NK
    z5⟨fun σ' H''=>∃ (ls':List Addr) (fss':List (List (Int×Int))),fss'.length=fss.length+1/\σ'=[some (.ref l0),some (.int many),some (.ref fo),some (.ref t)]/\Same H H''/\(∀ l∈ls',H l=none)/\t ∉ l0::ls'/\H'' t=some (.lst ((l0::ls').map V.ref))/\Rds K H'' (l0::ls') fss'/\rQ N fs0 L fss',?_,?_⟩
    .rintro σ' H'' ⟨ls',fss',a1,a2,a3,a4,a5,a6,a7,a8⟩
     qV⟨_,(by om),ls',fss',rfl,a2,a3,a4,a5,a6,a7,by om,a8⟩
    z5⟨_,rfl,t,_,rfl,ht,_,rfl,rfl,_,rfl,1,rfl,t,_,_,_,rfl,rfl,ht,aL,imp _ _ _ _ ⟨la,zs,fs,rfl,st.same _ _ S hI,hz,flz,rb,rl,fun r H3 ys gs S3 f3 h3 fl3 nx=>?_⟩⟩
    have ht3:=S3 _ _ ht
    have nrl:r ∉ l0::ls:=fun z=>by
     x5⟨k,hk⟩:=aY z
     have lk:k<fss.length:=by rw [<- ll]; qV(aq.mp hk).1
     x5⟨zs',a,_⟩:=rd.at_ k r _ hk (aj lk)
     rw [f3] at a; cases a
    have nrt:t≠r:=bL ht f3
    have ntt:t ∉ l0::(ls++[r]):=fun z=>by
     rw [<- List.cons_append] at z
     rcases List.mem_append.mp z with z | z
     .exact nt z
     .exact nrt (List.mem_singleton.mp z)
    z5⟨_,_,rfl,ht3,by rw [ao,ll]; om,ls++[r],fss++[gs],by simp,rfl,fun b u e=>(bM (bL e f1)).trans (S3 _ _ (S _ _ e)),fun l hl=>?_,ntt,by rw [bK,<- List.cons_append,bD]; rfl,?_,?_⟩
    .rcases List.mem_append.mp hl with hl | hl
     .exact new l hl
     .rw [List.mem_singleton.mp hl]; qV Same.free S f3
    .rw [<- List.cons_append]
     z5 Rds.off ((rd.same S3).snoc nrl h3 fl3) ht3 ?_
     rw [List.cons_append]; qV ntt
    .refine ⟨by rw [aF f0]; qV ro.first,fun k fs' gs' e1 e2=>?_,fun k fs' e=>?_⟩
     .rcases mU e2 with ⟨c1,c2⟩ | ⟨c1,c2⟩
      .rw [aF (by om)] at e1
       qV ro.next k fs' gs' e1 c2
      .rw [aF (by om)] at e1
       have:k=fss.length - 1:=by om
       rw [this,ef] at e1
       cases e1
       subst c2
       qV nx
     .rcases mU e with ⟨c1,c2⟩ | ⟨c1,c2⟩
      .exact ro.ok k fs' c2
      .subst c2
       have:=st.ok _ _ _ rok rl nx
       rw [show fss.length - 1+1=k by om] at this
       qV this
   .rw [decide_eq_false c]
    show R1 _ _ _
    subst hR1
    qV⟨_,rfl,q t ls fss H' S f1 new nt ht rd (by om) ro⟩
noncomputable def oE (fs:List (Int×Int)) (fcs:List ((Int×Int)×List (Nat×Int×Int))):List Rat:=fcs.map fun fc=>iG fc.2 (wq fs)
noncomputable def qK (K:Frag) (D:Adr):Sp:=fun vs H Q _=>∃ (o m la:Addr) (s:Int×Int) (gl:List Nat) (xs:List V) (fs:List (Int×Int)) (fcss:List (List ((Int×Int)×List (Nat×Int×Int)))),vs=[.ref o,.ref m,.ref la]/\Gb K D H o s fcss/\H m=some (.lst ((d9 fcss.length gl).map V.bl))/\H la=some (.lst xs)/\FLK K H xs fs/\adF fs/\fs.length=fcss.length /\
 ∀ r H' zs gs,Same H H'->H r=none->H' r=some (.lst zs)->FLK K H' zs gs->tu gl fcss fs gs->Q (.ref r) H'
~!U7 {t:TS}{R:Ends}{σ:L2.St}{H:Hp} (h:∀ R',R'=R->t R' σ H):t R σ H:=h R rfl
~!Ht (F:Fun K iR iR o9 f fd) (T:Txt K mg D) (oZ:OkF P w K mg base 2 iK jr (Aj K)) (qz:OkF P w K mg base 3 jt jq (Az K)) (xG:OkF P w K mg base 2 ou oh Ds) (Ai:OkF P w K mg base 4 pJ pN (P_ D)) (qp:OkI P w K mg base CX0 3 D.Hall_offers jF (pF D)):cD P w K mg base CX0 5 f fd iU (qK K D):=by
 z5 F.ok gH ?_ ?_
 .rintro _ _ _ _ ⟨o,m,la,s,gl,xs,fs,fcss,rfl,_⟩; rfl
 .rintro cdv A outer s H _ Q E hr ⟨o,m,la,sh,gl,xs,fs,fcss,rfl,hn,hmk,hla,fl,rb,fn,q⟩
  x5⟨p,rms,hh,few,nd,hp,fcl,dn⟩:=hn.ex
  have n12:=hn.n12
  have hI:=hh
  x5⟨dx,nn,ll,zs0,ho,_,_,_⟩:=hI
  have z9:101<sizeLine:=by decide
  z5⟨_,(bN (cA (i:=3) gH.nd rfl (Or.inr rfl) (bU oZ hr.md (by rfl) (bG (pv 2) bI)))
   (bN (cA (i:=4) gH.nd rfl (Or.inl rfl) (eY bI))
   (bN (iD PassesOwn.never rfl (ab7 (by rfl) T.Ox (bG (pv 1) bI).mono) (gR (n:=2) rfl (cF (cG (i:=5) gH.nd rfl (Or.inl rfl)) (cF (cG (i:=6) gH.nd rfl (Or.inl rfl)) gC)))
    (bN (cA (i:=7) gH.nd rfl (Or.inl rfl) (yh (dw (pv 6) (fun _=>rfl)) (eY bI) (PE.any fun C (hC:iz D C)=>(Fv (pv 0) (T.cl C hC.fam) (T.Fw C hC) qp hr.md (bG (pv 5) bI)))))
    (bN (cA (i:=8) gH.nd rfl (Or.inl rfl) (bU xG hr.md (by rfl) (bG (jy (bO o9) rK rK ["offer"] (cV ((pv 7)).mono) (eV (i:=0)) c7 (bU qz hr.md (by rfl) (bG (pv 0) (bG (bZ dX (pv 4) bH (fun _ _=>rfl)) bI)))) bI)))
    (bQ (dh (tH (pv 4) (bG (yh (dw (pv 6) (fun _=>rfl)) (gY (by rfl) T.El) (bU Ai hr.md (by rfl) (bG (pv 8) (bG (bZ dX (pv 3) bH (fun _ _=>rfl)) bI)))) bI)))))))
   (bQ (cu (pv 4)))))),?_⟩
  z5 cg fun R1 hR1=>?_
  z5 cN ⟨_,rfl,la,xs,fs,rfl,hla,fl,rb.fz,by have:=rb.few; om,rb.lv.bd (by decide),fun D2 p2 f2 g2=>?_⟩
  have S2:Same H (upd (upd H D2 (.lst ((lvT fs).map V.int))) p2 (.tup [.ref D2,.int (lvB fs:Nat)])):=(Same.upd f2).trans (Same.upd g2)
  have k1:=Same.upd g2 (o:=.tup [.ref D2,.int (lvB fs:Nat)]) _ _ (bK (H:=H) (a:=D2) (o:=.lst ((lvT fs).map V.int)))
  have k2:upd (upd H D2 (.lst ((lvT fs).map V.int))) p2 (.tup [.ref D2,.int (lvB fs:Nat)]) p2=_:=bK
  generalize upd (upd H D2 (.lst ((lvT fs).map V.int))) p2 (.tup [.ref D2,.int (lvB fs:Nat)])=H2 at S2 k1 k2 ⊢
  have W0:(0:Int)<(lvB fs:Nat):=by have:=KC rb.fz; om
  have bW:=rb.lv
  have bT:=rb.tops
  have lT:(lvT fs).length=fs.length:=by unfold lvT; rw [ao]
  have vT:∀ r,r<fs.length->((lvT fs).getD r 0:Rat)=(((lvB fs:Nat):Int):Rat) * wq fs r:=fun r lr=>ac9 rb.fz lr
  generalize hW:((lvB fs:Nat):Int)=W at *
  generalize lvT fs=Ts at *
  have WR:(0:Rat)<(W:Rat):=Rat.intCast_pos.mpr W0
  subst hR1
  dsimp only [cU,L2.start]
  z5 cg fun R1 hR1=>?_
  z5 cN ⟨bC _,fun tl H3 S3 f3 h3=>?_⟩
  subst hR1
  dsimp only [cU,L2.start]
  z5 cg fun R1 hR1=>?_
  have ml:((d9 fcss.length gl).map V.bl).length=fcss.length:=by rw [ao,lM]
  z5 dI (QK ⟨_,rfl,m,_,rfl,S3 _ _ (S2 _ _ hmk),fun k σ H'=>∃ u5 u6 u7 u8 zs gs,σ=[some (.ref o),some (.ref m),some (.ref la),some (.ref p2),some (.ref tl),u5,u6,u7,u8]/\Same H2 H'/\H' tl=some (.lst zs)/\FLK K H' zs gs/\tu gl (fcss.take k) fs gs,⟨none,none,none,none,[],[],rfl,S3,h3,.nil,?_⟩,?_,?_⟩)
  .exact ⟨rfl,fun k fcs g e=>by simp at e⟩
  .rintro k x σ' H' t hk ⟨u5,u6,u7,u8,zs,gs,rfl,S,htl,flg,nx⟩ hm' ht
   have Sq:Same H' (upd H' t (.tup [.int k,x])):=Same.upd ht
   have eq:upd H' t (.tup [.int k,x]) t=some (.tup [.int k,x]):=bK
   generalize upd H' t (.tup [.int k,x])=H1 at Sq eq ⊢
   have lk:k<fcss.length:=by rw [<- ml]; qV(aq.mp hk).1
   obtain rfl:x=.bl (decide (k∈gl)):=by
    unfold d9 at hk
    rw [au,au,List.getElem?_range lk] at hk
    qV(Option.some.inj hk).symm
   have eg:rms[k]?=some (rms[k]'(by om)):=aj _
   have gm:=aX (l:=rms) (n:=k) (by om)
   have ef:fcss[k]?=some fcss[k]:=aj lk
   have dn:=dn k _ _ eg ef
   have gf:=few.few _ gm
   have gw:=few.ways _ gm
   generalize rms[k]'(by om)=g at *
   generalize fcss[k]=fcs at *
   have S21:=S.trans Sq
   have SH:=S2.trans S21
   have zl:zs.length=k:=by rw [flg.length,nx.1,bA]; om
   z5⟨t,_,rfl,eq,rfl,_,_,rfl,_,_,rfl,rfl,?_⟩
   dsimp only [cU,List.set_cons_succ,List.set_cons_zero]
   z5 U7 fun DE hDE=>?_
   z5 cg fun R2 hR2=>?_
   have rest:∀ (lo:Addr) (os:List V) (fcs':List ((Int×Int)×List (Nat×Int×Int))) (H4:Hp),Same H1 H4->H4 lo=some (.lst os)->os.length=fcs'.length->os.length <= 100->(∀ (j:Nat) (fc:(Int×Int)×List (Nat×Int×Int)),fcs'[j]?=some fc->BJ fcss.length fc.1 fc.2/\∃ tt,os[j]?=some (.ref tt)/\Vm K H4 tt fc.1 fc.2)->(k ∉ gl->fcs'=fcs)->R2 DE [some (.ref o),some (.ref m),some (.ref la),some (.ref p2),some (.ref tl),some (.int k),some (.bl (decide (k∈gl))),some (.ref lo),u8] H4:=by
    intro lo os fcs' H4 S4 h4 ol o100 ofs efc
    subst hR2
    z5 cg fun R3 hR3=>?_
    have S24:=S21.trans S4
    have htl:=S4 _ _ (Sq _ _ htl)
    z5 cN (Zi (dR ⟨_,rfl,lo,os,rfl,h4,by om,fun D3 g3=>⟨fun j ys Hc=>Same H4 Hc/\Hc D3=some (.lst ys)/\∃ qs,FL (del [D3] Hc) ys qs/\qs.length=j/\(∀ f∈qs,Fb f/\Bn 140 f.2)/\qs.map vl=((oE fs fcs').take j).map (· * (W:Rat)),⟨Same.upd g3,bK,[],.nil,rfl,by simp,rfl⟩,?_,?_⟩⟩))
    .rintro j y ys Hc hj ⟨S5,h5,qs,fl5,ql5,fb5,v5⟩ _ ha
     have lj:j<fcs'.length:=by rw [<- ol]; qV(aq.mp hj).1
     have ec:fcs'[j]?=some fcs'[j]:=aj lj
     x5⟨dF,tt,et,oN⟩:=ofs j _ ec
     generalize fcs'[j]=fc at ec dF oN
     rw [hj] at et
     cases et
     have S25:=S24.trans S5
     have fq:=dF.fq
     z5⟨_,rfl,_,rfl,p2,_,0,_,rfl,rfl,S25 _ _ k2,d8,tt,D2,fc.1,fc.2,Ts,rfl,oN.same S5,S25 _ _ k1,dF.few,fun c hc=>⟨by rw [lT,fn]; qV(dF.ch c hc).1,(dF.ch c hc).2⟩,fun x hx=>(bT x hx).bd (by decide),fun r7 z7 o7 H7 S7 f7 h7 l7=>?_⟩
     have v7:=abJ fq l7
     have bz:Bn 742 z7:=(abX (a:=100) (b:=640) dF.tops bT (by have:=dF.few; om)).lx l7
     have b_y:Bn 60 o7:=dF.lv.ly l7
     have y0:=l7.pos
     have n7:r7 ∉ [D3]:=by
      simp only [List.mem_singleton]
      qV(bL h5 f7).symm
     z5⟨S7 _ _ h5,S7 _ _ ha,fun b u e=>(bM (bL e g3)).trans (S7 _ _ (S5 _ _ e)),bK,qs++[(z7,o7)],?_,by rw [aB,ql5]; rfl,fun f hf=>?_,?_⟩
     .rw [zW (List.mem_singleton.mpr rfl)]
      qV(fl5.same (uf fun b o _ e=>S7 _ _ e)).append (.cons (jc n7 h7) .nil)
     .rcases List.mem_append.mp hf with hf | hf
      .exact fb5 f hf
      .rw [List.mem_singleton.mp hf]
       qV⟨⟨y0,bz.bd (by decide),b_y.bd (by decide)⟩,b_y.up (by decide)⟩
     .have eq:(oE fs fcs')[j]?=some (iG fc.2 (wq fs)):=by unfold oE; rw [au,ec]; rfl
      rw [cH eq,bD,bD,v5]
      congr 1
      show [vl (z7,o7)]=[iG fc.2 (wq fs) * (W:Rat)]
      rw [v7,Ul (W:=(W:Rat)) (h:=wq fs) fun c hc=>vT c.1 (by rw [fn]; qV(dF.ch c hc).1),Rat.mul_comm]
    .rintro ys Hc ⟨S5,h5,qs,fl5,ql5,fb5,v5⟩ hy
     have lq:(oE fs fcs').length=fcs'.length:=by unfold oE; rw [ao]
     rw [ol,<- lq,aR] at v5
     rw [ol] at ql5
     have S25:=S24.trans S5
     have htl:=S5 _ _ htl
     have hm5:=S5 _ _ (S4 _ _ (Sq _ _ hm'))
     have tlm:m≠tl:=bL (S2 _ _ hmk) f3
     have fin:∀ (mv:V) (pv:Addr) (gv:Int×Int) (H7:Hp),Same Hc H7->SqT K H7 pv [.int gv.1,.int gv.2]->(0<gv.2/\Int.gcd gv.1 gv.2=1/\(k∈gl->gv=(1,1))/\(k ∉ gl->(fcs=[]->gv=(0,1))/\(fcs≠[]->∃ fc∈fcs,vl gv=iG fc.2 (wq fs))/\∀ fc∈fcs,iG fc.2 (wq fs) <= vl gv))->upd H7 tl (.lst (zs++[.ref pv])) m=some (.lst ((d9 fcss.length gl).map V.bl))/\∃ u5 u6 u7 u8 zs' gs',[some (V.ref o),some (.ref m),some (.ref la),some (.ref p2),some (.ref tl),some (.int (k:Nat)),some (.bl (decide (k∈gl))),some (.ref lo),some mv]=[some (V.ref o),some (.ref m),some (.ref la),some (.ref p2),some (.ref tl),u5,u6,u7,u8]/\Same H2 (upd H7 tl (.lst (zs++[.ref pv])))/\upd H7 tl (.lst (zs++[.ref pv])) tl=some (.lst zs')/\FLK K (upd H7 tl (.lst (zs++[.ref pv]))) zs' gs'/\tu gl (fcss.take (k+1)) fs gs':=by
      intro mv pv gv H7 S7 hv cv
      z5⟨(bM tlm).trans (S7 _ _ hm5),_,_,_,_,zs++[.ref pv],gs++[gv],rfl,fun b u e=>(bM (bL e f3)).trans (S7 _ _ (S25 _ _ e)),bK,?_,?_⟩
      .exact ((flg.same (Sq.trans (S4.trans (S5.trans S7)))).append (.cons hv .nil)).updL (S7 _ _ htl)
      .rw [cH ef]
       z5⟨by rw [aB,aB,nx.1]; rfl,fun i fcs' g' e1 e2=>?_⟩
       have tk:(fcss.take k).length=k:=by rw [bA]; om
       rcases mU e1 with ⟨a1,a2⟩ | ⟨a1,a2⟩ <;> rcases mU e2 with ⟨c1,c2⟩ | ⟨c1,c2⟩
       .exact nx.2 i fcs' g' a2 c2
       .have:=nx.1; om
       .have:=nx.1; om
       .subst a2; subst c2; rw [a1,tk]; qV cv
     subst hR3
     subst hDE
     dsimp only [cU,List.set_cons_succ,List.set_cons_zero]
     have r20:=few.len
     z5⟨D3,ys,qs,rfl,h5,fl5.same vH,fun f hf=>(fb5 f hf).1,fun e0=>?_,fun pg fg jg hpg tp=>?_⟩
     .refine ⟨_,rfl,tl,_,rfl,htl,_,rfl,decide (k∈gl),rfl,?_⟩
      by_cases kg:k∈gl
      .rw [decide_eq_true kg] at fin ⊢
       qV⟨_,_,rfl,htl,by om,fin .non D.ONE (1,1) Hc (fun _ _ z=>z) (T.uW _) ⟨by decide,by decide,fun _=>rfl,fun z=>absurd kg z⟩⟩
      .rw [decide_eq_false kg] at fin ⊢
       have ef0:fcs=[]:=by rw [<- efc kg]; qV List.eq_nil_of_length_eq_zero (by rw [<- ql5,e0]; rfl)
       qV⟨_,rfl,_,rfl,p2,_,1,_,rfl,rfl,S25 _ _ k2,dD,.non,W,rfl,.inl ⟨rfl,_,_,rfl,htl,by om,fin .non D.NOUGHT (0,1) Hc (fun _ _ z=>z) (T.pA _) ⟨by decide,by decide,fun z=>absurd z kg,fun _=>⟨fun _=>rfl,fun z=>absurd ef0 z,fun fc hf=>by rw [ef0] at hf; cases hf⟩⟩⟩⟩
     .refine ⟨_,rfl,tl,_,rfl,htl,_,rfl,decide (k∈gl),rfl,?_⟩
      by_cases kg:k∈gl
      .rw [decide_eq_true kg] at fin ⊢
       qV⟨_,_,rfl,htl,by om,fin (.ref pg) D.ONE (1,1) Hc (fun _ _ z=>z) (T.uW _) ⟨by decide,by decide,fun _=>rfl,fun z=>absurd kg z⟩⟩
      rw [decide_eq_false kg] at fin ⊢
      have ef0:=efc kg
      subst ef0
      x5⟨bg,b140⟩:=fb5 fg (aC tp.at_)
      have key:∀ (i:Nat) fc,fcs'[i]?=some fc->∃ g,qs[i]?=some g/\vl g=iG fc.2 (wq fs) * (W:Rat):=fun i fc e=>by
       have li:i<qs.length:=by rw [ql5]; qV(aq.mp e).1
       have e1:(qs.map vl)[i]?=some (iG fc.2 (wq fs) * (W:Rat)):=by
        rw [v5]
        unfold oE
        rw [au,au,e]; rfl
       rw [au,aj li] at e1
       qV⟨_,aj li,Option.some.inj e1⟩
      have lj:jg<fcs'.length:=by rw [<- ql5]; qV(aq.mp tp.at_).1
      have Wn:=fB W0
      have vg:∀ a b:Int,Low fg.1 (fg.2 * W) a b->vl (a,b) * (W:Rat)=vl fg:=fun a b l=>by
       have h1:=l.vl (Int.mul_pos bg.pos W0)
       have h2:=adu (x:=fg.1) (y:=fg.2) (u:=W) (v:=1) bg.pos W0 (by decide)
       rw [Int.mul_one] at h2
       rw [h1,h2,adf]
       grind
      z5⟨_,rfl,_,rfl,p2,_,1,_,rfl,rfl,S25 _ _ k2,dD,.ref pg,W,rfl,.inr ⟨pg,fg.1,fg.2,rfl,hpg,bg.pos,bg.bx,bg.b_y,W0,bW.bd (by decide),(Bn.mul b140 bW).bd (by decide),fun r a b H7 S7 f7 h7 l=>⟨_,_,rfl,S7 _ _ htl,by om,fin (.ref pg) r (a,b) H7 S7 (.of h7) ⟨l.pos,l.gcd,fun z=>absurd z kg,fun _=>⟨fun z=>?_,fun _=>?_,fun fc hf=>?_⟩⟩⟩⟩⟩
      .rw [z] at lj; cases lj
      .have ec:fcs'[jg]?=some fcs'[jg]:=aj lj
       x5⟨g',e1,e2⟩:=key jg _ ec
       rw [tp.at_] at e1
       cases e1
       z5⟨_,aX lj,?_⟩
       have:=vg a b l
       rw [e2] at this
       grind
      .obtain ⟨i,ei⟩:=aY hf
       x5⟨g',e1,e2⟩:=key i fc ei
       have le:=tp.le g' (aC e1)
       rw [e2,<- vg a b l] at le
       qV Rat.le_of_mul_le_mul_right le WR
   z5 cN ⟨_,rfl,decide (k∈gl),rfl,?_⟩
   by_cases kg:k∈gl
   .rw [decide_eq_true kg]
    z5⟨bC _,fun lo H4 S4 f4 h4=>?_⟩
    have:=rest lo [] [] H4 S4 h4 rfl (by decide) (fun j fc e=>by simp at e) (fun z=>absurd kg z)
    rw [decide_eq_true kg] at this
    qV this
   .rw [decide_eq_false kg]
    z5⟨D.Hall,(by unfold iz; simp),_,rfl,o,dx,_,rfl,SH _ _ ho,rfl,_,rfl,o,p,k,rms,g,rfl,hh.same SH,eg,gf,gw,fun r H4 os S4 f4 h4 of4=>?_⟩
    have of5:=(of4 [] (by intro a ha; cases ha)).same vH
    have zl:os.length=fcs.length:=by rw [of5.len,dn.len]
    have:=rest r os fcs H4 S4 h4 zl (by rw [of5.len]; om) (fun j fc e=>?_) (fun _=>rfl)
    .rw [decide_eq_false kg] at this
     qV this
    .have lj:j<fcs.length:=(aq.mp e).1
     have ed:g.2[j]?=some (g.2[j]'(by rw [dn.len]; qV lj)):=aj _
     x5⟨dN,dF⟩:=dn.at_ j _ _ ed e
     x5⟨tt,et,oN⟩:=of5.offN nd ed (dN.same (SH.trans S4))
     qV⟨dF,tt,et,oN⟩
  .rintro σ' H' ⟨u5,u6,u7,u8,zs,gs,rfl,S,htl,flg,nx⟩ _
   rw [ml,aR] at nx
   subst hR1
   qV⟨_,rfl,q tl H' zs gs (S2.trans S) (Same.free S2 f3) htl flg nx⟩
~!Ur {K:Frag}{tl te:TE}{σ:L2.St}{H:Hp}{Q:VK} (vs:List V) (h:tl σ H fun x H1=>∃ a xs,x=.ref a/\H1 a=some (.lst xs)/\xs.length=vs.length/\vs.length <= sizeLine/\(∀ (k:Nat) x y Hc (R:VK),xs[k]?=some x->vs[k]?=some y->Same H1 Hc->(∀ H2,Same Hc H2->R y H2)->te (some x::σ) Hc R) /\
  ∀ D Hc,Same H1 Hc->H1 D=none->Hc D=some (.lst vs)->Q (.ref D) Hc) (mono:∀ {σ H}{R R':VK},(∀ v H,R v H->R' v H)->tl σ H R->tl σ H R'):mF (Eo K (tM tl)) 1 (tMG (cU 0)) (tMT N5) (tM te) σ H Q:=by
 z5 dR (mono (fun x H1 ⟨a,xs,e,ha,l,sz,hb,q⟩=>⟨a,xs,e,ha,by om,fun D hD=>⟨vJ D H1 vs,⟨Same.upd hD,bK,rfl⟩,fun k x ys Hc hk j hy hc=>?_,fun ys Hc ⟨S1,h1,ey⟩ hy=>?_⟩⟩) h)
 .have lk:k<vs.length:=by rw [<- l]; qV(aq.mp hk).1
  qV hb k x _ Hc _ hk (aj lk) j.1 fun H2 S=>⟨S _ _ j.2.1,S _ _ hc,j.next hD S (aj lk)⟩
 .rw [l,aR] at ey
  subst ey
  qV q D Hc S1 hD h1
~!ZJ {i:Nat}{σ:L2.St}{H:Hp}{R R':VK} (h:∀ v H,R v H->R' v H):Ei i σ H R->Ei i σ H R':=fun hP=>by x5⟨v,a,b⟩:=hP; qV⟨v,a,h _ _ b⟩
~!qP {K:Frag}{i:Nat}{te:TE}{σ:L2.St}{H:Hp}{Q:VK}{a:Addr}{xs:List V} (vs:List V) (hσ:σ[i]?=some (some (.ref a))) (ha:H a=some (.lst xs)) (l:xs.length=vs.length) (sz:vs.length <= sizeLine) (hb:∀ (k:Nat) x y Hc (R:VK),xs[k]?=some x->vs[k]?=some y->Same H Hc->(∀ H2,Same Hc H2->R y H2)->te (some x::σ) Hc R)
  (q:∀ D Hc,Same H Hc->H D=none->Hc D=some (.lst vs)->Q (.ref D) Hc):mF (Eo K (tM (Ei i))) 1 (tMG (cU 0)) (tMT N5) (tM te) σ H Q:=Ur vs ⟨_,hσ,a,xs,rfl,ha,l,sz,hb,q⟩ ZJ
~!Ml {te:TE}{g:TG}{D:Ends}{σ:L2.St}{H:Hp} (h:te σ H fun x H1=>g x σ H1 D.nx):Gu te g D σ H:=h
noncomputable def WD:Expr:=match eZ gK with
 | [_,_,_,.Return (some (.Call _ [_,_,l] _ _)) _]=>l
 | _=>.Name "x" ⟨0,0,0,0⟩
noncomputable def adg:Arguments:=match WD with | .Lambda a _ _ _=>a | _=>gQ gK
noncomputable def acO:Expr:=match WD with | .Lambda _ b _ _=>b | _=>WD
noncomputable def Yn:Scope:=match WD with | .Lambda _ _ c _=>c | _=>bO gK
noncomputable def lamP:Pos:=match WD with | .Lambda _ _ _ p=>p | _=>⟨0,0,0,0⟩
noncomputable abbrev La:Str:=(fV ++ ".<locals>.") ++ "<lambda>"
noncomputable def EY (K:Frag) (D:Adr) (frees:List V):Sp:=fun vs H Q E=>vs.length=1/\qK K D (frees.reverse++vs) H Q E
~!ado {k0:Nat} (mG:∀ base,OkF P w K mg base 5 iR iU (qK K D)) {base':Heap}{frees:List V}{f c c1 c2:Addr}{ctv pm:Value} (ho:base'.get? f=some (PySem.W.kla_obj "<lambda>" La adg acO Yn [("marks",c2),("hall",c1)] pm c ctv)) (hc:base'.CodeRec (.ref c) La) (hs:wJ base' Yn [("marks",c2),("hall",c1)] frees):OkL P w K mg base' 6 f ["ahead"] (EY K D frees):=by
 z5⟨_,_,adZ ho hc rfl rfl rfl (by decide +kernel) rfl (fun y hy=>?_) hs (fun vs H Q E h=>h.1) (fun A outer s H v Q E hr h=>?_),.all (fun us e=>?_),ho,rfl⟩
 .have:∀ y∈Yn.names,y.2=.free->y.1 = "hall" \/ y.1 = "marks" := by decide +kernel
  rcases this _ (PySem.mem_of_lookup hy) rfl with h | h
  .obtain rfl:y = "hall" := h
   qV⟨c1,rfl⟩
  .obtain rfl:y = "marks" := h
   qV⟨c2,rfl⟩
 .obtain ⟨_,h⟩:=h
  cases hs with
  | @cons _ _ vm _ _ _ _ _ _ _ _ hs =>
   cases hs with
   | @cons _ _ vh _ _ _ _ _ _ _ _ hs =>
    cases hs
    z5⟨_,bU (mG base') hr.md (by rfl) (bG (pv 2) (bG (pv 1) (bG (pv 0) bI))),?_⟩
    qV⟨_,rfl,_,rfl,_,rfl,h⟩
 .match us,e with
  | [_],_=>rfl
~!cD.or {P:Program}{w:World}{K:Frag}{mg:Str->Option Value}{base:Heap}{k1 k:Nat}{f:Addr}{fd:FuncData}{ps:List Str}{sp1 sp2:Sp} (F1:cD P w K mg base (CXO P w) k1 f fd ps sp1) (F2:cD P w K mg base (CXO P w) k f fd ps sp2) (hk:k1 <= k):cD P w K mg base (CXO P w) k f fd ps (fun vs H Q E=>sp1 vs H Q E\/sp2 vs H Q E) :=
 ⟨fun vs H Q E h=>h.elim (F1.len vs H Q E) (F2.len vs H Q E),fun A outer s H args us vs Q E hr e0 hb r h=>h.elim (F1.run A outer s H args us vs Q E (hr.mono hk) e0 hb r) (F2.run A outer s H args us vs Q E hr e0 hb r)⟩
noncomputable def NP (D:Adr):Sp:=fun vs H Q E=>wO D vs H Q E\/uX D vs H Q E
noncomputable def Px (b:Bool):Int×Int:=if b then (1,1) else (0,1)
noncomputable def aee (D:Adr) (b:Bool):V:=if b then .ref D.ONE else .ref D.NOUGHT
noncomputable def rG (n:Nat) (gl:List Nat):List (Int×Int):=(d9 n gl).map Px
~!nM {n:Nat}{gl:List Nat} : (rG n gl).length=n:=by unfold rG; rw [ao,lM]
~!Yj {n L:Nat}{gl:List Nat} : zu L 0 (rG n gl):=fun f hf=>by
 x5⟨b,_,rfl⟩:=List.mem_map.mp hf
 cases b
 .exact ⟨by decide,by decide,Int.one_dvd _,bC _⟩
 .exact Wg
~!Ak {H:Hp} (T:Txt K mg D):∀ bs:List Bool,FLK K H (bs.map (aee D)) (bs.map Px)
 | []=>.nil
 | true::bs=>.cons (T.uW _) (Ak T bs)
 | false::bs=>.cons (T.pA _) (Ak T bs)
noncomputable def sH (K:Frag) (D:Adr):Sp:=fun vs H Q E=>∃ (o l p:Addr) (v:V) (rms:List (Str×List Dr)),vs=[.ref o,.ref l,v]/\Odd H v/\kE D H o p rms/\rms.length <= 20 /\
 ((∃ (gs:List Nat) (x:V) (more:List V),H l=some (.lst (gs.map nV++x::more))/\gs.length+more.length <= 100/\(∀ g∈gs,g<rms.length)/\Odd H x/\¬ tY rms.length x/\∀ d H',Same H H'->H d=none->H' d=some (.xd [("room",x)])->E (.ref D.NoRoom) (some d) H') \/
 ∃ (gl:List Nat),H l=some (.lst (gl.map nV))/\gl.length <= 100/\(∀ g∈gl,g<rms.length)/\(¬ uM v->∀ H',Same H H'->E (.ref D.NoNumber) none H') /\
  (uM v->∃ (many L:Nat) (s:Int×Int) (fcss:List (List ((Int×Int)×List (Nat×Int×Int)))) (oc:Option Addr),v=.int many/\wR D.T_goal_rounds lamP La H oc/\fcss.length=rms.length/\Gb K D (wo (D.T_goal_rounds::oc.toList) H) o s fcss/\aco s fcss L/\L ^ many <= 10 ^ 480 /\
   ∀ t ls fss H' c,Same (wo (D.T_goal_rounds::oc.toList) H) (wo [D.T_goal_rounds,c] H')->wR D.T_goal_rounds lamP La H' (some c)->(∀ c0,oc=some c0->c=c0)->H t=none->(∀ l∈ls,H l=none)->t ∉ ls->H' t=some (.lst (ls.map V.ref))->Rds K (wo [D.T_goal_rounds,c] H') ls fss->fss.length=many+1->rQ (tu gl fcss) (rG fcss.length gl) L fss->Q (.ref t) H'))
~!Ej {f c0:Addr}{fd:FuncData} (F:Fun K fV fV gK f fd) (hc:fd.code=.ref c0) (hC:PySem.W.codeHdIn K c0 D.T_goal_rounds=true) (T:Txt K mg D) (hB:base.BuiltinsAt mg D.T_goal_rounds) (mG:∀ base,OkF P w K mg base 5 iR iU (qK K D)) (qF:OkX P w K mg base 4 gG iQ (NP D)) (ql:OkX P w K mg base 2 jU j5 (Jf D)):cD P w K mg base (CXO P w) 8 f fd iu (sH K D):=by
 x5⟨fR,fdR,FR,bR,mR⟩:=T.Ci
 z5 F.okXc hc pH (fun vs H Q E h=>?_) (fun A outer s H vs Q E hr h=>?_)
 .obtain ⟨o,l,p,v,rms,rfl,_⟩:=h
  rfl
 .obtain ⟨o,l,p,v,rms,rfl,ov,hh,r20,cs⟩:=h
  z5⟨_,(bN (cA (i:=3) pH.nd rfl (Or.inr rfl) (gF qF hr.md (by rfl) fW (bG (pv 0) (bG (pv 1) bI))))
   (bN (dh (gF ql hr.md (by rfl) fW (bG (pv 2) bI)))
   (bN (Iu (bO gK) qw qw ["goal"] (cV ((pv 3)).mono) (eV (i:=0)) c7 (yh (dw (pv 0) (fun _=>rfl)) (gY (by rfl) T.El) (gY (by rfl) T.qM)) (cG (i:=4) pH.nd rfl (Or.inl rfl)))
   (bQ (cu (Rk (Pt:=D.T_goal_rounds) (pos:=lamP) (qual:=La) (pm:=(mg "__name__").getD .none) (params:=adg) (body:=acO) (scope:=Yn) (cl:=[("marks",s.heap.objs.size+1+1),("hall",s.heap.objs.size+1)]) (js:=[3,0]) (spL:=EY K D) (spR:=fun frees f=>Ek K (EY K D frees) f) (by rfl) mR FR.kp (.all bR) hr.md (fun base' frees f V=>Aq FR T V) (fun base' frees f c ctv ho hc hs=>ado (k0:=0) mG ho hc hs) (by rfl) (fun q hq=>by
     rcases List.mem_cons.mp hq with rfl | hq
     .exact ⟨rfl,rfl,rfl⟩
     .rw [List.mem_singleton.mp hq]; qV⟨rfl,rfl,rfl⟩) (by simp; decide) (fun q hq=>rfl)
    (bG (pv 4) (bG (pv 2) (bG (adQ (params:=adg) (body:=acO) (scope:=Yn) (pos:=lamP) hB rfl hC (by rfl)) bI))))))))),?_⟩
  z5 cg fun R1 hR1=>?_
  z5 cN ⟨_,rfl,_,rfl,?_⟩
  rcases cs with ⟨gs,x,more,hl,g100,hg,ox,nx,e⟩ | ⟨gl,hl,g100,hg,e,q⟩
  .exact .inr ⟨o,l,p,rms,gs,x,more,rfl,hh,hl,g100,hg,r20,ox,nx,fun d H' S hd hx=>e d H' S hd hx⟩
  z5 .inl ⟨o,l,p,rms,gl,rfl,hh,hl,g100,hg,r20,fun r H1 S1 f1 h1=>?_⟩
  subst hR1
  dsimp only [cU,L2.start,List.set_cons_succ,List.set_cons_zero]
  z5 cg fun R1 hR1=>?_
  z5 dI ⟨_,rfl,v,rfl,ov.same S1,fun mn=>?_,fun nm=>e nm _ S1⟩
  x5⟨many,L,sh,fcss,oc,rfl,la,fcl,hn,hL,hm,q⟩:=q mn
  have m40:many <= 40:=by have:=mn.2; om
  rw [<- fcl] at h1
  have z9:101<sizeLine:=by decide
  subst hR1
  dsimp only
  z5 cg fun R1 hR1=>?_
  z5 dI (Ml (qP ((d9 fcss.length gl).map (aee D)) rfl h1 (by rw [ao,ao]) (by rw [ao,lM]; om) ?_ fun l0 H3 S13 f3 k0=>?_))
  .intro k x y Hc R hk hy Sc r'
   rw [au] at hk hy
   cases eb:(d9 fcss.length gl)[k]? with
   | none=>rw [eb] at hk; cases hk
   | some b =>
    rw [eb] at hk hy
    cases hk
    cases hy
    z5⟨_,rfl,b,rfl,?_⟩
    cases b
    .exact r' _ fun _ _ z=>z
    .exact r' _ fun _ _ z=>z
  have S2:Same H H3:=S1.trans S13
  have fl0:H l0=none:=Same.free S1 f3
  have la3:wR D.T_goal_rounds lamP La H3 oc:=by
   cases oc with
   | none=>qV S2 _ _ la
   | some c=>qV⟨S2 _ _ la.1,S2 _ _ la.2⟩
  subst hR1
  dsimp only [cU,List.set_cons_succ,List.set_cons_zero]
  z5 fY ⟨_,rfl,_,rfl,oc,la3,fun f4 c H4 ff fc c1 c2 la4 hf eo=>⟨f4,c,[.ref r,.ref o],hf,fc,la4,rfl,?_⟩⟩
  have pt3:∃ t,H3 D.T_goal_rounds=some (.tbl t):=by
   cases oc with
   | none=>qV⟨_,la3⟩
   | some c=>qV⟨_,la3.1⟩
  have S3:Same (wo (D.T_goal_rounds::oc.toList) H3) (wo [D.T_goal_rounds,c,f4] H4):=fun b u e=>by
   x5⟨nb,e'⟩:=rO e
   have n1:b≠D.T_goal_rounds:=fun z=>nb (by rw [z]; qV aQ)
   have n2:b≠c:=fun z=>by
    cases oc with
    | none=>rw [z,c1 rfl] at e'; cases e'
    | some c0=>qV nb (by rw [z,c2 c0 rfl]; simp)
   have n3:b≠f4:=fun z=>by rw [z,ff] at e'; cases e'
   rw [mz (by simp; qV⟨n1,n2,n3⟩),eo b n1 n2 n3]
   qV e'
  have S23:Same (wo (D.T_goal_rounds::oc.toList) H) (wo (D.T_goal_rounds::oc.toList) H3):=fun b u e=>by
   x5⟨nb,e'⟩:=rO e
   rw [mz nb]; qV S2 _ _ e'
  have SS:=S23.trans S3
  have in3:∀ {b:Addr}{xs:List V},H3 b=some (.lst xs)->wo (D.T_goal_rounds::oc.toList) H3 b=some (.lst xs):=fun {b xs} e=>by
   z5(mz fun z=>?_).trans e
   rcases List.mem_cons.mp z with z | z
   .obtain ⟨t,ht⟩:=pt3
    rw [z,ht] at e; cases e
   .cases oc with
    | none=>cases z
    | some c0 =>
     rw [List.mem_singleton.mp z,la3.2] at e; cases e
  z5⟨l0,many,L,rG fcss.length gl,fun H=>Gb K D H o sh fcss/\H r=some (.lst ((d9 fcss.length gl).map V.bl)),tu gl fcss,_,rfl,m40,⟨hn.same SS,S3 _ _ (in3 (S13 _ _ h1))⟩,⟨fun H H' S z=>⟨z.1.same S,S _ _ z.2⟩,fun k fs gs rok ln nx=>⟨nx.ok (fun fcs a fc b=>(hL.d fcs a fc b).beh) rok,by rw [nM]; qV nx.1⟩⟩,fun vs H Q E z=>?_,hL.L0,hm,by rw [nM]; qV hn.n12,Yj,S3 _ _ (in3 k0),Ak T _,fun t ls fss H5 S5 ft new nt ht rd len ro H6 e6 la6 n1 n2 n3=>?_⟩
  .obtain ⟨la',xs,fs,rfl,⟨i1,i2⟩,hla,fl,rb,ln,q'⟩:=z
   qV⟨rfl,o,r,la',sh,gl,xs,fs,fcss,rfl,i1,i2,hla,fl,rb,by rw [ln,nM],q'⟩
  have S56:Same H5 (wo [D.T_goal_rounds,c] H6):=fun b u e=>by
   have a1:b≠D.T_goal_rounds:=fun z=>by rw [z,n1] at e; cases e
   have a2:b≠c:=fun z=>by rw [z,n2] at e; cases e
   rw [mz (by simp; qV⟨a1,a2⟩),e6 b a1 a2]
   qV e
  have un:∀ b u,H5 b=some u->wo [D.T_goal_rounds,c,f4] H4 b=none->H b=none:=fun b u e z=>by
   have a1:b≠D.T_goal_rounds:=fun z=>by rw [z,n1] at e; cases e
   have a2:b≠c:=fun z=>by rw [z,n2] at e; cases e
   have a3:b≠f4:=fun z=>by rw [z,n3] at e; cases e
   rw [mz (by simp; qV⟨a1,a2,a3⟩),eo b a1 a2 a3] at z
   qV Same.free S2 z
  z5 q t (l0::ls) fss H6 c (SS.trans (S5.trans S56)) la6 c2 (un t _ ht ft) (fun l hl=>?_) nt (mD _ _ (S56 _ _ ht)) (rd.same S56) len ro
  rcases List.mem_cons.mp hl with rfl | hl'
  .exact fl0
  .obtain ⟨k,hk⟩:=aY hl
   have lk:k<fss.length:=by rw [<- rd.len]; qV(aq.mp hk).1
   x5⟨zs,a,_⟩:=rd.at_ k l _ hk (aj lk)
   qV un l _ a (new l hl')
noncomputable def rm:Sp:=fun vs H Q _=>∃ (a b:Int),vs=[.int a,.int b]/\0<b/\Bd b/\∀ p,H p=none->Q (.ref p) (upd H p (.tup [.int (Ac.lw a b).1,.int (Ac.lw a b).2]))
~!VN (F:Fun K nG nG Dy f fd) (Iz:OkF P w K mg base 1 Ba Bq DW):cD P w K mg base CX0 2 f fd m6 rm:=by
 z5 F.ok IK ?_ ?_
 .rintro _ _ _ _ ⟨a,b,rfl,_⟩; rfl
 .rintro cdv A outer s H _ Q E hr ⟨a,b,rfl,hb,hbd,q⟩
  z5⟨_,(bN (cA (i:=2) IK.nd rfl (Or.inl rfl) (bU Iz hr.md (by rfl) (bG (pv 0) (bG (pv 1) bI))))
   (bQ (cu (kZ (bG (bV mY (pv 0) (pv 2)) (bG (bV mY (pv 1) (pv 2)) bI)))))),?_⟩
  have g0:=Kp (a:=a) (b:=b) (by om)
  have g1:=Rr (a:=a) (b:=b) (by om) hbd
  unfold DW
  walk_at "rd"
  rw [qR _ g0,qR _ g0]
  qV⟨by om,g1,by om,g1,dW,q⟩
~!Same.sql {K:Frag}{H H':Hp}{a:Addr}{xs:List V} (S:Same H H') (h:SqL K H a xs):SqL K H' a xs:=by
 rcases h with (h | ⟨o,h⟩) | h
 .exact .inl (.inl (S _ _ h))
 .exact .inl (.inr ⟨o,S _ _ h⟩)
 .exact .inr h
~!Vc {α:Type}{l:List α} (h:l.length=3):∃ a b c,l=[a,b,c]:=by
 match l,h with
 | [a,b,c],_=>qV⟨a,b,c,rfl⟩
structure Zz (n m:Nat) (sm:Bool):Prop where
 n12:n <= 12
 m40:m <= 40
 ok:(sm=true/\((n <= 2/\m <= 14)\/n <= 1))\/(sm=false/\(n=0\/m <= 2\/(n <= 4/\m <= 5)))
noncomputable def Ez:Sp:=fun vs H Q _=>∃ c:Int,vs=[.int c]/\∀ (n m:Nat) (sm:Bool) r H',Zz n m sm->Same H H'->H' r=some (.tup [.int n,.int m,.bl sm])->Q (.ref r) H'
~!Wm (F:Fun K t_ t_ KN f fd) (T:Txt K mg D) (dH:OkF P w K mg base 1 iy g_ gj):cD P w K mg base CX0 2 f fd vA Ez:=by
 z5 F.ok Pk ?_ ?_
 .rintro _ _ _ _ ⟨c,rfl,_⟩; rfl
 .rintro cdv A outer s H _ Q E hr ⟨c,rfl,q⟩
  z5⟨_,(bN (cA (i:=1) Pk.nd rfl (Or.inl rfl) (bU dH hr.md (by rfl) (bG (pv 0) (bG bH bI))))
   (bN (cY (cL n8 (bV cR (bZ bY (pv 1) bH (fun _ _=>rfl)) bH) bH (cM _))
    (bQ (cu (dB (bG (bV dj bH (bV cR (bZ bY (pv 1) bH (fun _ _=>rfl)) bH)) (bG (bV dj bH (bV cR (bZ bY (pv 1) bH (fun _ _=>rfl)) bH)) (bG gB bI))))))
    cC)
   (bN (cY (cL n8 (bV cR (bZ bY (pv 1) bH (fun _ _=>rfl)) bH) bH (cM _))
    (bQ (cu (dB (bG bH (bG (bV dj bH (bV cR (bZ bY (pv 1) bH (fun _ _=>rfl)) bH)) (bG gB bI))))))
    cC)
   (bN (cY (cL n8 (bV cR (bZ bY (pv 1) bH (fun _ _=>rfl)) bH) bH (cM _))
    (bQ (cu (dB (bG bH (bG (bV cR (bZ bY (pv 1) bH (fun _ _=>rfl)) bH) (bG gB bI))))))
    cC)
   (bN (cY (cL n8 (bV cR (bZ bY (pv 1) bH (fun _ _=>rfl)) bH) bH (cM _))
    (bQ (cu (dB (bG (bV dj bH (bV cR (bZ bY (pv 1) bH (fun _ _=>rfl)) bH)) (bG (bV cR (bZ bY (pv 1) bH (fun _ _=>rfl)) bH) (bG gB bI))))))
    cC)
   (bQ (cu (dB (bG (bV dj bH (bV cR (bZ bY (pv 1) bH (fun _ _=>rfl)) bH)) (bG (bV cR (bZ bY (pv 1) bH (fun _ _=>rfl)) bH) (bG gB bI))))))))))),?_⟩
  z5 cN ⟨_,rfl,c,3,rfl,by decide,fun l xs H1 S1 fl hl ln hx=>?_⟩
  x5⟨a,b,e,rfl⟩:=Vc ln
  have l3:3 <= sizeLine:=by decide
  have go:∀ (n m:Nat) (x y:Int) (sm:Bool) r H',x=n->y=m->Zz n m sm->Same H1 H'->H' r=some (.tup [.int x,.int y,.bl sm])->Q (.ref r) H':=fun n m x y sm r H' e1 e2 sz S h=>by
   subst e1; subst e2; qV q n m sm r H' sz (S1.trans S) h
  dsimp only [cU,L2.start]
  z5 cg fun R1 hR1=>?_
  z5 dI ⟨_,rfl,l,_,0,_,rfl,rfl,hl,d8,a,16,rfl,rfl,(show (0:Int)<16 by decide),rfl,decide (V.int (a % 16)=V.int 1),rfl,?_⟩
  by_cases e1:V.int (a % 16)=V.int 1
  .rw [decide_eq_true e1]
   qV⟨_,rfl,l,_,1,_,rfl,rfl,hl,dD,b,2,rfl,rfl,(show (0:Int)<2 by decide),_,_,rfl,rfl,_,rfl,l,_,2,_,rfl,rfl,hl,b_ (j:=2) rfl,e,8,rfl,rfl,(show (0:Int)<8 by decide),_,_,rfl,rfl,l3,fun r H2 S2 f2 h2=>go (1+b % 2).toNat (7+e % 8).toNat _ _ true r H2 (by om) (by om) ⟨by om,by om,.inl ⟨rfl,.inl ⟨by om,by om⟩⟩⟩ S2 h2⟩
  rw [decide_eq_false e1]
  show R1 _ _ _
  subst hR1
  z5 cg fun R1 hR1=>?_
  z5 dI ⟨_,rfl,l,_,0,_,rfl,rfl,hl,d8,a,16,rfl,rfl,(show (0:Int)<16 by decide),rfl,decide (V.int (a % 16)=V.int 4),rfl,?_⟩
  by_cases e1:V.int (a % 16)=V.int 4
  .rw [decide_eq_true e1]
   qV⟨_,rfl,l,_,2,_,rfl,rfl,hl,b_ (j:=2) rfl,e,8,rfl,rfl,(show (0:Int)<8 by decide),_,_,rfl,rfl,l3,fun r H2 S2 f2 h2=>go 1 (33+e % 8).toNat _ _ true r H2 (by om) (by om) ⟨by om,by om,.inl ⟨rfl,.inr (aG _)⟩⟩ S2 h2⟩
  rw [decide_eq_false e1]
  show R1 _ _ _
  subst hR1
  z5 cg fun R1 hR1=>?_
  z5 dI ⟨_,rfl,l,_,0,_,rfl,rfl,hl,d8,a,16,rfl,rfl,(show (0:Int)<16 by decide),rfl,decide (V.int (a % 16)=V.int 2),rfl,?_⟩
  by_cases e1:V.int (a % 16)=V.int 2
  .rw [decide_eq_true e1]
   qV⟨_,rfl,l,_,2,_,rfl,rfl,hl,b_ (j:=2) rfl,e,41,rfl,rfl,(show (0:Int)<41 by decide),l3,fun r H2 S2 f2 h2=>go 0 (e % 41).toNat _ _ false r H2 (by om) (by om) ⟨by om,by om,.inr ⟨rfl,.inl rfl⟩⟩ S2 h2⟩
  rw [decide_eq_false e1]
  show R1 _ _ _
  subst hR1
  z5 cg fun R1 hR1=>?_
  z5 dI ⟨_,rfl,l,_,0,_,rfl,rfl,hl,d8,a,16,rfl,rfl,(show (0:Int)<16 by decide),rfl,decide (V.int (a % 16)=V.int 3),rfl,?_⟩
  by_cases e1:V.int (a % 16)=V.int 3
  .rw [decide_eq_true e1]
   qV⟨_,rfl,l,_,1,_,rfl,rfl,hl,dD,b,8,rfl,rfl,(show (0:Int)<8 by decide),_,_,rfl,rfl,_,rfl,l,_,2,_,rfl,rfl,hl,b_ (j:=2) rfl,e,3,rfl,rfl,(show (0:Int)<3 by decide),l3,fun r H2 S2 f2 h2=>go (5+b % 8).toNat (e % 3).toNat _ _ false r H2 (by om) (by om) ⟨by om,by om,.inr ⟨rfl,.inr (.inl (by om))⟩⟩ S2 h2⟩
  rw [decide_eq_false e1]
  show R1 _ _ _
  subst hR1
  qV fY ⟨_,rfl,l,_,1,_,rfl,rfl,hl,dD,b,4,rfl,rfl,(show (0:Int)<4 by decide),_,_,rfl,rfl,_,rfl,l,_,2,_,rfl,rfl,hl,b_ (j:=2) rfl,e,6,rfl,rfl,(show (0:Int)<6 by decide),l3,fun r H2 S2 f2 h2=>go (1+b % 4).toNat (e % 6).toNat _ _ false r H2 (by om) (by om) ⟨by om,by om,.inr ⟨rfl,.inr (.inr ⟨by om,by om⟩)⟩⟩ S2 h2⟩
noncomputable def yB (sm:Bool):Int:=if sm then 1 else 1000
noncomputable def hB (sm:Bool):Int:=if sm then 4 else 100
noncomputable def wB (sm:Bool):Int:=if sm then 12 else 4004
noncomputable def P0:Sp:=fun vs H Q _=>∃ (c a b:Int) (sm:Bool),vs=[.int c,.int a,.int b,.bl sm]/\∀ (p:Addr) (x y:Int) H',Same H H'->H p=none->H' p=some (.tup [.int x,.int y])->0<y->Int.gcd x y=1->x.natAbs <= 10 ^ 30->y <= yB sm->Q (.ref p) H'
~!ad2 (F:Fun K Et Et Zm f fd) (T:Txt K mg D) (jf:OkF P w K mg base 2 nG m6 rm):cD P w K mg base CX0 3 f fd Er P0:=by
 z5 F.ok adE ?_ ?_
 .rintro _ _ _ _ ⟨c,a,b,sm,rfl,_⟩; rfl
 .rintro cdv A outer s H _ Q E hr ⟨c,x,y,sm,rfl,q⟩
  have lo:∀ (a b:Int) (p:Addr),sm=false->0<b->a.natAbs <= 10 ^ 30->b <= 1000->H p=none->Q (.ref p) (upd H p (.tup [.int (Ac.lw a b).1,.int (Ac.lw a b).2])):=fun a b p hs b0 ha hb hp=>by
   have h2:=Ac.BK a b
   have h3:=Ac.jT (t:=a) b0
   qV q p _ _ _ (Same.upd hp) hp bK h3 (Ac.xr b0) (aN (Ac.D_ a b) ha) (by subst hs; show _ <= (1000:Int); om)
  have one:1 <= yB sm:=by cases sm <;> decide
  z5⟨_,(bN (cY (PW.pt (pw_or (dw (pv 3) (fun _=>rfl)) (pw_or1 (cL yE (bV cR (pv 1) bH) bH (cM _)))))
    (bQ (cu (dB (bG (bV ur (bV cR (pv 2) bH) bH) (bG bH bI)))))
    cC)
   (bN (cY (cL yE (bV cR (pv 1) bH) bH (cM _))
    (bQ (cu (bU jf hr.md (by rfl) (bG (bV ur (bV cR (pv 2) bH) bH) (bG (bV dj bH (bV cR (bV mY (pv 1) bH) bH)) bI)))))
    cC)
   (bN (cY (cL n8 (bV cR (pv 1) bH) bH (cM _))
    (bQ (cu (dB (bG (bV ur (bV cR (pv 0) bH) bH) (bG bH bI)))))
    cC)
   (bQ (cu (bU jf hr.md (by rfl) (bG (bV ur (bV cR (bV dj (bV PL (pv 0) bH) (pv 2)) (bV dj (bV cZ bH (bV Eb bH bH)) bH)) (bV Eb bH bH)) (bG (bV dj bH (bV cR (bV mY (pv 1) bH) bH)) bI)))))))),?_⟩
  have b30:Bd 1000000000000000000000000000000:=Nat.lt_of_le_of_lt (aG _) (by decide +kernel)
  have m7:(0:Int)<7:=by decide
  have m8:(0:Int)<8:=by decide
  z5 cg fun R1 hR1=>?_
  z5 dI ⟨_,rfl,sm,rfl,?_⟩
  cases sm with
  | true =>
   rw [if_pos rfl]
   qV⟨_,rfl,y,7,rfl,rfl,m7,_,_,rfl,rfl,dW,fun p H2 S2 f2 h2=>q p _ _ H2 S2 f2 h2 (by decide) (by simp) (by om) one⟩
  | false =>
   z5⟨_,rfl,x,8,rfl,rfl,m8,_,_,rfl,rfl,decide (x % 8<3),rfl,?_⟩
   by_cases c1:x % 8<3
   .rw [decide_eq_true c1]
    qV⟨_,rfl,y,7,rfl,rfl,m7,_,_,rfl,rfl,dW,fun p H2 S2 f2 h2=>q p _ _ H2 S2 f2 h2 (by decide) (by simp) (by om) one⟩
   rw [decide_eq_false c1]
   show R1 _ _ _
   subst hR1
   z5 cg fun R1 hR1=>?_
   z5 dI ⟨_,rfl,x,8,rfl,rfl,m8,_,_,rfl,rfl,decide (x % 8<6),rfl,?_⟩
   have b8:Bd 8:=Bd.sm (by decide)
   by_cases c2:x % 8<6
   .rw [decide_eq_true c2]
    qV⟨_,rfl,y,61,rfl,rfl,(show (0:Int)<61 by decide),_,_,rfl,rfl,_,rfl,x,8,rfl,rfl,⟨by decide,b8⟩,_,12,rfl,rfl,(show (0:Int)<12 by decide),_,_,rfl,rfl,_,_,rfl,by om,Bd.sm (by om),fun p hp=>lo _ _ p rfl (by om) (by om) (by om) hp⟩
   rw [decide_eq_false c2]
   show R1 _ _ _
   subst hR1
   z5 cg fun R1 hR1=>?_
   z5 dI ⟨_,rfl,x,8,rfl,rfl,m8,rfl,decide (V.int (x % 8)=V.int 6),rfl,?_⟩
   by_cases c3:V.int (x % 8)=V.int 6
   .rw [decide_eq_true c3]
    qV⟨_,rfl,c,2000000001,rfl,rfl,(show (0:Int)<2000000001 by decide),_,_,rfl,rfl,dW,fun p H2 S2 f2 h2=>q p _ _ H2 S2 f2 h2 (by decide) (by simp) (by om) one⟩
   rw [decide_eq_false c3]
   show R1 _ _ _
   subst hR1
   have cp:=aal (n:=30) (by decide) (by decide)
   qV fY ⟨_,rfl,c,69621,rfl,rfl,.inr (by constructor <;> decide),_,rfl,_,_,rfl,rfl,10,30,rfl,rfl,cp,2,_,rfl,rfl,⟨Bd.sm (by decide),b30⟩,_,1,rfl,rfl,_,_,rfl,rfl,(show (0:Int)<2 * 10 ^ 30+1 by decide),10,30,rfl,rfl,cp,_,_,rfl,rfl,_,rfl,x,8,rfl,rfl,⟨by decide,b8⟩,_,997,rfl,rfl,(show (0:Int)<997 by decide),_,_,rfl,rfl,_,_,rfl,by om,Bd.sm (by om),fun p hp=>lo _ _ p rfl (by om) (by show ((c * 69621+y) % (2 * 10 ^ 30+1) - 10 ^ 30).natAbs <= _; om) (by om) hp⟩
noncomputable def E_:Sp:=fun vs H Q _=>∃ (c:Int) (sm:Bool),vs=[.int c,.bl sm]/\∀ (p:Addr) (x y:Int) H',Same H H'->H' p=some (.tup [.int x,.int y])->0 <= x->x<y->y <= hB sm->Int.gcd x y=1->Q (.ref p) H'
~!YF (F:Fun K vp vp JX f fd) (T:Txt K mg D) (dH:OkF P w K mg base 1 iy g_ gj) (jf:OkF P w K mg base 2 nG m6 rm):cD P w K mg base CX0 3 f fd u_ E_:=by
 z5 F.ok Ga ?_ ?_
 .rintro _ _ _ _ ⟨c,sm,rfl,_⟩; rfl
 .rintro cdv A outer s H _ Q E hr ⟨c,sm,rfl,q⟩
  z5⟨_,(bN (cA (i:=2) Ga.nd rfl (Or.inl rfl) (bU dH hr.md (by rfl) (bG (pv 0) (bG bH bI))))
   (bN (cA (i:=3) Ga.nd rfl (Or.inl rfl) (bV dj bH (bV mL (bZ bY (pv 2) bH (fun _ _=>rfl)) (bZ bY (eY (bG bH (bG bH (bG bH (bG bH bI))))) (bV cZ (bV cR (bZ bY (pv 2) bH (fun _ _=>rfl)) bH) (lN qX (by rfl) T.Dk boot_int (bG (Rj (pv 1)) bI))) (fun _ _=>rfl)))))
   (bQ (cu (bU jf hr.md (by rfl) (bG (bV mL (bZ bY (pv 2) bH (fun _ _=>rfl)) (pv 3)) (bG (pv 3) bI))))))),?_⟩
  z5 cN ⟨_,rfl,c,3,rfl,by decide,fun l xs H1 S1 fl hl ln hx=>?_⟩
  obtain ⟨a,b,e,rfl⟩ : ∃ a b e,xs=[a,b,e]:=by
   match xs,ln with
   | [a,b,e],_=>qV⟨a,b,e,rfl⟩
  have xa:=hx a (by simp)
  have xe:=hx e (by simp)
  z5 cN ⟨_,rfl,l,_,0,_,rfl,rfl,hl,d8,by decide,fun p1 H2 S2 f2 h2=>?_⟩
  obtain ⟨j,ej,jb⟩ : ∃ j:Int,b % 4 * (if (!sm)=true then 1 else 0)=j/\(j=0\/(sm=false/\(j=1\/j=2\/j=3))):=by
   cases sm with
   | true=>qV⟨0,by simp,.inl rfl⟩
   | false=>qV⟨b % 4,by simp,by simp; om⟩
  obtain ⟨md,ed,m0,m1⟩ : ∃ md:Int,atI [V.int 4,V.int 6,V.int 10,V.int 100] j=some (.int md)/\0<md/\md <= hB sm:=by
   rcases jb with rfl | ⟨rfl,rfl | rfl | rfl⟩
   .exact ⟨4,b_ (j:=0) rfl,by decide,by cases sm <;> decide⟩
   .exact ⟨6,b_ (j:=1) rfl,by decide,by decide⟩
   .exact ⟨10,b_ (j:=2) rfl,by decide,by decide⟩
   .exact ⟨100,b_ (j:=3) rfl,by decide,by decide⟩
  have hl2:=S2 _ _ hl
  z5⟨_,rfl,l,_,1,_,rfl,rfl,hl2,dD,b,4,rfl,rfl,(show (0:Int)<4 by decide),_,rfl,sm,rfl,.inr ⟨!sm,rfl,_,_,rfl,rfl,⟨Bd.sm (by om),Bd.sm (by split <;> decide)⟩,p1,_,_,_,rfl,rfl,h2,by rw [ej]; qV ed,a,md,rfl,rfl,by om,1,_,rfl,rfl,?_⟩⟩
  obtain ⟨t,et,t0,t1⟩ : ∃ t:Int,1+a.fmod md=t/\1 <= t/\t <= hB sm:=⟨_,rfl,by rw [aZ _ (by om)]; have:=Int.emod_nonneg a (b:=md) (by om); om,by rw [aZ _ (by om)]; have:=Int.emod_lt_of_pos a (b:=md) m0; om⟩
  have h100:hB sm <= 100:=by cases sm <;> decide
  show Vh _ _ [some (.int c),some (.bl sm),some (.ref l),some (.int (1+a.fmod md))] H2
  rw [et]
  have f0:0 <= e.fmod t:=by rw [aZ _ (by om)]; qV Int.emod_nonneg _ (by om)
  have f1:e.fmod t<t:=by rw [aZ _ (by om)]; qV Int.emod_lt_of_pos _ (by om)
  z5 fY ⟨_,rfl,l,_,2,_,rfl,rfl,hl2,b_ (j:=2) rfl,_,rfl,e,t,rfl,rfl,by om,_,rfl,_,t,rfl,by om,Bd.sm (by om),fun p hp=>?_⟩
  have y0:=Ac.jT (t:=e.fmod t) (b:=t) (by om)
  have yg:=Ac.xr (t:=e.fmod t) (b:=t) (by om)
  have ye:=Ac.zy (t:=e.fmod t) (b:=t) (by om)
  have y2:=Ac.BK (e.fmod t) t
  generalize (Ac.lw (e.fmod t) t).1=x at *
  generalize (Ac.lw (e.fmod t) t).2=y at *
  z5 q p x y _ (S1.trans (S2.trans (Same.upd hp))) bK ?_ ?_ (by om) yg
  .refine Int.not_lt.mp fun z=>?_
   have h1:x * t<0:=Int.mul_neg_of_neg_of_pos z (by om)
   have h2:0 <= e.fmod t * y:=Int.mul_nonneg f0 (by om)
   om
  .refine Int.not_le.mp fun z=>?_
   have h1:y * t <= x * t:=Int.mul_le_mul_of_nonneg_right z (by om)
   have h2:e.fmod t * y<t * y:=Int.mul_lt_mul_of_pos_right f1 y0
   have h3:t * y=y * t:=Int.mul_comm ..
   om
noncomputable def ltL:List Nat:=(Str.ofString "abcdefghijklmnopqrstuvwxyz").cps.toList
~!abW:ltL.length=26:=by decide +kernel
~!abo:∀ a b:Fin 26,ltL[a.val]?=ltL[b.val]?->a=b:=by decide +kernel
~!acA {a b:Int}{c:Nat} (a0:0 <= a) (a1:a<26) (b0:0 <= b) (b1:b<26) (ha:ltL[a.toNat]?=some c) (hb:ltL[b.toNat]?=some c):a=b:=by
 have:=abo ⟨a.toNat,by om⟩ ⟨b.toNat,by om⟩ (ha.trans hb.symm)
 have:=congrArg Fin.val this
 simp only at this
 om
~!XC {a:Int} (a0:0 <= a) (a1:a<26):∃ c,atI (Str.ofString "abcdefghijklmnopqrstuvwxyz").cps.toList a=some c/\ltL[a.toNat]?=some c/\xX c=true:=by
 x5⟨k,rfl⟩:=Int.eq_ofNat_of_zero_le a0
 have h:k<ltL.length:=by rw [abW]; om
 qV⟨ltL[k],b_ (aj h),aj h,decide_eq_true (aX h)⟩
noncomputable def rJ (R:Nat->Str->Prop) (D:Addr) (H:Hp) (k:Nat) (ys:List V) (Hc:Hp):Prop:=∃ ss:List Str,ys=ss.map V.str/\ss.length=k/\(∀ i x,ss[i]?=some x->R i x)/\Hc=upd H D (.lst ys)
~!rJ.next {R:Nat->Str->Prop}{D:Addr}{H:Hp}{k:Nat}{ys:List V}{Hc:Hp} (h:rJ R D H k ys Hc) {x:Str} (h0:R k x):rJ R D H (k+1) (ys++[.str x]) (upd Hc D (.lst (ys++[.str x]))):=by
 x5⟨ws,rfl,rfl,ha,rfl⟩:=h
 z5⟨ws++[x],by rw [bD]; rfl,by rw [aB]; rfl,fun i y hy=>?_,wg⟩
 by_cases hi:i<ws.length
 .rw [aF hi] at hy
  qV ha i y hy
 .have hl:=(aq.mp hy).1
  rw [aB] at hl
  have hl:i<ws.length+1:=hl
  have e:i=ws.length:=by om
  subst e
  rw [aD (aG _),Nat.sub_self] at hy
  cases hy
  qV h0
~!rJ.at_ {R:Nat->Str->Prop}{D:Addr}{H:Hp}{k:Nat}{ys:List V}{Hc:Hp} (h:rJ R D H k ys Hc):Hc D=some (.lst ys):=by
 x5⟨ws,rfl,hl,ha,rfl⟩:=h
 qV bK
~!rJ.same {R:Nat->Str->Prop}{D:Addr}{H:Hp}{k:Nat}{ys:List V}{Hc:Hp} (h:rJ R D H k ys Hc) (hD:H D=none):Same H Hc:=by
 x5⟨ws,rfl,hl,ha,rfl⟩:=h
 qV Same.upd hD
~!RM {R:Nat->Str->Prop}{ss:List Str} (h:∀ i x,ss[i]?=some x->R i x) (u:∀ i j x,i<j->j<ss.length->R i x->R j x->False):ss.Nodup:=by
 unfold List.Nodup
 rw [List.pairwise_iff_getElem]
 intro i j hi hj ij e
 qV u i j ss[i] ij hj (h i _ (aj hi)) (by rw [e]; qV h j _ (aj hj))
~!acu {R:Nat->Str->Prop}{P:Str->Prop}{ss:List Str} (h:∀ i x,ss[i]?=some x->R i x) (u:∀ i x,i<ss.length->R i x->P x):∀ x∈ss,P x:=fun x hx=>by
 x5⟨i,hi⟩:=aY hx
 qV u i x (aq.mp hi).1 (h i x hi)
~!W9 {x:Str}{n:Nat} : (Gg x none (some (n:Int))).cps.toList=x.cps.toList.take n:=by
 unfold Gg
 have hl:x.cps.toList.length=x.length:=Array.length_toList
 show ((x.cps.toList.drop 0).take (HT.sIx x.length x.length (some (n:Int)) - 0))=_
 rw [HT.qd,List.drop_zero,Nat.sub_zero,<- hl]
 rw [List.take_eq_take_iff]
 om
~!Oh {x:Str}{n:Nat} : (Gg x (some (n:Int)) none).cps.toList=x.cps.toList.drop n:=by
 unfold Gg
 have hl:x.cps.toList.length=x.length:=Array.length_toList
 show ((x.cps.toList.drop (HT.sIx x.length 0 (some (n:Int)))).take (x.length - HT.sIx x.length 0 (some (n:Int))))=_
 rw [HT.qd,<- hl]
 by_cases h:n <= x.cps.toList.length
 .rw [Nat.min_eq_left h]
  qV aM (by rw [List.length_drop]; om)
 .rw [List.drop_eq_nil_of_le (by om:x.cps.toList.length <= n),List.drop_eq_nil_of_le (by om),List.take_nil]
~!Kf {ys:List V}{a b:Nat} (ab:a <= b) (h:b <= ys.length):m_ ys (some (a:Int)) (some (b:Int))=(ys.drop a).take (b - a):=by
 unfold m_
 rw [HT.qd,HT.qd,Nat.min_eq_left h,Nat.min_eq_left (aN ab h)]
~!Ia:∀ {ss:List Str},(∀ y∈ss,y.length=1)->(ss.map (·.length)).sum=ss.length
 | [],_=>rfl
 | y::ss,h=>by
  rw [List.map_cons,List.sum_cons,Ia fun z hz=>h z (aJ _ hz),h y aQ,List.length_cons]; om
noncomputable def nm1 (c:Nat) (i:Nat) (x:Str):Prop:=x.cps.toList=List.replicate (i+1) c
noncomputable def nm2 (b:List Nat) (at_:Nat) (x0 st:Int) (i:Nat) (x:Str):Prop:=∃ c,ltL[((x0+st * i) % 26).toNat]?=some c/\xX c=true/\x.cps.toList=b.take at_++c::b.drop at_
~!ab9 {b:List Nat}{at_:Nat}{x0 st:Int}{i j:Nat}{x:Str} (hs:st=1\/st=3\/st=5\/st=7\/st=9\/st=11) (ij:i<j) (hj:j<13) (h1:nm2 b at_ x0 st i x) (h2:nm2 b at_ x0 st j x):False:=by
 x5⟨c,a1,_,e1⟩:=h1
 x5⟨d,a2,_,e2⟩:=h2
 have e:=e1.symm.trans e2
 have e:=List.append_cancel_left e
 injection e with e _
 subst e
 have:=acA (by om) (by om) (by om) (by om) a1 a2
 rcases hs with rfl | rfl | rfl | rfl | rfl | rfl <;> om
~!rW (x:Str):x.cps.toList.length=x.length:=Array.length_toList
~!adR {c i:Nat}{x:Str} (hc:xX c=true) (hi:i<8) (h:nm1 c i x):Wd x:=by
 have l:=rW x
 rw [h,aP] at l
 z5⟨?_,by om,by om⟩
 unfold Lt
 rw [h,List.all_eq_true]
 intro d hd
 rw [(List.mem_replicate.mp hd).2]; qV hc
~!acE {b:List Nat}{at_:Nat}{x0 st:Int}{i:Nat}{x:Str} (hb:b.all xX=true) (hl:b.length <= 7) (h:nm2 b at_ x0 st i x):Wd x:=by
 x5⟨c,_,hc,e⟩:=h
 have l:=rW x
 rw [e,aB,List.length_cons,bA,List.length_drop] at l
 z5⟨?_,by om,by om⟩
 unfold Lt
 rw [e,List.all_eq_true]
 rw [List.all_eq_true] at hb
 intro d hd
 rcases List.mem_append.mp hd with hd | hd
 .exact hb d (List.mem_of_mem_take hd)
 .rcases List.mem_cons.mp hd with rfl | hd
  .exact hc
  .exact hb d (List.mem_of_mem_drop hd)
noncomputable def sJN (P:Str->Prop) (D:Addr) (H:Hp) (k:Nat) (ys:List V) (Hc:Hp):Prop:=∃ ss:List Str,ys=ss.map V.str/\ss.length=k/\(∀ x∈ss,P x)/\Hc=upd H D (.lst ys)
~!sJN.next {P:Str->Prop}{D:Addr}{H:Hp}{k:Nat}{ys:List V}{Hc:Hp} (h:sJN P D H k ys Hc) {x:Str} (h0:P x):sJN P D H (k+1) (ys++[.str x]) (upd Hc D (.lst (ys++[.str x]))):=by
 x5⟨ws,rfl,hl,ha,rfl⟩:=h
 z5⟨ws++[x],by rw [bD]; rfl,by rw [aB,hl]; rfl,fun y hy=>?_,wg⟩
 rcases List.mem_append.mp hy with hy | hy
 .exact ha y hy
 .rw [List.mem_singleton.mp hy]; qV h0
~!sJN.at_ {P:Str->Prop}{D:Addr}{H:Hp}{k:Nat}{ys:List V}{Hc:Hp} (h:sJN P D H k ys Hc):Hc D=some (.lst ys):=by
 x5⟨ws,rfl,hl,ha,rfl⟩:=h
 qV bK
noncomputable def Fi:Sp:=fun vs H Q _=>∃ (c:Int) (n:Nat),vs=[.int c,.int n]/\n <= 12/\∀ (l:Addr) (xs:List Str) H',Same H H'->H l=none->H' l=some (.lst (xs.map V.str))->xs.length=n->(∀ x∈xs,Wd x)->xs.Nodup->Q (.ref l) H'
~!Nu {a b:TT}{t v:TS}{D:Ends}{σ:L2.St}{H:Hp} (p q:Bool) (ha:∀ Q:Bool->Hp->Prop,Q p H->a σ H Q) (hb:∀ Q:Bool->Hp->Prop,Q q H->b σ H Q) (ht:(p && q)=true->t { D with nx:=v D } σ H) (hu:v D σ H):q_ (Gx (X3 a b) t yC) v D σ H:=by
 z5 ha _ ?_
 cases p with
 | false=>qV hu
 | true =>
  z5 hb _ ?_
  cases q with
  | false=>qV hu
  | true=>qV ht rfl
~!Yo (F:Fun K ud ud v9 f fd) (T:Txt K mg D) (dH:OkF P w K mg base 1 iy g_ gj):cD P w K mg base CX0 2 f fd uO Fi:=by
 z5 F.okB qT ?_ ?_
 .rintro _ _ _ _ ⟨c,n,rfl,_⟩; rfl
 .rintro cdv A outer s H _ Q E hr ⟨c,n,rfl,hn,q⟩
  have z1000:1000 <= sizeLine:=by decide
  have lL:(Str.ofString "abcdefghijklmnopqrstuvwxyz").length <= sizeLine:=aN (show (Str.ofString "abcdefghijklmnopqrstuvwxyz").length <= 1000 by decide +kernel) z1000
  z5⟨_,(cJ (PSB.mk (cA (i:=2) qT.nd rfl (Or.inr rfl) iZ))
   (cJ (PSB.mk (cA (i:=3) qT.nd rfl (Or.inr rfl) (bU dH hr.md (by rfl) (bG (pv 0) (bG bH bI)))))
   (cJ (PSB.mk (cY (PW.pt (pw_and (cL n8 (bV cR (bZ bY (pv 3) bH (fun _ _=>rfl)) bH) bH (cM _)) (pw_and1 (cL BW (pv 1) bH (cM _)))))
    (bQ (cu (jy (bO v9) sy sy ["_law_k"] (lC (by rfl) T.qe (bG (pv 1) bI).mono) (eV (i:=0)) c7 (bV abG (bZ Qn (pv 3) (bV cR (bZ bY (pv 4) bH (fun _ _=>rfl)) bH) (fun _ _=>rfl)) (bV dj (pv 0) bH)))))
    cC))
   (cJ (PSB.mk (cA (i:=4) qT.nd rfl (Or.inr rfl) (ae8 PySem.F.slot_str_join PySem.F.type_str_join ab1 iZ (bG (jy (bO v9) sy sy ["_law_x"] (cV ((jz CG (pv 3) (gU bH) (gU (bV dj bH (bV cR (bZ bY (pv 3) bH (fun _ _=>rfl)) bH))))).mono) (eV (i:=0)) c7 (bZ Qn (pv 3) (bV cR (pv 0) bH) (fun _ _=>rfl))) bI))))
   (cJ (PSB.mk (cA (i:=5) qT.nd rfl (Or.inr rfl) (bV cR (bZ bY (pv 3) bH (fun _ _=>rfl)) bH)))
   (cJ (aaB (i:=6) qT.nd rfl (Or.inr rfl) (aaR (aax (Jb v8 (Jb v8 (Jb v8 (Jb v8 (Jb v8 (Jb v8 ab0))))))) (bV cR (bZ bY (pv 3) bH (fun _ _=>rfl)) bH) (fun _ _=>rfl)))
   (z6 (PSB.mk (cu (jy (bO v9) sy sy ["_law_k"] (lC (by rfl) T.qe (bG (pv 1) bI).mono) (eV (i:=0)) c7 (bV Ug (bV Ug (jz Zq (pv 5) wu (gU (pv 6))) (bZ Qn (pv 3) (bV cR (bV dj (bZ bY (pv 4) bH (fun _ _=>rfl)) (bV cZ (pv 7) (pv 0))) bH) (fun _ _=>rfl))) (jz Zq (pv 5) (gU (pv 6)) wu)))))))))))),?_⟩
  unfold gj
  z5⟨_,rfl,c,11,rfl,by decide,fun l xs H1 S1 hl hl1 hx hr'=>?_⟩
  have at_:∀ j,j<11->∃ y,atI (xs.map V.int) (j:Nat)=some (.int y)/\0 <= y:=fun j hj=>by
   have:j<xs.length:=by om
   qV⟨xs[j],b_ (j:=j) (by rw [au,aj this]; rfl),(hr' _ (aX this)).1⟩
  x5⟨x0,a0,p0⟩:=at_ 0 (by decide)
  x5⟨x1,a1,p1⟩:=at_ 1 (by decide)
  x5⟨x9,a9,p9⟩:=at_ 9 (by decide)
  x5⟨x10,a10,p10⟩:=at_ 10 (by decide)
  dsimp only [cU]
  z5 Nu (decide (x0 % 3=1)) (decide ((n:Int) <= 8)) (fun Q' hq=>?_) (fun Q' hq=>?_) (fun hc=>?_) ?_
  .walk_at "rd"
   qV⟨_,hl1,_,a0,_,rfl,hq⟩
  .walk_at "rd"
   qV hq
  .simp only [Bool.and_eq_true,decide_eq_true_eq] at hc
   x5⟨c1,e1,g1,lc1⟩:=XC (a:=x1 % 26) (by om) (by om)
   z5 pZ ?_
   walk_at "rd"
   z5⟨n,rfl,by om,fun D2 hD2=>⟨rJ (nm1 c1) D2 H1,⟨[],rfl,rfl,by simp,rfl⟩,?_,?_⟩⟩
   .rintro k ys Hc hk j hy
    have hlc:Hc l=some (.lst (xs.map V.int)):=j.same hD2 _ _ hl1
    unfold acr
    walk_at "rd"
    z5⟨_,hlc,_,a1,_,rfl,lL,c1,e1,c1,rfl,by om,by om,fun z hz=>⟨j.at_,j.next ?_⟩⟩
    rw [show ((k:Int)+1).toNat=k+1 by om] at hz
    qV hz
   .rintro ys Hc ⟨ss,rfl,hsl,hss,rfl⟩ hy
    z5 q D2 ss _ (S1.trans (Same.upd hD2)) (Same.free S1 hD2) bK hsl (acu hss fun i x hi h=>adR lc1 (by om) h) (RM hss fun i j x ij hj h1 h2=>?_)
    have:=congrArg List.length (h1.symm.trans h2)
    rw [aP,aP] at this
    om
  .walk_at "rd"
   z5 dR ?_
   walk_at "rd"
   obtain ⟨m,em,hm⟩ : ∃ m:Nat,x1 % 8=m/\m <= 7:=⟨(x1 % 8).toNat,by om,by om⟩
   z5⟨_,hl1,_,a1,_,rfl,_,.of hl1,fun p hp=>?_⟩
   have ec:m_ (xs.map V.int) (some 2) (some (2+x1 % 8))=((xs.drop 2).take m).map V.int:=by
    rw [em,List.map_take,List.map_drop]
    have:=Kf (ys:=xs.map V.int) (a:=2) (b:=2+m) (by om) (by rw [ao]; om)
    rw [show 2+m - 2=m by om] at this
    qV this
   rw [ec]
   have ml:((xs.drop 2).take m).length=m:=by rw [bA,List.length_drop]; om
   have S2:Same H1 (upd H1 p (.lst (((xs.drop 2).take m).map V.int))):=Same.upd hp
   generalize upd H1 p (.lst (((xs.drop 2).take m).map V.int))=H2 at S2 ⊢
   generalize (xs.drop 2).take m=us at ml ⊢
   z5⟨by rw [ao]; om,fun D1 hD1=>⟨sJN (fun x=>Lt x/\x.length=1) D1 H2,⟨[],rfl,rfl,by simp,rfl⟩,?_,?_⟩⟩
   .rintro k y1 ys Hc hk j hy hpc
    rw [au] at hk
    cases er:us[k]? with
    | none=>rw [er] at hk; cases hk
    | some i =>
     rw [er] at hk
     cases hk
     x5⟨c',e',hc'⟩:=Lt.one (Int.emod_nonneg i (show (26:Int)≠0 by decide)) (Int.emod_lt_of_pos i (by decide))
     qV⟨i,rfl,lL,c',e',j.at_,hpc,j.next ⟨hc',rfl⟩⟩
   .rintro ys Hc ⟨ss,rfl,hl8,hss,rfl⟩ hy
    rw [ao,ml] at hl8
    have stL:Lt (Txt.join (Str.ofString "") ss):=Lt.glued fun y hy=>(hss y hy).1
    have sum1:(ss.map (·.length)).sum=m:=by rw [Ia fun y hy=>(hss y hy).2,hl8]
    have e0:(Str.ofString "").length=0:=by decide +kernel
    have stN:(Txt.join (Str.ofString "") ss).length=m:=by
     show (Builtin.Str.glued (Str.ofString "") ss).length=m
     rw [size_glued,sum1,e0,Nat.mul_zero]; rfl
    have S3:Same H (upd H2 D1 (.lst (ss.map V.str))):=S1.trans (S2.trans (Same.upd hD1))
    have hl3:upd H2 D1 (.lst (ss.map V.str)) l=some (.lst (xs.map V.int)):=Same.upd hD1 _ _ (S2 _ _ hl1)
    z5⟨ss,bK,by rw [sum1,e0]; om,?_⟩
    generalize upd H2 D1 (.lst (ss.map V.str))=H3 at S3 hl3 ⊢
    generalize Txt.join (Str.ofString "") ss=st at stL stN ⊢
    z5⟨_,hl3,_,a9,_,rfl,by decide,fun p2 hp2=>?_⟩
    have hl4:upd H3 p2 (.lst [.int 1,.int 3,.int 5,.int 7,.int 9,.int 11]) l=some (.lst (xs.map V.int)):=Same.upd hp2 _ _ hl3
    have S4:Same H (upd H3 p2 (.lst [.int 1,.int 3,.int 5,.int 7,.int 9,.int 11])):=S3.trans (Same.upd hp2)
    have hp4:upd H3 p2 (.lst [.int 1,.int 3,.int 5,.int 7,.int 9,.int 11]) p2=some (.lst [.int 1,.int 3,.int 5,.int 7,.int 9,.int 11]):=bK
    generalize upd H3 p2 (.lst [.int 1,.int 3,.int 5,.int 7,.int 9,.int 11])=H4 at S4 hl4 hp4 ⊢
    z5⟨_,hl4,_,a10,_,rfl,?_⟩
    obtain ⟨sv,es,hs⟩ : ∃ sv:Int,atI [V.int 1,V.int 3,V.int 5,V.int 7,V.int 9,V.int 11] (x10 % 6)=some (.int sv)/\(sv=1\/sv=3\/sv=5\/sv=7\/sv=9\/sv=11):=by
     obtain e | e | e | e | e | e:x10 % 6=0\/x10 % 6=1\/x10 % 6=2\/x10 % 6=3\/x10 % 6=4\/x10 % 6=5:=by om
     .exact ⟨1,by rw [e]; qV b_ (j:=0) rfl,by decide⟩
     .exact ⟨3,by rw [e]; qV b_ (j:=1) rfl,by decide⟩
     .exact ⟨5,by rw [e]; qV b_ (j:=2) rfl,by decide⟩
     .exact ⟨7,by rw [e]; qV b_ (j:=3) rfl,by decide⟩
     .exact ⟨9,by rw [e]; qV b_ (j:=4) rfl,by decide⟩
     .exact ⟨11,by rw [e]; qV b_ (j:=5) rfl,by decide⟩
    obtain ⟨ap,eap,hap⟩ : ∃ ap:Nat,x9 % 8=ap/\ap <= 7:=⟨(x9 % 8).toNat,by om,by om⟩
    z5⟨_,es,pZ ?_⟩
    rw [eap]
    walk_at "rd"
    z5⟨n,rfl,by om,fun D2 hD2=>⟨rJ (nm2 st.cps.toList ap x0 sv) D2 H4,⟨[],rfl,rfl,by simp,rfl⟩,?_,?_⟩⟩
    .rintro k ys Hc hk j hy
     have hlc:Hc l=some (.lst (xs.map V.int)):=j.same hD2 _ _ hl4
     x5⟨c2,e2,g2,lc2⟩:=XC (a:=(x0+sv * k) % 26) (by om) (by om)
     have t1:(Gg st none (some (ap:Int))).length <= 7:=by rw [<- rW,W9,bA,rW]; om
     have t2:(Gg st (some (ap:Int)) none).length <= 7:=by rw [<- rW,Oh,List.length_drop,rW]; om
     have t3:({ cps:=#[c2] } : Str).length=1:=rfl
     z5⟨by om,_,hlc,_,a0,Bd.sm (by om),Bd.sm (by om),_,rfl,lL,c2,e2,by om,by om,by rw [aau]; om,j.at_,j.next ⟨c2,g2,lc2,?_⟩⟩
     rw [RX,RX,W9,Oh,List.append_assoc]; rfl
    .rintro ys Hc ⟨ns,rfl,hsl,hns,rfl⟩ hy
     z5 q D2 ns _ (S4.trans (Same.upd hD2)) (Same.free S4 hD2) bK hsl (acu hns fun i x hi h=>acE stL (by rw [rW]; om) h) (RM hns fun i j x ij hj h1 h2=>ab9 hs ij (by om) h1 h2)
noncomputable def clsOf (D:Adr) (so:Int):Addr:=if so=0 then D.Sure else if so=1 then D.Toss else if so=2 then D.Even else D.Mixed
structure Drawn (so:Int) (rs:List Str) (ws:List Int) (S:Int):Prop where
 s0:0 <= so
 s3:so <= 3
 len:rs.length=ws.length
 wt:Wt (rs.zip ws) S
 ne:1 <= rs.length
 a0:so=0->rs.length=1/\ws=[1]/\S=1
 a1:so=1->rs.length=2
 a2:so=2->ws=List.replicate rs.length 1/\S=rs.length
~!Ou:∀ rs:List Str,rs.zip (List.replicate rs.length (1:Int))=rs.map fun r=>(r,(1:Int))
 | []=>rfl
 | r::rs=>by rw [List.length_cons,List.replicate_succ,List.zip_cons_cons,Ou rs]; rfl
structure PI (H:Hp) (ps:List V) (rs:List Nat) (ws:List Int) (S:Int):Prop where
 len:ps.length=rs.length
 at_:∀ (k r:Nat) (x:Int),rs[k]?=some r->ws[k]?=some x->∃ t c:Addr,ps[k]?=some (.ref t)/\H t=some (.tup [.int (r:Nat),.ref c])/\H c=some (.tup [.int (Ac.lw x S).1,.int (Ac.lw x S).2])
~!PI.same {H H':Hp}{ps:List V}{rs:List Nat}{ws:List Int}{S:Int} (h:PI H ps rs ws S) (T:Same H H'):PI H' ps rs ws S:=⟨h.len,fun k r x e1 e2=>let ⟨t,c,a,b,d⟩:=h.at_ k r x e1 e2; ⟨t,c,a,T _ _ b,T _ _ d⟩⟩
noncomputable def yP (ns:List Str) (rs:List Nat) (nms:List Str):Prop:=nms.length=rs.length/\∀ (k r:Nat) (m:Str),rs[k]?=some r->nms[k]?=some m->ns[r]?=some m
noncomputable def Ew (K:Frag) (D:Adr):Sp:=fun vs H Q _=>∃ (so:Int) (d n lp p:Addr) (t:Str) (x y S:Int) (rs:List Nat) (ws:List Int) (ps:List V) (ns nms:List Str),vs=[.str t,.ref d,.ref n]/\H d=some (.tup [.int so,.ref p,.ref lp])/\Wd t/\Fk K H p x y/\H lp=some (.lst ps)/\PI H ps rs ws S/\H n=some (.lst (ns.map V.str))/\yP ns rs nms/\Drawn so nms ws S /\
 ∀ H' s ld ys us,Same H H'->H s=none->H ld=none->Rv K H' s (clsOf D so) t p (Ac.ways (nms.zip ws) S) ld ys us->Q (.ref s) H'
noncomputable def bJ (D1:Addr) (gs:List (Str×Int)) (S:Int) (H:Hp) (k:Nat) (ys:List V) (H':Hp):Prop:=Same H H'/\H' D1=some (.lst ys)/\PW H' ys (gs.take k) S
noncomputable def eJ (D1:Addr) (ss:List Str) (H:Hp) (k:Nat) (ys:List V) (H':Hp):Prop:=Same H H'/\H' D1=some (.lst ys)/\ys=(ss.take k).map V.str
~!PW.snocT {H:Hp}{xs:List V}{gs:List (Str×Int)}{S x:Int}{m:Str}{t c:Addr} (h:PW H xs gs S) (ht:H t=some (.tup [.str m,.ref c])) (hc:H c=some (.tup [.int (Ac.lw x S).1,.int (Ac.lw x S).2])):PW H (xs++[.ref t]) (gs++[(m,x)]) S:=by
 z5⟨by rw [aB,aB,h.len]; rfl,fun k g' e=>?_⟩
 by_cases hk:k<gs.length
 .rw [aF hk] at e
  x5⟨t',c',a,b⟩:=h.at_ k g' e
  qV⟨t',c',by rw [aF (by rw [h.len]; qV hk)]; qV a,b⟩
 .rw [aD (by om)] at e
  have e0:k - gs.length=0:=by
   have:=(aq.mp e).1
   simp at this; om
  rw [e0] at e
  cases e
  z5⟨t,c,?_,ht,hc⟩
  rw [aD (by rw [h.len]; om),h.len,e0]; rfl
~!YH (F:Fun K uZ uZ zG f fd) (T:Txt K mg D) (su:OkI P w K mg base (CXO P w) 5 D.Sure_init lZ (rT (K:=K) D)) (eX:OkI P w K mg base (CXO P w) 5 D.Mixed_init gO (gM K D)) (sE:OkI P w K mg base (CXO P w) 6 D.Toss_init mC (sG K D))
  (rB:OkI P w K mg base (CXO P w) 6 D.Even_init mO (rF K D)):cD P w K mg base CX0 8 f fd tD (Ew K D):=by
 z5 F.ok uy ?_ ?_
 .rintro _ _ _ _ ⟨so,d,n,lp,p,t,x,y,S,rs,ws,ps,ns,nms,rfl,_⟩; rfl
 .rintro cdv A outer s H _ Q E hr ⟨so,d,n,lp,p,t,x,y,S,rs,ws,ps,ns,nms,rfl,hd,ht,hf,hlp,hp,hns,no,dr,q⟩
  have fam:∀ C,(C=D.Sure\/C=D.Mixed\/C=D.Toss\/C=D.Even)->Fam D C:=by
   intro C hC
   unfold Fam
   rcases hC with h | h | h | h <;> simp [h]
  have s0:=dr.s0
  have s3:=dr.s3
  have hlen:=dr.len
  have gl:(nms.zip ws).length=nms.length:=by rw [List.length_zip]; om
  have g8:=dr.wt.len
  have z9:100<sizeLine:=by decide
  z5⟨_,(bN (uH (pv 1) (gR (n:=3) rfl (cF (cG (i:=4) uy.nd rfl (Or.inl rfl)) (cF (cG (i:=5) uy.nd rfl (Or.inl rfl)) (cF (cG (i:=6) uy.nd rfl (Or.inl rfl)) gC)))))
   (bN (Iu (bO zG) zc zc ["_law_room", "_law_chance"] (cV ((pv 6)).mono) (gR (n:=2) rfl (cF (eV (i:=0)) (cF (eV (i:=1)) gC))) c7 (kZ (bG (bZ bY (pv 4) (pv 0) (fun _ _=>rfl)) (bG (pv 1) bI))) (cG (i:=3) uy.nd rfl (Or.inl rfl)))
   (bN (cY (cL n8 (pv 4) bH (cM _))
    (bQ (cu (tU T.abQ su hr.md (by rfl) T.adG yt (bG (pv 0) (bG (pv 5) (bG (bZ dX (bZ bY (pv 3) bH (fun _ _=>rfl)) bH (fun _ _=>rfl)) bI))))))
    cC)
   (bN (cY (cL n8 (pv 4) bH (cM _))
    (bQ (cu (tU T.aaZ sE hr.md (by rfl) T.adU yt (bG (pv 0) (bG (pv 5) (bG (bZ dX (bZ bY (pv 3) bH (fun _ _=>rfl)) bH (fun _ _=>rfl)) (bG (bZ dX (bZ bY (pv 3) bH (fun _ _=>rfl)) bH (fun _ _=>rfl)) (bG (bZ dX (bZ bY (pv 3) bH (fun _ _=>rfl)) bH (fun _ _=>rfl)) bI))))))))
    cC)
   (bN (cY (cL n8 (pv 4) bH (cM _))
    (bQ (cu (tU T.abq rB hr.md (by rfl) T.acH yt (bG (pv 0) (bG (pv 5) (bG (jy (bO zG) zc zc ["_law_room", "_law_chance"] (cV ((pv 3)).mono) (gR (n:=2) rfl (cF (eV (i:=0)) (cF (eV (i:=1)) gC))) c7 (pv 0)) bI))))))
    cC)
   (bQ (cu (tU T.Xw eX hr.md (by rfl) T.K9 yt (bG (pv 0) (bG (pv 5) (bG (pv 3) bI))))))))))),?_⟩
  z5 cg fun R0 hR0=>?_
  walk_at "rd"
  z5⟨_,hd,rfl,_,_,rfl,_,_,rfl,_,_,rfl,rfl,?_⟩
  subst hR0
  z5 cg fun R1 hR1=>?_
  z5 cN (qb ?_)
  walk_at "rd"
  have l100:ps.length <= sizeLine:=by rw [hp.len,<- no.1]; om
  z5⟨ps,hlp,l100,fun D1 hD=>⟨bJ D1 (nms.zip ws) S H,⟨Same.upd hD,bK,rfl,fun k g e=>by simp at e⟩,?_,?_⟩⟩
  .rintro k v ys Hc hk ⟨S1,h1,pw⟩ hy hlc pre hpre
   have lk:k<rs.length:=by rw [<- hp.len]; qV(aq.mp hk).1
   have e1:rs[k]?=some rs[k]:=aj lk
   have e2:nms[k]?=some (nms[k]'(by rw [no.1]; qV lk)):=aj _
   have e3:ws[k]?=some (ws[k]'(by rw [<- hlen,no.1]; qV lk)):=aj _
   have eg:(nms.zip ws)[k]?=some (nms[k]'(by rw [no.1]; qV lk),ws[k]'(by rw [<- hlen,no.1]; qV lk)):=List.getElem?_zip_eq_some.mpr ⟨e2,e3⟩
   have en:=no.2 _ _ _ e1 e2
   x5⟨tt,c,ea,eb,ec⟩:=(hp.same S1).at_ k _ _ e1 e3
   rw [hk] at ea
   cases ea
   generalize rs[k]=r at *
   generalize nms[k]'(by rw [no.1]; qV lk)=m at *
   generalize ws[k]'(by rw [<- hlen,no.1]; qV lk)=z at *
   x5⟨u1,u2,rfl⟩:=xR hpre
   walk_at "rd"
   z5⟨_,eb,rfl,_,_,rfl,_,_,rfl,rfl,[_,_],rfl,rfl,?_⟩
   z5⟨_,_,rfl,S1 _ _ hns,_,b_ (by rw [au,en]; rfl),dW,fun p1 hp1=>?_⟩
   have nD:D1≠p1:=bL h1 hp1
   z5⟨(bM nD).trans h1,(bM (bL hlc hp1)).trans hlc,fun b o e=>(bM (bL e hD)).trans ((bM (bL (S1 _ _ e) hp1)).trans (S1 _ _ e)),bK,?_⟩
   rw [cH eg]
   z5(pw.imp fun t ys e=>?_).snocT (c:=c) ?_ ?_
   .exact (bM (fM e h1 (by intro z; cases z))).trans ((bM (bL e hp1)).trans e)
   .exact (bM nD.symm).trans bK
   .exact (bM (fM ec h1 (by intro z; cases z))).trans ((bM (bL ec hp1)).trans ec)
  .rintro ys Hc ⟨S1,h1,pw⟩ hy
   rw [hp.len,<- no.1,<- gl,aR] at pw
   have hw:=ht.word
   have h1000:t.length <= 1000:=aN ht.hi (by decide)
   have hf':=hf.same S1
   have mk:∀ {G:Hp}{C s dx:Addr},G s=none->G dx=none->¬ dx=s->Same G (upd (upd G dx (.own s)) s (.ins C dx [])):=fun {G C s dx} h1 h2 h3 b o e=>by
    rw [bM (bL e h1),bM (bL e h2)]; qV e
   have kp:∀ {G:Hp}{C s dx:Addr}{H':Hp},Same H G->G s=none->G dx=none->¬ dx=s->Keep s (upd (upd G dx (.own s)) s (.ins C dx [])) H'->Same H H':=fun {G C s dx H'} SG h1 h2 h3 k b o e=>k b o (bL (SG _ _ e) h1) (mk h1 h2 h3 b o (SG _ _ e))
   subst hR1
   obtain e | e | e | e:so=0\/so=1\/so=2\/so=3:=by om
   .subst e
    x5⟨l1,rfl,rfl⟩:=dr.a0 rfl
    x5⟨r,rfl⟩:=List.length_eq_one_iff.mp l1
    have wr:=dr.wt.wd (r,1) (by simp)
    x5⟨t0,c0,ea,eb,ec⟩:=pw.at_ 0 (r,1) rfl
    z5 uY (fun R r=>⟨_,rfl,r⟩) rfl fun Kn hK=>fY ?_
    z5⟨_,rfl,_,rfl,_,rfl,_,_,_,_,rfl,rfl,h1,b_ (j:=0) ea,_,_,_,_,rfl,rfl,eb,d8,fun o dx g1 g2 g3=>⟨o,dx,t,r,p,x,y,rfl,bK,h1000,hw,wr.1,wr.2,hf'.same (mk g1 g2 g3),fun t l H' f k e1 e2 e3=>⟨rfl,?_⟩⟩⟩
    z5 q H' o l [.ref t] [(r,D.ONE)] (kp S1 g1 g2 g3 k) (Same.free S1 g1) (Same.free S1 (Same.free (mk g1 g2 g3) f)) ⟨⟨dx,e3⟩,e2,?_⟩
    show WF K H' [.ref t] (Ac.ways [(r,1)] 1) [(r,D.ONE)]
    rw [Ac.YQ]
    qV .cons e1 (T.uW H') .nil
   .subst e
    have l2:=dr.a1 rfl
    x5⟨r1,r2,rfl⟩:=xR l2
    x5⟨w1,w2,rfl⟩:=xR (hlen.symm.trans l2)
    have wt:=dr.wt
    have es:w2=S - w1:=by
     have:=wt.sum
     simp at this
     om
    subst es
    x5⟨t0,c0,ea,eb,ec⟩:=pw.at_ 0 (r1,w1) rfl
    x5⟨t1,c1,fa,fb,fc⟩:=pw.at_ 1 (r2,S - w1) rfl
    z5 nH (fun R r=>⟨_,rfl,r⟩) (by decide) (uY (fun R r=>⟨_,rfl,r⟩) rfl fun Kn hK=>fY ?_)
    z5⟨_,rfl,_,rfl,_,rfl,_,_,_,_,rfl,rfl,h1,b_ (j:=0) ea,_,_,_,_,rfl,rfl,eb,dD,_,rfl,_,_,_,_,rfl,rfl,h1,b_ (j:=0) ea,_,_,_,_,rfl,rfl,eb,d8,_,rfl,_,_,_,_,rfl,rfl,h1,b_ (j:=1) fa,_,_,_,_,rfl,rfl,fb,d8,fun o dx g1 g2 g3=>?_⟩
    qV⟨o,dx,t,r1,r2,p,c0,x,y,w1,S,rfl,bK,h1000,hw,hf'.same (mk g1 g2 g3),mk g1 g2 g3 _ _ ec,wt,fun H' ld ys us f k d=>⟨rfl,q H' o ld ys us (kp S1 g1 g2 g3 k) (Same.free S1 g1) (Same.free S1 (Same.free (mk g1 g2 g3) f)) d⟩⟩
   .subst e
    x5⟨ew,rfl⟩:=dr.a2 rfl
    subst ew
    have hz:nms.zip (List.replicate nms.length (1:Int))=nms.map fun r=>(r,(1:Int)):=Ou nms
    have wt:=dr.wt
    rw [hz] at wt q
    have ml:(nms.map fun r=>(r,(1:Int))).length=nms.length:=ao ..
    rw [hz] at pw
    z5 nH (fun R r=>⟨_,rfl,r⟩) (by decide) (nH (fun R r=>⟨_,rfl,r⟩) (by decide) (uY (fun R r=>⟨_,rfl,r⟩) rfl fun Kn hK=>fY ?_))
    z5⟨_,rfl,_,rfl,Nj (qb ⟨_,rfl,_,ys,rfl,h1,by rw [pw.len,ml]; om,fun D2 hD2=>⟨eJ D2 nms Hc,⟨Same.upd hD2,bK,rfl⟩,?_,?_⟩⟩)⟩
    .rintro k v zs H3 hk ⟨S3,h3,ez⟩ hy3 h13 pre hpre
     have lk:k<nms.length:=by rw [<- ml,<- pw.len]; qV(aq.mp hk).1
     have e2:nms[k]?=some nms[k]:=aj lk
     x5⟨t0,c0,ea,eb,ec⟩:=pw.at_ k (nms[k],1) (by rw [au,e2]; rfl)
     rw [hk] at ea
     cases ea
     generalize nms[k]=m at *
     x5⟨u1,u2,rfl⟩:=xR hpre
     z5⟨_,_,rfl,S3 _ _ eb,rfl,⟨_,_,rfl,_,_,rfl,rfl,[_,_],rfl,rfl,⟨_,rfl,h3,h13,fun b o e=>(bM (bL e hD2)).trans (S3 _ _ e),bK,?_⟩⟩⟩
     rw [cH e2,bD,ez]; rfl
    .rintro zs H3 ⟨S3,h3,ez⟩ hy3 o dx g1 g2 g3
     rw [pw.len,ml,aR] at ez
     subst ez
     qV⟨o,dx,t,p,D2,x,y,nms,rfl,bK,h1000,hw,(hf'.same S3).same (mk g1 g2 g3),mk g1 g2 g3 _ _ h3,wt,fun H' ld ys us f k d=>⟨rfl,q H' o ld ys us (kp (S1.trans S3) g1 g2 g3 k) (Same.free (S1.trans S3) g1) (Same.free (S1.trans S3) (Same.free (mk g1 g2 g3) f)) d⟩⟩
   .subst e
    z5 nH (fun R r=>⟨_,rfl,r⟩) (by decide) (nH (fun R r=>⟨_,rfl,r⟩) (by decide) (nH (fun R r=>⟨_,rfl,r⟩) (by decide) (fY ?_)))
    z5⟨_,rfl,_,rfl,_,rfl,fun o dx g1 g2 g3=>?_⟩
    qV⟨o,dx,D.Mixed,t,p,D1,x,y,ys,_,_,rfl,bK,fam _ (by simp),h1000,hw,hf'.same (mk g1 g2 g3),mk g1 g2 g3 _ _ h1,pw.same (mk g1 g2 g3),dr.wt,fun H' ld ys us f k d=>⟨rfl,q H' o ld ys us (kp S1 g1 g2 g3 k) (Same.free S1 g1) (Same.free S1 (Same.free (mk g1 g2 g3) f)) d⟩⟩
~!K1 {t b:Int} : Ac.lw (b - t) b=((Ac.lw t b).2 - (Ac.lw t b).1,(Ac.lw t b).2):=by
 unfold Ac.lw
 rw [Int.gcd_self_sub_left,Int.sub_ediv_of_dvd b (Int.gcd_dvd_left t b)]
~!SX {b:Int} : Ac.lw 1 b=(1,b):=by
 unfold Ac.lw
 rw [Int.one_gcd]
 simp
structure abt (x y:Int):Prop where
 gcd:Int.gcd x y=1
 sa:x.natAbs <= 10 ^ 30
 sb:y <= 1000
structure sJ (n:Nat) (so:Int) (rs:List Nat) (ws:List Int) (S:Int):Prop where
 s0:0 <= so
 s3:so <= 3
 len:rs.length=ws.length
 pos:0<S
 le:S <= 10 ^ 20
 l8:rs.length <= 4
 lo:∀ x∈ws,0 <= x
 sum:ws.sum=S
 ne:1 <= rs.length
 a0:so=0->rs.length=1/\ws=[1]/\S=1
 a1:so=1->rs.length=2
 a2:so=2->ws=List.replicate rs.length 1/\S=rs.length
 lt:∀ r∈rs,r<n
~!sJ.drawn {n:Nat}{so S:Int}{rs:List Nat}{ws:List Int}{ns nms:List Str} (h:sJ n so rs ws S) (no:yP ns rs nms) (hw:∀ m∈ns,Wd m):Drawn so nms ws S:=by
 have e:=no.1
 have l:=h.len
 z5⟨h.s0,h.s3,by om,⟨h.pos,h.le,?_,fun g hg=>?_,fun g hg=>?_,?_⟩,by rw [e]; qV h.ne,fun z=>by rw [e]; qV h.a0 z,fun z=>by rw [e]; qV h.a1 z,fun z=>by rw [e]; qV h.a2 z⟩
 .rw [List.length_zip]
  have:=h.l8
  om
 .obtain ⟨k,hk⟩:=aY hg
  x5⟨a,b⟩:=List.getElem?_zip_eq_some.mp hk
  have lk:=(aq.mp a).1
  have er:rs[k]?=some (rs[k]'(by om)):=aj _
  have w:=hw _ (aC (no.2 k _ _ er a))
  qV⟨aN w.hi (by decide),w.word⟩
 .exact h.lo _ (List.of_mem_zip hg).2
 .have:(nms.zip ws).map (·.2)=ws:=List.map_snd_zip (by om)
  rw [this]; qV h.sum
~!jK {t v:TS}{D:Ends}{σ:L2.St}{H:Hp}{i k:Int} (hσ:σ[5]?=some (some (.int i))) (ne:i≠k) (h:v D σ H):q_ (Gx (zH (tOp rEq (Ei 5) (tC (.int k)))) t yC) v D σ H:=by
 z5⟨_,hσ,rfl,_,rfl,?_⟩
 dsimp only
 rw [if_neg (by simp [ne])]
 qV h
~!xg {t v:TS}{D:Ends}{σ:L2.St}{H:Hp}{i k:Int} (hσ:σ[5]?=some (some (.int i))) (e:i=k) (h:∀ Kn:L2.St->Hp->Prop,(∀ σ' H',v D σ' H'->Kn σ' H')->t { D with nx:=Kn } σ H):q_ (Gx (zH (tOp rEq (Ei 5) (tC (.int k)))) t yC) v D σ H:=by
 z5⟨_,hσ,rfl,_,rfl,?_⟩
 dsimp only
 rw [if_pos (by simp [e])]
 qV h _ fun _ _ z=>z
~!PI.imp {H H':Hp}{ps:List V}{rs:List Nat}{ws:List Int}{S:Int} (T:∀ t ys,H t=some (.tup ys)->H' t=some (.tup ys)) (h:PI H ps rs ws S):PI H' ps rs ws S:=⟨h.len,fun k r x e1 e2=>let ⟨t,c,a,b,d⟩:=h.at_ k r x e1 e2; ⟨t,c,a,T _ _ b,T _ _ d⟩⟩
~!PI.snoc {H:Hp}{ps:List V}{rs:List Nat}{ws:List Int}{S x:Int}{r:Nat}{t c:Addr} (h:PI H ps rs ws S) (hl:ws.length=rs.length) (ht:H t=some (.tup [.int r,.ref c])) (hc:H c=some (.tup [.int (Ac.lw x S).1,.int (Ac.lw x S).2])):PI H (ps++[.ref t]) (rs++[r]) (ws++[x]) S:=by
 z5⟨by rw [aB,aB,h.len]; rfl,fun k r' x' e1 e2=>?_⟩
 by_cases hk:k<rs.length
 .rw [aF hk] at e1
  rw [aF (by om)] at e2
  x5⟨t',c',a,b⟩:=h.at_ k r' x' e1 e2
  qV⟨t',c',by rw [aF (by rw [h.len]; qV hk)]; qV a,b⟩
 .rw [aD (by om)] at e1
  rw [aD (by om)] at e2
  have e0:k - rs.length=0:=by
   have:=(aq.mp e1).1
   simp at this; om
  rw [e0] at e1
  rw [hl,e0] at e2
  cases e1
  cases e2
  z5⟨t,c,?_,ht,hc⟩
  rw [aD (by rw [h.len]; om),h.len,e0]; rfl
~!xu {ys:List V}{n:Nat} (h:n <= ys.length):m_ ys none (some (n:Int))=ys.take n:=by
 unfold m_
 rw [HT.qd,Nat.min_eq_left h]
 show ((ys.drop 0).take (n - 0))=_
 rw [List.drop_zero,Nat.sub_zero]
~!Uz (n:Nat):(List.replicate n (1:Int)).sum=n:=by
 induction n with
 | zero=>rfl
 | succ n ih=>rw [List.replicate_succ,List.sum_cons,ih]; om
noncomputable def evJ (D1:Addr) (rs:List Nat) (ws:List Int) (S:Int) (H:Hp) (k:Nat) (ys:List V) (H':Hp):Prop:=Same H H'/\H' D1=some (.lst ys)/\PI H' ys (rs.take k) (ws.take k) S
noncomputable def weJ (D1:Addr) (md:Int) (H:Hp) (k:Nat) (ys:List V) (H':Hp):Prop:=∃ ws:List Int,ys=ws.map V.int/\ws.length=k/\(∀ x∈ws,0 <= x/\x<md)/\Same H H'/\H' D1=some (.lst ys)
~!Nb {B:Int} : ∀ l:List Int,(∀ x∈l,0 <= x/\x <= B)->0 <= l.sum/\l.sum <= B * l.length/\∀ x∈l,x <= l.sum
 | [],_=>⟨by simp,by simp,by simp⟩
 | a::l,h=>by
  x5⟨h1,h2,h3⟩:=Nb l fun x hx=>h x (aJ _ hx)
  have h0:=h a aQ
  rw [List.sum_cons,List.length_cons]
  have e:B * ((l.length+1:Nat):Int)=B * l.length+B:=by rw [Int.natCast_add,Int.mul_add]; simp
  rw [e]
  z5⟨by om,by om,fun x hx=>?_⟩
  rcases List.mem_cons.mp hx with rfl | hx
  .om
  .have:=h3 x hx
   om
~!abZ {α:Type} : ∀ {l:List α},l.length=4->∃ a b c d,l=[a,b,c,d]
 | [a,b,c,d],_=>⟨a,b,c,d,rfl⟩
noncomputable def C_:Sp:=fun vs H Q _=>∃ (c:Int) (n:Nat) (sm:Bool),vs=[.int c,.int n,.bl sm]/\1 <= n/\n <= 12/\∀ (r d p lp:Addr) (room:Nat) (so x y S:Int) (rs:List Nat) (ws:List Int) (ps:List V) H',Same H H'->H r=none->H d=none->H' r=some (.tup [.int room,.ref d])->room<n->H' d=some (.tup [.int so,.ref p,.ref lp])->H' p=some (.tup [.int x,.int y])->0<y->abt x y->H' lp=some (.lst ps)->H lp=none->PI H' ps rs ws S->sJ n so rs ws S->y <= yB sm->S <= wB sm->Q (.ref r) H'
~!abK (F:Fun K zx zx w6 f fd) (T:Txt K mg D) (dH:OkF P w K mg base 1 iy g_ gj) (jf:OkF P w K mg base 2 nG m6 rm) (Zw:OkF P w K mg base 3 Et Er P0):cD P w K mg base CX0 4 f fd zM C_:=by
 z5 F.okB j_ ?_ ?_
 .rintro _ _ _ _ ⟨c,n,sm,rfl,_⟩; rfl
 .rintro cdv A outer s H _ Q E hr ⟨c,n,sm,rfl,n1,n12,q⟩
  z5⟨_,(cJ (PSB.mk (cA (i:=3) j_.nd rfl (Or.inr rfl) (bU dH hr.md (by rfl) (bG (pv 0) (bG bH bI)))))
   (cJ (PSB.mk (cA (i:=4) j_.nd rfl (Or.inr rfl) (jy (bO w6) sS sS ["_law_x"] (cV ((jz qU (pv 3) (gU bH) (gU bH))).mono) (eV (i:=0)) c7 (bV mL (pv 0) (pv 2)))))
   (cJ (PSB.mk (cA (i:=5) j_.nd rfl (Or.inl rfl) (bV cR (bZ bY (pv 3) bH (fun _ _=>rfl)) bH)))
   (cJ (PSB.mk (cA (i:=6) j_.nd rfl (Or.inl rfl) (eY (bG (dB (bG (bZ bY (pv 4) bH (fun _ _=>rfl)) (bG (dB (bG bH (bG bH bI))) bI))) bI))))
   (cJ (PSB.mk (cY (cL n8 (pv 5) bH (cM _))
    (bN (cA (i:=7) j_.nd rfl (Or.inl rfl) (bV dj bH (bV cR (bZ bY (pv 3) bH (fun _ _=>rfl)) bH)))
    (bN (cA (i:=8) j_.nd rfl (Or.inl rfl) (bU jf hr.md (by rfl) (bG (bV mL (bZ bY (pv 3) bH (fun _ _=>rfl)) (bV dj (pv 7) bH)) (bG (pv 7) bI))))
    (bQ (cA (i:=6) j_.nd rfl (Or.inl rfl) (eY (bG (dB (bG (bZ bY (pv 4) bH (fun _ _=>rfl)) (bG (pv 8) bI))) (bG (dB (bG (bZ bY (pv 4) bH (fun _ _=>rfl)) (bG (dB (bG (bV ur (bZ dX (pv 8) bH (fun _ _=>rfl)) (bZ dX (pv 8) bH (fun _ _=>rfl))) (bG (bZ dX (pv 8) bH (fun _ _=>rfl)) bI))) bI))) bI)))))))
    cC))
   (cJ (PSB.mk (cY (cL n8 (pv 5) bH (cM _))
    (bN (cA (i:=4) j_.nd rfl (Or.inr rfl) (jz qU (pv 4) wu (gU (bV dj bH (bV cR (bZ bY (pv 3) bH (fun _ _=>rfl)) bH)))))
    (bQ (Iu (bO w6) sS sS ["_law_room"] (cV ((pv 4)).mono) (eV (i:=0)) c7 (dB (bG (pv 0) (bG (dB (bG bH (bG (cB eN (by rfl) T.lF PySem.boot_len (bG (pv 5) bI)) bI))) bI))) (cG (i:=6) j_.nd rfl (Or.inl rfl)))))
    cC))
   (cJ (PSB.mk (cY (cL n8 (pv 5) bH (cM _))
    (bN (cA (i:=9) j_.nd rfl (Or.inr rfl) (jy (bO w6) sS sS ["_law_x"] (cV ((jz qU (pv 3) (gU bH) (gU (bV dj bH (bV cR (bZ bY (pv 3) bH (fun _ _=>rfl)) bH))))).mono) (eV (i:=0)) c7 (bV mL (pv 0) (bZ bY (eY (bG bH (bG bH (bG bH (bG bH bI))))) (bV cZ (bV cR (bZ bY (pv 4) bH (fun _ _=>rfl)) bH) (lN qX (by rfl) T.Dk boot_int (bG (Rj (pv 3)) bI))) (fun _ _=>rfl)))))
    (bN (uH (bV dj (bZ bY (pv 9) (FJ xQ bH) (fun _ _=>rfl)) bH) (QJ (pv 9) (FJ xQ bH) set_list))
    (bQ (Iu (bO w6) sS sS ["_law_k"] (lC (by rfl) T.qe (bG (cB eN (by rfl) T.lF PySem.boot_len (bG (pv 9) bI)) bI).mono) (eV (i:=0)) c7 (dB (bG (bZ bY (pv 5) (pv 0) (fun _ _=>rfl)) (bG (bU jf hr.md (by rfl) (bG (bZ bY (pv 10) (pv 0) (fun _ _=>rfl)) (bG (cB (Bh rfl) (by rfl) T.Yh boot_sum (bG (pv 10) bI)) bI))) bI))) (cG (i:=6) j_.nd rfl (Or.inl rfl))))))
    cC))
   (z6 (PSB.mk (cu (dB (bG (bV mL (bZ bY (pv 3) bH (fun _ _=>rfl)) (pv 1)) (bG (dB (bG (pv 5) (bG (bU Zw hr.md (by rfl) (bG (pv 0) (bG (bZ bY (pv 3) bH (fun _ _=>rfl)) (bG (bZ bY (pv 3) bH (fun _ _=>rfl)) (bG (pv 2) bI))))) (bG (pv 6) bI)))) bI))))))))))))),?_⟩
  have z9:100<sizeLine:=by decide
  z5 cg fun R1 hR1=>?_
  z5 cN ⟨_,rfl,c,14,rfl,by decide,fun l xs H1 S1 fl hl xl hx=>?_⟩
  have at_:∀ j,j<14->∃ y,atI (xs.map V.int) (j:Nat)=some (.int y)/\0 <= y:=fun j hj=>by
   have:j<xs.length:=by om
   qV⟨xs[j],b_ (j:=j) (by rw [au,aj this]; rfl),(hx _ (aX this)).1⟩
  subst hR1
  dsimp only [cU,L2.start]
  have ec:m_ (xs.map V.int) (some 2) (some 6)=((xs.drop 2).take 4).map V.int:=by
   rw [List.map_take,List.map_drop]
   qV Kf (ys:=xs.map V.int) (a:=2) (b:=6) (by decide) (by rw [ao]; om)
  have ul:((xs.drop 2).take 4).length=4:=by rw [bA,List.length_drop]; om
  z5 cg fun R1 hR1=>?_
  z5 cN (dR ⟨_,rfl,_,rfl,_,rfl,l,_,rfl,hl,fun p2 H2 S2 f2 h2=>⟨p2,_,rfl,h2,?_,fun D1 g1=>⟨vJ D1 H2 (((xs.drop 2).take 4).map fun i=>V.int (i.fmod n)),⟨Same.upd g1,bK,rfl⟩,fun i x ys Hc hi jj hy hc=>?_,fun ys Hc ⟨T1,k1,ey⟩ hy=>?_⟩⟩⟩)
  .rw [ec,ao,ul]; decide
  .rw [ec,au] at hi
   cases ei:((xs.drop 2).take 4)[i]? with
   | none=>rw [ei] at hi; cases hi
   | some u =>
    rw [ei] at hi
    cases hi
    qV⟨_,rfl,_,rfl,u,n,rfl,rfl,by om,jj.2.1,hc,jj.next g1 (fun _ _ z=>z) (by rw [au,ei]; rfl)⟩
  rw [ec,ao,ul,aM (by rw [ao,ul]; qV aG _)] at ey
  obtain ⟨ra,rb,rc,rd,er,rn⟩ : ∃ ra rb rc rd:Nat,((xs.drop 2).take 4).map (fun i=>V.int (i.fmod n))=[ra,rb,rc,rd].map (fun r:Nat=>V.int (r:Nat))/\∀ r∈[ra,rb,rc,rd],r<n:=by
   x5⟨u1,u2,u3,u4,eu⟩:=abZ ul
   have md:∀ i:Int,∃ r:Nat,i.fmod n=(r:Nat)/\r<n:=fun i=>by
    have m0:0 <= i % (n:Int):=Int.emod_nonneg _ (by om)
    have m1:i % (n:Int)<n:=Int.emod_lt_of_pos _ (by om)
    qV⟨(i % (n:Int)).toNat,by rw [aZ _ (by om)]; om,by om⟩
   x5⟨r1,e1,l1⟩:=md u1
   x5⟨r2,e2,l2⟩:=md u2
   x5⟨r3,e3,l3⟩:=md u3
   x5⟨r4,e4,l4⟩:=md u4
   z5⟨r1,r2,r3,r4,by rw [eu]; simp only [List.map_cons,List.map_nil,e1,e2,e3,e4],fun r hr=>?_⟩
   simp only [List.mem_cons,List.not_mem_nil,or_false] at hr
   rcases hr with rfl | rfl | rfl | rfl <;> assumption
  rw [er] at ey
  subst ey
  have S3:=S1.trans (S2.trans T1)
  have hl3:=T1 _ _ (S2 _ _ hl)
  clear T1 S2 S1 h2 f2 er ec hx
  subst hR1
  dsimp only [cU]
  z5 cg fun R1 hR1=>?_
  x5⟨x6,a6,p6⟩:=at_ 6 (by decide)
  z5 cN ⟨_,rfl,l,_,6,_,rfl,rfl,hl3,a6,x6,4,rfl,rfl,(show (0:Int)<4 by decide),?_⟩
  subst hR1
  dsimp only [cU]
  obtain ⟨so,es,s0,s3⟩ : ∃ so,x6 % 4=so/\0 <= so/\so <= 3:=⟨_,rfl,by om,by om⟩
  rw [es]
  z5 cg fun R1 hR1=>?_
  z5 cN ⟨_,rfl,D1,_,0,_,rfl,rfl,k1,d8,dW,fun q1 Ha Sa fa ha=>⟨dW,fun q2 Hb Sb fb hb=>⟨(show 1 <= sizeLine by decide),fun q3 H4 Sd f3 e3=>?_⟩⟩⟩
  have e1:=Sd _ _ (Sb _ _ ha)
  have e2:=Sd _ _ hb
  have S34:=Sa.trans (Sb.trans Sd)
  have f3:=Same.free S3 (Same.free Sa (Same.free Sb f3))
  have hl4:=S34 _ _ hl3
  have hr4:=S34 _ _ k1
  have S4:=S3.trans S34
  clear Sa Sb Sd ha hb fa fb hl3 k1 S3 S34
  subst hR1
  dsimp only [cU]
  z5 Il fun R hR=>?_
  have fin:∀ (u3 u6 u7 u8:Option V) (lp:Addr) (rs:List Nat) (ws:List Int) (S:Int) (ps:List V) (H9:Hp),Same H H9->H9 l=some (.lst (xs.map V.int))->H lp=none->H9 lp=some (.lst ps)->PI H9 ps rs ws S->sJ n so rs ws S->S <= wB sm->R { nx:=fun _ H'=>Q .non H',rt:=Q } [some (.int c),some (.int n),some (.bl sm),some (.ref l),u3,some (.int so),some (.ref lp),u6,u7,u8] H9:=by
   intro u3 u6 u7 u8 lp rs ws S ps H9 S9 hl9 fl hlp hpi hdr hS
   x5⟨x0,a0,_⟩:=at_ 0 (by decide)
   x5⟨x1,a1,_⟩:=at_ 1 (by decide)
   x5⟨x13,a13,_⟩:=at_ 13 (by decide)
   subst hR
   have m0:0 <= x13 % (n:Int):=Int.emod_nonneg _ (by om)
   have m1:x13 % (n:Int)<n:=Int.emod_lt_of_pos _ (by om)
   have ef:x13.fmod (n:Int)=(((x13 % (n:Int)).toNat:Nat):Int):=by rw [aZ _ (by om)]; om
   z5 fY ⟨_,rfl,l,_,13,_,rfl,rfl,hl9,a13,_,rfl,x13,n,rfl,rfl,by om,_,rfl,_,rfl,_,rfl,l,_,0,_,rfl,rfl,hl9,a0,_,rfl,l,_,1,_,rfl,rfl,hl9,a1,_,rfl,c,x0,x1,sm,rfl,fun p1 x y Hq Sq f1 hq y0 g1 sa sb=>⟨_,rfl,(show 3 <= sizeLine by decide),fun p2 Hx Sx fx hx=>⟨dW,fun p3 Hy Sy fy hy=>?_⟩⟩⟩
   dsimp only at hy
   rw [ef] at hy
   have S10:=Sq.trans (Sx.trans Sy)
   have y9:yB sm <= 1000:=by cases sm <;> decide
   qV q p3 p2 p1 lp _ so x y S rs ws ps _ (S9.trans S10) (Same.free S9 (Same.free Sq (Same.free Sx fy))) (Same.free S9 (Same.free Sq fx)) hy (by om) (Sy _ _ hx) (Sy _ _ (Sx _ _ hq)) y0 ⟨g1,sa,by om⟩ (S10 _ _ hlp) fl (hpi.same S10) hdr sb hS
  clear hR
  have w9:12 <= wB sm:=by cases sm <;> decide
  obtain e | e | e | e:so=0\/so=1\/so=2\/so=3:=by om
  .subst e
   z5 jK rfl (by decide) (jK rfl (by decide) (jK rfl (by decide) (fin _ _ _ _ q3 [ra] [1] 1 [.ref q2] H4 S4 hl4 f3 e3 ⟨rfl,fun k r x h1 h2=>?_⟩ ?_ (by om))))
   .match k with
    | 0 =>
     cases h1
     cases h2
     qV⟨q2,q1,rfl,e2,by rw [SX]; qV e1⟩
    | k+1=>simp at h1
   .exact ⟨by decide,by decide,rfl,by decide,by decide,by simp,by simp,rfl,by simp,fun _=>⟨rfl,rfl,rfl⟩,fun z=>by simp at z,fun z=>by simp at z,fun r hr=>rn r (by rw [List.mem_singleton.mp hr]; simp)⟩
  .subst e
   x5⟨x8,a8,_⟩:=at_ 8 (by decide)
   x5⟨x9,a9,_⟩:=at_ 9 (by decide)
   obtain ⟨b,eb,b0,b6⟩ : ∃ b,1+x8 % 6=b/\1 <= b/\b <= 6:=⟨_,rfl,by om,by om⟩
   obtain ⟨wt,ew,w0,w1⟩ : ∃ wt,x9.fmod (b+1)=wt/\0 <= wt/\wt <= b:=by
    have m0:0 <= x9 % (b+1):=Int.emod_nonneg _ (by om)
    have m1:x9 % (b+1)<b+1:=Int.emod_lt_of_pos _ (by om)
    qV⟨_,rfl,by rw [aZ _ (by om)]; qV m0,by rw [aZ _ (by om)]; om⟩
   z5 xg rfl rfl fun Kn hK=>?_
   z5 cN ⟨_,rfl,l,_,8,_,rfl,rfl,hl4,a8,x8,6,rfl,rfl,(show (0:Int)<6 by decide),_,_,rfl,rfl,?_⟩
   dsimp only [cU]
   rw [eb]
   z5 cN ⟨_,rfl,l,_,9,_,rfl,rfl,hl4,a9,_,rfl,_,_,rfl,rfl,x9,b+1,rfl,rfl,by om,_,rfl,x9.fmod (b+1),b,rfl,by om,Bd.sm (by om),fun c1 g1=>?_⟩
   rw [ew]
   have T1:Same H4 (upd H4 c1 (.tup [.int (Ac.lw wt b).1,.int (Ac.lw wt b).2])):=Same.upd g1
   have k1:upd H4 c1 (.tup [.int (Ac.lw wt b).1,.int (Ac.lw wt b).2]) c1=some (.tup [.int (Ac.lw wt b).1,.int (Ac.lw wt b).2]):=bK
   generalize upd H4 c1 (.tup [.int (Ac.lw wt b).1,.int (Ac.lw wt b).2])=H5 at T1 k1 ⊢
   dsimp only [cU]
   z5⟨_,rfl,D1,_,0,_,rfl,rfl,T1 _ _ hr4,d8,_,rfl,dW,fun t1 H6 T2 _ k2=>⟨_,rfl,D1,_,1,_,rfl,rfl,T2 _ _ (T1 _ _ hr4),dD,_,rfl,c1,_,1,_,rfl,rfl,T2 _ _ k1,dD,_,rfl,c1,_,0,_,rfl,rfl,T2 _ _ k1,d8,_,_,rfl,rfl,_,rfl,c1,_,1,_,rfl,rfl,T2 _ _ k1,dD,dW,fun c2 H7 T3 _ k3=>⟨dW,fun t2 H8 T4 _ k4=>⟨dW,fun lp H9 T5 f5 k5=>hK _ _ (jK rfl (by decide) (jK rfl (by decide) ?_))⟩⟩⟩⟩
   have T69:=T3.trans (T4.trans T5)
   have S6:=S4.trans (T1.trans T2)
   z5 fin _ _ _ _ lp [ra,rb] [wt,b - wt] b [.ref t1,.ref t2] _ (S6.trans T69) (T69 _ _ (T2 _ _ (T1 _ _ hl4))) (Same.free (S6.trans (T3.trans T4)) f5) k5 ⟨rfl,fun k r x h1 h2=>?_⟩ ?_ (by om)
   .match k with
    | 0 =>
     cases h1
     cases h2
     qV⟨t1,c1,rfl,T69 _ _ k2,T69 _ _ (T2 _ _ k1)⟩
    | 1 =>
     cases h1
     cases h2
     qV⟨t2,c2,rfl,T5 _ _ k4,by rw [K1]; qV T5 _ _ (T4 _ _ k3)⟩
    | k+2=>simp at h1
   .refine ⟨by decide,by decide,rfl,by om,by om,by simp,?_,?_,by simp,fun z=>by simp at z,fun _=>rfl,fun z=>by simp at z,?_⟩
    .intro x hx
     simp only [List.mem_cons,List.not_mem_nil,or_false] at hx
     om
    .simp
     om
    .intro r hr
     simp only [List.mem_cons,List.not_mem_nil,or_false] at hr
     rcases hr with rfl | rfl
     .exact rn _ (by simp)
     .exact rn _ (by simp)
  .subst e
   x5⟨x7,a7,_⟩:=at_ 7 (by decide)
   obtain ⟨m,em,m1,m4⟩ : ∃ m:Nat,1+x7 % 4=m/\1 <= m/\m <= 4:=⟨(1+x7 % 4).toNat,by om,by om,by om⟩
   z5 jK rfl (by decide) (xg rfl rfl fun Kn hK=>?_)
   z5 cN ⟨_,rfl,_,rfl,l,_,7,_,rfl,rfl,hl4,a7,x7,4,rfl,rfl,(show (0:Int)<4 by decide),_,_,rfl,rfl,_,rfl,D1,_,rfl,hr4,fun p5 H5 T1 f5 k1=>?_⟩
   have ec:m_ ([ra,rb,rc,rd].map fun r:Nat=>V.int (r:Nat)) none (some (1+x7 % 4))=([ra,rb,rc,rd].take m).map fun r:Nat=>V.int (r:Nat):=by
    rw [em,xu (by rw [ao]; simp; om),<- List.map_take]
   have k1:H5 p5=some (.lst (([ra,rb,rc,rd].take m).map fun r:Nat=>V.int (r:Nat))):=by rw [<- ec]; qV k1
   have l5:([ra,rb,rc,rd].take m).length=m:=by rw [bA]; simp; om
   have r5:∀ r∈[ra,rb,rc,rd].take m,r<n:=fun r hr=>rn r (List.mem_of_mem_take hr)
   generalize [ra,rb,rc,rd].take m=rs at l5 r5 k1
   have S5:=S4.trans T1
   have rl5:(List.replicate m (1:Int)).length=m:=aP
   dsimp only [cU]
   z5 dR ⟨_,rfl,p5,_,rfl,k1,by rw [ao]; om,fun D2 hD2=>⟨evJ D2 rs (List.replicate m 1) m H5,⟨Same.upd hD2,bK,by simp; qV⟨rfl,fun k r x h1 _=>by simp at h1⟩⟩,?_,?_⟩⟩
   .rintro k v ys Hc hk ⟨T5,h5,pi⟩ hy hpc
    rw [au] at hk
    cases er:rs[k]? with
    | none=>rw [er] at hk; cases hk
    | some r =>
     rw [er] at hk
     cases hk
     have lk:k<m:=by rw [<- l5]; qV(aq.mp er).1
     have ew:(List.replicate m (1:Int))[k]?=some 1:=by rw [List.getElem?_replicate,if_pos lk]
     z5⟨_,rfl,_,rfl,p5,_,rfl,hpc,dW,fun c1 H6 T6 f6 i1=>⟨dW,fun t1 H7 T7 f7 i2=>?_⟩⟩
     have T67:=T6.trans T7
     have i1:=T7 _ _ i1
     rw [ao,l5] at i1
     have nt:∀ t us,H7 t=some (.tup us)->upd H7 D2 (.lst (ys++[.ref t1])) t=some (.tup us):=fun t us e=>(bM (fM e (T67 _ _ h5) (by intro z; cases z))).trans e
     z5⟨T67 _ _ h5,T67 _ _ hpc,fun b o e=>(bM (bL e hD2)).trans (T67 _ _ (T5 _ _ e)),bK,?_⟩
     rw [cH er,cH ew]
     z5((pi.same T67).imp nt).snoc ?_ (nt _ _ i2) (by rw [SX]; qV nt _ _ i1)
     rw [bA,bA,rl5,l5]
   .rintro ys Hc ⟨T5,h5,pi⟩ hy
    rw [ao,aR,l5,aM (by rw [rl5]; qV aG _)] at pi
    z5 hK _ _ (jK rfl (by decide) (fin _ _ _ _ D2 rs (List.replicate m 1) m ys Hc (S5.trans T5) (T5 _ _ (T1 _ _ hl4)) (Same.free S5 hD2) h5 pi ?_ (by om)))
    qV⟨by decide,by decide,by rw [rl5,l5],by om,by om,by om,fun x hx=>by rw [(List.mem_replicate.mp hx).2]; decide,Uz m,by om,fun z=>by simp at z,fun z=>by simp at z,fun _=>⟨by rw [l5],by rw [l5]⟩,r5⟩
  .subst e
   x5⟨x7,a7,_⟩:=at_ 7 (by decide)
   x5⟨x12,a12,_⟩:=at_ 12 (by decide)
   obtain ⟨m,em,m1,m4⟩ : ∃ m:Nat,9+x7 % 4=((8+m:Nat):Int)/\1 <= m/\m <= 4:=⟨(1+x7 % 4).toNat,by om,by om,by om⟩
   have ec:m_ (xs.map V.int) (some 8) (some (9+x7 % 4))=((xs.drop 8).take m).map V.int:=by
    rw [em,List.map_take,List.map_drop]
    have:=Kf (ys:=xs.map V.int) (a:=8) (b:=8+m) (by om) (by rw [ao]; om)
    rw [show 8+m - 8=m by om] at this
    qV this
   have l5:((xs.drop 8).take m).length=m:=by rw [bA,List.length_drop]; om
   generalize (xs.drop 8).take m=vs at l5 ec
   obtain ⟨j3,ej,jb⟩ : ∃ j:Int,x12 % 4 * (if (!sm)=true then 1 else 0)=j/\(j=0\/j=1\/j=2\/(j=3/\sm=false)):=by
    cases sm with
    | true=>qV⟨0,by simp,.inl rfl⟩
    | false=>qV⟨x12 % 4,by simp,by simp; om⟩
   obtain ⟨md,ed,hmd⟩ : ∃ md:Int,atI [V.int 3,V.int 3,V.int 3,V.int 1000] j3=some (.int md)/\(md=3\/(md=1000/\sm=false)):=by
    rcases jb with rfl | rfl | rfl | ⟨rfl,rfl⟩
    .exact ⟨3,b_ (j:=0) rfl,.inl rfl⟩
    .exact ⟨3,b_ (j:=1) rfl,.inl rfl⟩
    .exact ⟨3,b_ (j:=2) rfl,.inl rfl⟩
    .exact ⟨1000,b_ (j:=3) rfl,.inr ⟨rfl,rfl⟩⟩
   z5 jK rfl (by decide) (jK rfl (by decide) (xg rfl rfl fun Kn hK=>?_))
   z5 cg fun R1 hR1=>?_
   z5 cN (dR ⟨_,rfl,_,rfl,_,rfl,l,_,7,_,rfl,rfl,hl4,a7,x7,4,rfl,rfl,(show (0:Int)<4 by decide),_,_,rfl,rfl,_,rfl,l,_,rfl,hl4,fun p5 H5 T1 f5 k5=>⟨p5,_,rfl,k5,?_,fun D2 hD2=>⟨weJ D2 md H5,⟨[],rfl,rfl,by simp,Same.upd hD2,bK⟩,?_,?_⟩⟩⟩)
   .show (m_ (xs.map V.int) (some 8) (some (9+x7 % 4))).length <= _
    rw [ec,ao]; om
   .rintro k v ys Hc hk ⟨ws,rfl,wl,wb,T5,h5⟩ hy hpc
    have hk:(m_ (xs.map V.int) (some 8) (some (9+x7 % 4)))[k]?=some v:=hk
    rw [ec,au] at hk
    cases er:vs[k]? with
    | none=>rw [er] at hk; cases hk
    | some i =>
     rw [er] at hk
     cases hk
     have f0:0 <= i.fmod md/\i.fmod md<md:=by
      rcases hmd with rfl | ⟨rfl,_⟩
      .rw [aZ _ (by decide)]; om
      .rw [aZ _ (by decide)]; om
     have hlc:=T5 _ _ (T1 _ _ hl4)
     z5⟨_,rfl,(show 4 <= sizeLine by decide),fun p6 H6 S6 f6 h6=>⟨_,rfl,l,_,12,_,rfl,rfl,S6 _ _ hlc,a12,x12,4,rfl,rfl,(show (0:Int)<4 by decide),_,rfl,sm,rfl,.inr ⟨!sm,rfl,_,_,rfl,rfl,⟨Bd.sm (by om),Bd.sm (by split <;> decide)⟩,p6,_,_,_,rfl,rfl,h6,by rw [ej]; qV ed,i,md,rfl,rfl,by om,S6 _ _ h5,S6 _ _ hpc,ws++[i.fmod md],by rw [bD]; rfl,by rw [aB,wl]; rfl,fun x hx=>?_,fun b o e=>(bM (bL e hD2)).trans (S6 _ _ (T5 _ _ e)),bK⟩⟩⟩
     rcases List.mem_append.mp hx with hx | hx
     .exact wb x hx
     .rw [List.mem_singleton.mp hx]; qV f0
   .rintro ys Hc ⟨ws,rfl,wl,wb,T5,h5⟩ hy
    have wl:ws.length=m:=by
     have e:(m_ (xs.map V.int) (some 8) (some (9+x7 % 4))).length=m:=by rw [ec,ao,l5]
     qV wl.trans e
    have S5:=S4.trans T1
    have lm:m - 1<ws.length:=by om
    have el:ws[m - 1]?=some ws[m - 1]:=aj lm
    have bl:=wb _ (aX lm)
    generalize ws[m - 1]=wl0 at el bl
    have ix:ixN (ws.map V.int).length (-1)=some (m - 1):=by rw [ao,wl]; qV M6 m1
    have ea:atI (ws.map V.int) (-1)=some (.int wl0):=by
     unfold atI
     rw [ix]
     show (ws.map V.int)[m - 1]?=_
     rw [au,el]; rfl
    subst hR1
    dsimp only [cU]
    z5 cg fun R1 hR1=>?_
    z5 cN ⟨_,rfl,1,rfl,D2,_,_,_,rfl,rfl,h5,ea,wl0,1,rfl,rfl,?_⟩
    z5⟨_,rfl,1,rfl,D2,_,_,_,rfl,rfl,h5,ix,?_⟩
    rw [<- List.map_set]
    have l6:(ws.set (m - 1) (wl0+1)).length=m:=by rw [List.length_set,wl]
    have b6:∀ x∈ws.set (m - 1) (wl0+1),0 <= x/\x <= md:=fun x hx=>by
     rcases List.mem_or_eq_of_mem_set hx with hx | rfl
     .have:=wb x hx
      om
     .om
    have in6:wl0+1∈ws.set (m - 1) (wl0+1):=List.mem_set lm _
    generalize ws.set (m - 1) (wl0+1)=ww at l6 b6 in6 ⊢
    x5⟨s1,s2,s3'⟩:=Nb ww b6
    rw [l6] at s2
    have sB:ww.sum <= 4004/\ww.sum <= wB sm:=by
     rcases hmd with e | ⟨e,e'⟩
     .rw [e] at s2; qV⟨by om,by om⟩
     .rw [e] at s2; rw [e']; qV⟨by om,by show _ <= (4004:Int); om⟩
    x5⟨s4,s5⟩:=sB
    have sp:=s3' _ in6
    have T6:Same H (upd Hc D2 (.lst (ww.map V.int))):=fun b o e=>(bM (bL (S5 _ _ e) hD2)).trans (T5 _ _ (S5 _ _ e))
    have k6:upd Hc D2 (.lst (ww.map V.int)) D2=some (.lst (ww.map V.int)):=bK
    have r6:upd Hc D2 (.lst (ww.map V.int)) D1=some (.lst ([ra,rb,rc,rd].map fun r=>V.int (r:Nat))):=(bM (bL (T1 _ _ hr4) hD2)).trans (T5 _ _ (T1 _ _ hr4))
    have hl6:upd Hc D2 (.lst (ww.map V.int)) l=some (.lst (xs.map V.int)):=(bM (bL (T1 _ _ hl4) hD2)).trans (T5 _ _ (T1 _ _ hl4))
    generalize upd Hc D2 (.lst (ww.map V.int))=H6 at T6 k6 r6 hl6 ⊢
    have lt4:([ra,rb,rc,rd].take m).length=m:=by rw [bA]; simp; om
    subst hR1
    z5 pZ ⟨_,rfl,D2,_,rfl,k6,m,by rw [ao,l6],by om,fun D3 hD3=>⟨evJ D3 ([ra,rb,rc,rd].take m) ww ww.sum H6,⟨Same.upd hD3,bK,by simp; qV⟨rfl,fun k r x h1 _=>by simp at h1⟩⟩,?_,?_⟩⟩
    .rintro k ys Hc hk ⟨T7,h7,pi⟩ hy
     have er : [ra,rb,rc,rd][k]?=some ([ra,rb,rc,rd][k]'(by simp; om)):=aj _
     have et:([ra,rb,rc,rd].take m)[k]?=some ([ra,rb,rc,rd][k]'(by simp; om)):=by rw [List.getElem?_take,if_pos hk]; qV er
     have ew:ww[k]?=some (ww[k]'(by om)):=aj _
     generalize [ra,rb,rc,rd][k]'(by simp; om)=r at er et
     generalize ww[k]'(by om)=wk at ew
     z5⟨_,rfl,_,rfl,D1,_,_,_,rfl,rfl,T7 _ _ r6,b_ (j:=k) (by rw [au,er]; rfl),_,rfl,_,rfl,D2,_,_,_,rfl,rfl,T7 _ _ k6,b_ (j:=k) (by rw [au,ew]; rfl),_,rfl,D2,ww,rfl,T7 _ _ k6,wk,ww.sum,rfl,by om,Bd.sm (by om),fun c1 g1=>⟨dW,fun t1 H8 T8 f8 i2=>?_⟩⟩
     have T78:=(Same.upd g1 (o:=.tup [.int (Ac.lw wk ww.sum).1,.int (Ac.lw wk ww.sum).2])).trans T8
     have i1:=T8 _ _ (bK (H:=Hc) (a:=c1) (o:=.tup [.int (Ac.lw wk ww.sum).1,.int (Ac.lw wk ww.sum).2]))
     have nt:∀ t us,H8 t=some (.tup us)->upd H8 D3 (.lst (ys++[.ref t1])) t=some (.tup us):=fun t us e=>(bM (fM e (T78 _ _ h7) (by intro z; cases z))).trans e
     z5⟨T78 _ _ h7,fun b o e=>(bM (bL e hD3)).trans (T78 _ _ (T7 _ _ e)),bK,?_⟩
     rw [cH et,cH ew]
     z5((pi.same T78).imp nt).snoc ?_ (nt _ _ i2) (nt _ _ i1)
     rw [bA,bA,l6,lt4]
    .rintro ys Hc ⟨T7,h7,pi⟩ hy
     have pi:PI Hc ys ([ra,rb,rc,rd].take m) ww ww.sum:=by
      have e1:([ra,rb,rc,rd].take m).take m=[ra,rb,rc,rd].take m:=aM (by rw [lt4]; qV aG _)
      have e2:ww.take m=ww:=aM (by rw [l6]; qV aG _)
      rw [e1,e2] at pi
      qV pi
     z5 hK _ _ (fin _ _ _ _ D3 ([ra,rb,rc,rd].take m) ww ww.sum ys Hc (T6.trans T7) (T7 _ _ hl6) (Same.free T6 hD3) h7 pi ?_ s5)
     qV⟨by decide,by decide,by rw [lt4,l6],by om,by om,by om,fun x hx=>(b6 x hx).1,rfl,by om,fun z=>by simp at z,fun z=>by simp at z,fun z=>by simp at z,fun r hr=>rn r (List.mem_of_mem_take hr)⟩
structure DD (n:Nat) (B:Int) (H:Hp) (d:Addr):Prop where
 ex:∃ (p lp:Addr) (so x y S:Int) (rs:List Nat) (ws:List Int) (ps:List V),H d=some (.tup [.int so,.ref p,.ref lp])/\H p=some (.tup [.int x,.int y])/\0<y/\abt x y/\H lp=some (.lst ps)/\PI H ps rs ws S/\sJ n so rs ws S/\y * S <= B
~!DD.same {n:Nat}{B:Int}{H H':Hp}{d:Addr} (h:DD n B H d) (S:Same H H'):DD n B H' d:=by
 x5⟨p,lp,so,x,y,S',rs,ws,ps,a,b,b1,b2,c,d,e⟩:=h.ex
 qV⟨p,lp,so,x,y,S',rs,ws,ps,S _ _ a,S _ _ b,b1,b2,S _ _ c,d.same S,e⟩
structure RD (n:Nat) (B:Int) (H:Hp) (xs:List V) (dss:List (List Addr)):Prop where
 len:xs.length=dss.length
 at_:∀ (k:Nat) (ds:List Addr),dss[k]?=some ds->∃ l,xs[k]?=some (.ref l)/\H l=some (.lst (ds.map V.ref))/\∀ d∈ds,DD n B H d
~!RD.same {n:Nat}{B:Int}{H H':Hp}{xs:List V}{dss:List (List Addr)} (h:RD n B H xs dss) (S:Same H H'):RD n B H' xs dss:=⟨h.len,fun k ds e=>let ⟨l,a,b,c⟩:=h.at_ k ds e; ⟨l,a,S _ _ b,fun d hd=>(c d hd).same S⟩⟩
~!DD.off {n:Nat}{B:Int}{H:Hp}{ls:List Addr}{d p lp:Addr}{so x y S:Int}{rs:List Nat}{ws:List Int}{ps:List V} (hls:∀ l∈ls,∃ zs,H l=some (.lst zs)) (nl:lp ∉ ls) (h1:H d=some (.tup [.int so,.ref p,.ref lp])) (h2:H p=some (.tup [.int x,.int y])) (y0:0<y) (g:abt x y) (h3:H lp=some (.lst ps)) (h4:PI H ps rs ws S) (h5:sJ n so rs ws S) (h6:y * S <= B):DD n B (del ls H) d:=by
 have nt:∀ t us,H t=some (.tup us)->del ls H t=some (.tup us):=fun t us e=>jc (fun z=>by
  x5⟨zs,hz⟩:=hls t z
  rw [hz] at e
  cases e) e
 qV⟨p,lp,so,x,y,S,rs,ws,ps,nt _ _ h1,nt _ _ h2,y0,g,jc nl h3,h4.imp nt,h5,h6⟩
noncomputable def sX (sm:Bool):Nat:=if sm then 2 else 3
noncomputable def mB (sm:Bool):Int:=if sm then 12 else 4004000
~!aeo {sm:Bool}{y S:Int} (y0:0<y) (S0:0<S) (hy:y <= yB sm) (hS:S <= wB sm):y * S <= mB sm:=by
 have h:=Int.mul_le_mul hy hS (Int.le_of_lt S0) (Int.le_trans (Int.le_of_lt y0) hy)
 cases sm <;> qV h
noncomputable def Dm (K:Frag) (a:Addr) (ns:List Int):Sp:=fun vs H Q _=>∃ (c:Int) (n:Nat) (sm:Bool),vs=[.ref a,.int c,.int n,.bl sm]/\SqL K H a (ns.map V.int)/\ns.length <= 63/\0 <= c/\n <= 12/\∀ (r:Addr) (xs:List V) (dss:List (List Addr)) H',Same H H'->H r=none->H' r=some (.lst xs)->dss.length=n->RD n (mB sm) H' xs dss->(∀ ds∈dss,ds.length <= sX sm)->Q (.ref r) H'
structure RL (n m:Nat) (B:Int) (H0 H:Hp) (ls:List Addr) (dss:List (List Addr)):Prop where
 len:ls.length=dss.length
 nd:ls.Nodup
 new:∀ l∈ls,H0 l=none
 at_:∀ (k:Nat) (l:Addr) (ds:List Addr),ls[k]?=some l->dss[k]?=some ds->H l=some (.lst (ds.map V.ref))/\ds.length <= m/\∀ d∈ds,DD n B (del ls H) d
~!RL.rd {n m:Nat}{B:Int}{H0 H:Hp}{ls:List Addr}{dss:List (List Addr)} (h:RL n m B H0 H ls dss):RD n B H (ls.map V.ref) dss:=⟨by rw [ao,h.len],fun k ds e=>by
 have lk:k<ls.length:=by rw [h.len]; qV(aq.mp e).1
 have el:ls[k]?=some ls[k]:=aj lk
 x5⟨a,_,c⟩:=h.at_ k _ ds el e
 qV⟨ls[k],by rw [au,el]; rfl,a,fun d hd=>(c d hd).same vH⟩⟩
~!RL.lists {n m:Nat}{B:Int}{H0 H:Hp}{ls:List Addr}{dss:List (List Addr)} (h:RL n m B H0 H ls dss):∀ l∈ls,∃ zs,H l=some (.lst zs):=fun l hl=>by
 x5⟨k,hk⟩:=aY hl
 have lk:k<dss.length:=by rw [<- h.len]; qV(aq.mp hk).1
 qV⟨_,(h.at_ k l _ hk (aj lk)).1⟩
~!RL.same {n m:Nat}{B:Int}{H0 H H':Hp}{ls:List Addr}{dss:List (List Addr)} (h:RL n m B H0 H ls dss) (S:Same H H'):RL n m B H0 H' ls dss:=⟨h.len,h.nd,h.new,fun k l ds e1 e2=>let ⟨a,b,c⟩:=h.at_ k l ds e1 e2; ⟨S _ _ a,b,fun d hd=>(c d hd).same (uf fun b o _ e=>S _ _ e)⟩⟩
~!RL.put {n m:Nat}{B:Int}{H0 H:Hp}{ls:List Addr}{dss:List (List Addr)}{k:Nat}{l d:Addr}{ds:List Addr} (h:RL n m B H0 H ls dss) (el:ls[k]?=some l) (ed:dss[k]?=some ds) (hm:ds.length<m) (hd:DD n B (del ls H) d):RL n m B H0 (upd H l (.lst ((ds++[d]).map V.ref))) ls (dss.set k (ds++[d])):=by
 have lm:=aC el
 have ee:del ls (upd H l (.lst ((ds++[d]).map V.ref)))=del ls H:=by
  funext b
  unfold del
  split
  .rfl
  .rename_i hb
   qV bM fun z=>hb (z ▸ lm)
 z5⟨by rw [List.length_set,h.len],h.nd,h.new,fun j l' ds' e1 e2=>?_⟩
 rw [ee]
 by_cases e:k=j
 .subst e
  rw [el] at e1
  cases e1
  rw [List.getElem?_set_self (aq.mp ed).1] at e2
  cases e2
  x5⟨a,b,c⟩:=h.at_ k l ds el ed
  z5⟨bK,by rw [aB]; simp; om,fun d' hd'=>?_⟩
  rcases List.mem_append.mp hd' with hd' | hd'
  .exact c d' hd'
  .rw [List.mem_singleton.mp hd']; qV hd
 .rw [List.getElem?_set_ne e] at e2
  x5⟨a,b,c⟩:=h.at_ j l' ds' e1 e2
  z5⟨(bM fun z=>?_).trans a,b,c⟩
  subst z
  have l1:=aq.mp el
  have l2:=aq.mp e1
  have pw:=List.pairwise_iff_getElem.mp h.nd
  rcases Nat.lt_or_gt_of_ne e with lt | lt
  .exact pw k j l1.1 l2.1 lt (l1.2.trans l2.2.symm)
  .exact pw j k l2.1 l1.1 lt (l2.2.trans l1.2.symm)
noncomputable def dJ0 (n m:Nat) (B:Int) (D1:Addr) (H H1:Hp) (k:Nat) (ys:List V) (Hc:Hp):Prop:=∃ ls:List Addr,ys=ls.map V.ref/\RL n m B H Hc ls (List.replicate k [])/\Same H1 Hc/\Hc D1=some (.lst ys)/\D1 ∉ ls
~!RL.nil {n m:Nat}{B:Int}{H0 H:Hp} : RL n m B H0 H [] (List.replicate 0 []):=⟨rfl,List.nodup_nil,by simp,fun k l ds e=>by simp at e⟩
~!RL.more {n m k:Nat}{B:Int}{H0 H:Hp}{ls:List Addr}{l:Addr} (h:RL n m B H0 H ls (List.replicate k [])) (h0:H0 l=none) (hl:H l=none):RL n m B H0 (upd H l (.lst [])) (ls++[l]) (List.replicate (k+1) []):=by
 have hk:ls.length=k:=by rw [h.len,aP]
 have nin:l ∉ ls:=fun z=>by
  x5⟨zs,hz⟩:=h.lists l z
  rw [hl] at hz
  cases hz
 z5⟨by rw [aB,hk,aP]; rfl,?_,fun l' hl'=>?_,fun j l' ds e1 e2=>?_⟩
 .rw [List.nodup_append]
  z5⟨h.nd,by simp,fun a ha b hb z=>?_⟩
  rw [List.mem_singleton.mp hb] at z
  qV nin (z ▸ ha)
 .rcases List.mem_append.mp hl' with hl' | hl'
  .exact h.new l' hl'
  .rw [List.mem_singleton.mp hl']; qV h0
 .have lj:=(aq.mp e2).1
  rw [aP] at lj
  rw [List.getElem?_replicate,if_pos lj] at e2
  cases e2
  by_cases hj:j<ls.length
  .rw [aF hj] at e1
   x5⟨a,_⟩:=h.at_ j l' [] e1 (by rw [List.getElem?_replicate,if_pos (by om)])
   qV⟨(bM (fun z=>by rw [z,hl] at a; cases a)).trans a,bC _,by simp⟩
  .rw [aD (by om)] at e1
   have e0:j - ls.length=0:=by om
   rw [e0] at e1
   cases e1
   qV⟨bK,bC _,by simp⟩
~!RL.other {n m k:Nat}{B:Int}{H0 H:Hp}{ls:List Addr}{D1:Addr}{o:HO} (h:RL n m B H0 H ls (List.replicate k [])) (nd:D1 ∉ ls):RL n m B H0 (upd H D1 o) ls (List.replicate k []):=by
 z5⟨h.len,h.nd,h.new,fun j l ds e1 e2=>?_⟩
 x5⟨a,b,_⟩:=h.at_ j l ds e1 e2
 have lj:=(aq.mp e2).1
 rw [aP] at lj
 rw [List.getElem?_replicate,if_pos lj] at e2
 cases e2
 qV⟨(bM fun z=>by subst z; qV nd (aC e1)).trans a,b,by simp⟩
noncomputable def dJ (a D1:Addr) (c:Int) (n:Nat) (sm:Bool) (ls:List Addr) (u5 u6:Option V) (H:Hp) (k:Nat) (σ:L2.St) (H':Hp):Prop:=∃ (u7 u8 u9:Option V) (dss:List (List Addr)),σ=[some (.ref a),some (.int c),some (.int n),some (.bl sm),some (.ref D1),u5,u6,u7,u8,u9]/\Same H H'/\H' D1=some (.lst (ls.map V.ref))/\dss.length=n/\RL n (sX sm) (mB sm) H H' ls dss
~!Yz (F:Fun K tQ tQ CN f fd) (T:Txt K mg D) (a:Addr) (ns:List Int) (qm:OkF P w K mg base 1 wD vW (yu K a ns)) (dH:OkF P w K mg base 1 iy g_ gj) (Rp:OkF P w K mg base 4 zx zM C_):cD P w K mg base CX0 5 f fd ux (Dm K a ns):=by
 z5 F.ok pL ?_ ?_
 .rintro _ _ _ _ ⟨c,n,sm,rfl,_⟩; rfl
 .rintro cdv A outer s H _ Q E hr ⟨c,n,sm,rfl,hs,n63,c0,n12,q⟩
  z5⟨_,(bN (Iu (bO CN) Kg Kg ["_law_k"] (lC (by rfl) T.qe (bG (pv 2) bI).mono) (eV (i:=0)) c7 (kW bI) (cG (i:=4) pL.nd rfl (Or.inl rfl)))
   (bN (cY (cL Ir (pv 2) bH (cM _))
    (bN (cA (i:=5) pL.nd rfl (Or.inl rfl) (bU qm hr.md (by rfl) (bG (pv 0) (bG (pv 1) bI))))
    (bN (cA (i:=6) pL.nd rfl (Or.inl rfl) (bU dH hr.md (by rfl) (bG (pv 5) (bG (bV mL (bV cR (bV PL (pv 5) bH) bH) (bV dj (bV cZ bH (pv 2)) bH)) bI))))
    (bQ (iD PassesOwn.never rfl (cV ((bV Qc (pv 6) (jz CG (pv 0) (gU (bV dj (pv 1) bH)) (gU (bV dj (pv 1) bH))))).mono) (cG (i:=7) pL.nd rfl (Or.inl rfl))
     (bN (uH (bU Rp hr.md (by rfl) (bG (pv 7) (bG (pv 2) (bG (pv 3) bI)))) (gR (n:=2) rfl (cF (cG (i:=8) pL.nd rfl (Or.inl rfl)) (cF (cG (i:=9) pL.nd rfl (Or.inl rfl)) gC))))
     (bQ (cY (cL yE (cB eN (by rfl) T.lF PySem.boot_len (bG (bZ bY (pv 4) (pv 8) (fun _ _=>rfl)) bI)) (bV ur bH (lN qX (by rfl) T.Dk boot_int (bG (pv 3) bI))) (cM _))
      (bQ (dh (tH (bZ bY (pv 4) (pv 8) (fun _ _=>rfl)) (bG (pv 9) bI))))
      cC)))))))
    cC)
   (bQ (cu (pv 4))))),?_⟩
  unfold yu gj C_
  z5 cg fun R1 hR1=>?_
  walk_at "rd"
  z5 pZ ?_
  walk_at "rd"
  z5⟨n,rfl,by om,fun D1 hD1=>⟨dJ0 n (sX sm) (mB sm) D1 H H,⟨[],rfl,.nil,Same.upd hD1,bK,by simp⟩,?_,?_⟩⟩
  .rintro k ys Hc hk ⟨ls,rfl,rl,S1,h1,nd⟩ hy
   z5⟨bC _,fun l hl=>?_⟩
   have nD:D1≠l:=bL h1 hl
   z5⟨(bM nD).trans h1,ls++[l],by rw [bD]; rfl,(rl.more (Same.free S1 hl) hl).other ?_,fun b o e=>(bM (bL e hD1)).trans ((bM (bL (S1 _ _ e) hl)).trans (S1 _ _ e)),bK,?_⟩
   .simp only [List.mem_append,List.mem_singleton,not_or]
    qV⟨nd,nD⟩
   .simp only [List.mem_append,List.mem_singleton,not_or]
    qV⟨nd,nD⟩
  .rintro ys Hc ⟨ls,rfl,rl,S1,h1,nd⟩ hy
   subst hR1
   z5 cg fun R2 hR2=>?_
   have fin:∀ (u5 u6 u7 u8 u9:Option V) (dss:List (List Addr)) (H9:Hp),Same H H9->H9 D1=some (.lst (ls.map V.ref))->dss.length=n->RL n (sX sm) (mB sm) H H9 ls dss->R2 { nx:=fun _ H'=>Q .non H',rt:=Q } [some (.ref a),some (.int c),some (.int n),some (.bl sm),some (.ref D1),u5,u6,u7,u8,u9] H9:=by
    intro u5 u6 u7 u8 u9 dss H9 S9 h9 ld r9
    subst hR2
    z5⟨_,rfl,q D1 _ dss H9 S9 hD1 h9 ld r9.rd fun ds hds=>?_⟩
    x5⟨k,hk⟩:=aY hds
    have lk:k<ls.length:=by rw [r9.len]; qV(aq.mp hk).1
    qV(r9.at_ k _ ds (aj lk) hk).2.1
   clear hR2
   walk_at "rd"
   z5 Yb (fun hn=>?_) fun _=>fin none none none none none (List.replicate n []) Hc S1 h1 aP rl
   have hn:0<(n:Int):=of_decide_eq_true hn
   have v0:0 <= cell ns c * 48271 % 104729 % (3 * (n:Int)+1):=Int.emod_nonneg _ (by om)
   have v1:cell ns c * 48271 % 104729 % (3 * (n:Int)+1)<3 * (n:Int)+1:=Int.emod_lt_of_pos _ (by om)
   z5⟨Same.sql S1 hs,n63,c0,.inr (by constructor <;> decide),Bd.sm (by decide),Bd.sm (by om),by om,(cell ns c * 48271 % 104729 % (3 * (n:Int)+1)).toNat,by rw [aZ _ (by om)]; om,by om,fun l xs H2 S2 fl hl2 _ _=>fj ?_⟩
   walk_at "rd"
   z5⟨_,Same.sql (S1.trans S2) hs,fun p5 g5=>⟨_,(bM (bL hl2 g5)).trans hl2,?_,fun p6 g6=>⟨dJ a D1 c n sm ls (some (.int (cell ns c))) (some (.ref l)) H,?_,?_,?_⟩⟩⟩
   .have z9:1000<sizeLine:=by decide
    have:(m_ (ns.map V.int) (some (c+1)) (some (c+25))).length <= (ns.map V.int).length:=by
     unfold m_
     rw [bA,List.length_drop]
     om
    rw [ao] at this ⊢
    om
   .have T5:Same Hc (upd (upd H2 p5 (.lst (m_ (ns.map V.int) (some (c+1)) (some (c+25))))) p6 (.lst (xs.map V.int++m_ (ns.map V.int) (some (c+1)) (some (c+25))))):=S2.trans ((Same.upd g5).trans (Same.upd g6))
    qV⟨none,none,none,List.replicate n [],rfl,S1.trans T5,T5 _ _ h1,aP,rl.same T5⟩
   .rintro k v σ' H' hk ⟨u7,u8,u9,dss,rfl,S9,h9,ld,r9⟩ hp6
    obtain ⟨i,rfl⟩ : ∃ i,v=V.int i:=by
     rcases List.mem_append.mp (aC hk) with z | z
     .obtain ⟨i,_,rfl⟩:=List.mem_map.mp z
      qV⟨i,rfl⟩
     .obtain ⟨i,_,rfl⟩:=List.mem_map.mp (List.mem_of_mem_drop (List.mem_of_mem_take z))
      qV⟨i,rfl⟩
    z5⟨_,rfl,_,rfl,_,rfl,⟨_,rfl⟩,n,rfl,sm,rfl,by om,n12,fun r d p lp room so x y S rs ws ps H3 S3 fr fd hr hroom hd hp y0 g hlp flp hpi hdr hy9 hS9=>?_⟩
    have kd:dss[room]?=some (dss[room]'(by om)):=aj _
    have kl:ls[room]?=some (ls[room]'(by rw [r9.len]; om)):=aj _
    generalize dss[room]'(by om)=ds at kd
    generalize ls[room]'(by rw [r9.len]; om)=lr at kl
    have r3:=r9.same S3
    have al:=r3.at_ room lr ds kl kd
    z5⟨_,hr,rfl,_,_,rfl,_,_,rfl,rfl,_,rfl,_,rfl,D1,rfl,_,_,rfl,S3 _ _ h9,_,b_ (j:=room) (by rw [au,kl]; rfl),lr,rfl,_,al.1,_,rfl,.inr ⟨sm,rfl,?_⟩⟩
    rw [ao]
    have em:3 - (if sm=true then (1:Int) else 0)=(sX sm:Nat):=by cases sm <;> decide
    rw [em]
    by_cases hm:ds.length<sX sm
    .rw [if_pos (decide_eq_true (by om))]
     have lin:=aC kl
     have nD:D1≠lr:=fun z=>nd (by rw [z]; qV lin)
     have n6:lr≠p6:=by
      x5⟨zs,hz⟩:=rl.lists lr lin
      qV bL (Same.upd g5 _ _ (S2 _ _ hz)) g6
     have nl:lp ∉ ls:=fun z=>by
      x5⟨zs,hz⟩:=r9.lists lp z
      rw [hz] at flp
      cases flp
     have dd:=DD.off r3.lists nl hd hp y0 g hlp hpi hdr (aeo y0 hdr.pos hy9 hS9)
     have r4:=r3.put kl kd hm dd
     rw [bD] at r4
     have z9:1000<sizeLine:=by decide
     have m3:sX sm <= 3:=by cases sm <;> decide
     z5⟨_,rfl,_,rfl,D1,rfl,_,_,rfl,S3 _ _ h9,_,b_ (j:=room) (by rw [au,kl]; rfl),lr,rfl,⟨_,al.1⟩,_,rfl,_,al.1,by rw [ao]; om,(bM n6.symm).trans (S3 _ _ hp6),_,_,_,dss.set room (ds++[d]),rfl,fun b o e=>(bM (fun z=>?_)).trans (S3 _ _ (S9 _ _ e)),(bM nD).trans (S3 _ _ h9),by rw [List.length_set]; qV ld,r4⟩
     rw [z,r9.new lr lin] at e
     cases e
    .rw [if_neg (by simp; om)]
     qV⟨S3 _ _ hp6,_,_,_,dss,rfl,S9.trans S3,S3 _ _ h9,ld,r3⟩
   .rintro σ' H' ⟨u7,u8,u9,dss,rfl,S9,h9,ld,r9⟩ _
    qV fin _ _ _ _ _ dss H' S9 h9 ld r9
~!WF.keys {H:Hp} : ∀ {xs:List V}{gs:List (Str×Int×Int)}{ws:List (Str×Addr)},WF K H xs gs ws->ws.map (·.1)=gs.map (·.1)
 | _,_,_,.nil=>rfl
 | _,_,_,.cons _ _ r=>by rw [List.map_cons,List.map_cons,r.keys]
~!Wv {ns:List Str}{rs:List Nat} (h:∀ r∈rs,r<ns.length):∃ nms,yP ns rs nms:=by
 z5⟨rs.map fun r=>(ns[r]?).getD Str.empty,ao ..,fun k r m e1 e2=>?_⟩
 rw [au,e1,Option.map_some,aj (h r (aC e1))] at e2
 cases e2
 qV aj _
structure zN (K:Frag) (n:Nat) (B:Int) (ns:List Str) (H H':Hp) (d:Addr) (g:Dr):Prop where
 ex:∃ (p lp:Addr) (so x y S:Int) (rs:List Nat) (ws:List Int) (ps xs:List V) (nms:List Str),H d=some (.tup [.int so,.ref p,.ref lp])/\H p=some (.tup [.int x,.int y])/\0<y/\abt x y/\H lp=some (.lst ps)/\PI H ps rs ws S/\(sJ n so rs ws S/\y * S <= B)/\yP ns rs nms/\g.p=p/\WF K H' xs (Ac.ways (nms.zip ws) S) g.ws
~!zN.on {n:Nat}{B:Int}{ns:List Str}{H H' H2:Hp}{d:Addr}{g:Dr} (S:Same H' H2) (h:zN K n B ns H H' d g):zN K n B ns H H2 d g:=by
 x5⟨p,lp,so,x,y,S',rs,ws,ps,xs,nms,a1,a2,a3,a4,a5,a6,a7,a8,a9,b⟩:=h.ex
 qV⟨p,lp,so,x,y,S',rs,ws,ps,xs,nms,a1,a2,a3,a4,a5,a6,a7,a8,a9,b.same S⟩
~!zN.up {n:Nat}{B:Int}{ns:List Str}{H H' H2:Hp}{d:Addr}{g:Dr} (S:Same H H2) (h:zN K n B ns H H' d g):zN K n B ns H2 H' d g:=by
 x5⟨p,lp,so,x,y,S',rs,ws,ps,xs,nms,a1,a2,a3,a4,a5,a6,a7,a8,a9,b⟩:=h.ex
 qV⟨p,lp,so,x,y,S',rs,ws,ps,xs,nms,S _ _ a1,S _ _ a2,a3,a4,S _ _ a5,a6.same S,a7,a8,a9,b⟩
~!zN.few {n:Nat}{B:Int}{ns:List Str}{H H':Hp}{d:Addr}{g:Dr} (h:zN K n B ns H H' d g):g.ws.length <= 8/\∀ z∈g.ws,z.1∈ns:=by
 x5⟨p,lp,so,x,y,S',rs,ws,ps,xs,nms,a1,a2,a3,a4,a5,a6,a7,a8,a9,b⟩:=h.ex
 have lo:∀ z∈nms.zip ws,0 <= z.2:=fun z hz=>a7.1.lo _ (List.of_mem_zip (a:=z.1) (b:=z.2) hz).2
 have k:=b.keys
 constructor
 .have e1:=congrArg List.length k
  rw [ao,ao] at e1
  have e2:=Ac.ZK lo S'
  have e3:(nms.zip ws).length <= nms.length:=by rw [List.length_zip]; om
  have:=a8.1
  have:=a7.1.l8
  om
 .intro z hz
  have hz:=List.mem_map_of_mem (f:=(·.1)) hz
  rw [k] at hz
  x5⟨v,hv,e⟩:=List.mem_map.mp hz
  have hv:=Ac.ZS hv
  x5⟨u,hu,e'⟩:=List.mem_map.mp hv
  have hu:=(List.of_mem_zip (a:=u.1) (b:=u.2) hu).1
  rw [<- e,<- e']
  x5⟨j,hj⟩:=aY hu
  have lj:j<rs.length:=by rw [<- a8.1]; qV(aq.mp hj).1
  qV aC (a8.2 j _ _ (aj lj) hj)
structure uT (K:Frag) (n:Nat) (B:Int) (ns:List Str) (H H':Hp) (ds:List Addr) (gs:List Dr):Prop where
 len:gs.length=ds.length
 at_:∀ (j:Nat) (d:Addr) (g:Dr),ds[j]?=some d->gs[j]?=some g->zN K n B ns H H' d g
~!uT.on {n:Nat}{B:Int}{ns:List Str}{H H' H2:Hp}{ds:List Addr}{gs:List Dr} (S:Same H' H2) (h:uT K n B ns H H' ds gs):uT K n B ns H H2 ds gs:=⟨h.len,fun j d g e1 e2=>(h.at_ j d g e1 e2).on S⟩
~!uT.up {n:Nat}{B:Int}{ns:List Str}{H H' H2:Hp}{ds:List Addr}{gs:List Dr} (S:Same H H2) (h:uT K n B ns H H' ds gs):uT K n B ns H2 H' ds gs:=⟨h.len,fun j d g e1 e2=>(h.at_ j d g e1 e2).up S⟩
~!uT.mem {n:Nat}{B:Int}{ns:List Str}{H H':Hp}{ds:List Addr}{gs:List Dr} (h:uT K n B ns H H' ds gs) {g:Dr} (hg:g∈gs):∃ d,zN K n B ns H H' d g:=by
 x5⟨j,hj⟩:=aY hg
 have lj:j<ds.length:=by rw [<- h.len]; qV(aq.mp hj).1
 qV⟨_,h.at_ j _ g (aj lj) hj⟩
~!uT.snoc {n:Nat}{B:Int}{ns:List Str}{H H':Hp}{ds:List Addr}{gs:List Dr}{d:Addr}{g:Dr} (h:uT K n B ns H H' ds gs) (hd:zN K n B ns H H' d g):uT K n B ns H H' (ds++[d]) (gs++[g]):=by
 have l:=h.len
 z5⟨by rw [aB,aB,l]; rfl,fun j d' g' e1 e2=>?_⟩
 rcases mU e1 with ⟨a,b⟩ | ⟨a,b⟩ <;> rcases mU e2 with ⟨c,e⟩ | ⟨c,e⟩
 .exact h.at_ j d' g' b e
 .om
 .om
 .subst b; subst e; qV hd
~!wQ.snoc {H:Hp}{xs:List V}{gs:List Dr}{s:Addr}{g:Dr} (h:wQ D H xs gs) (hs:WM D H s g):wQ D H (xs++[.ref s]) (gs++[g]):=by
 have l:=h.len
 z5⟨by rw [aB,aB,l]; rfl,fun k g' e=>?_⟩
 rcases mU e with ⟨a,b⟩ | ⟨a,b⟩
 .obtain ⟨s',c,d⟩:=h.at_ k g' b
  qV⟨s',by rw [aF (by om)]; qV c,d⟩
 .subst b
  qV⟨s,by rw [aD (by om),l,a,Nat.sub_self]; rfl,hs⟩
~!nj.snoc {H:Hp}{xs ys:List V}{rms:List (Str×List Dr)}{t l:Addr}{g:Str×List Dr} (h:nj D H xs rms) (ht:H t=some (.tup [.str g.1,.ref l])) (hl:H l=some (.lst ys)) (hd:wQ D H ys g.2):nj D H (xs++[.ref t]) (rms++[g]):=by
 have le:=h.len
 z5⟨by rw [aB,aB,le]; rfl,fun k g' e=>?_⟩
 rcases mU e with ⟨a,b⟩ | ⟨a,b⟩
 .obtain ⟨t',l',ys',c,d⟩:=h.at_ k g' b
  qV⟨t',l',ys',by rw [aF (by om)]; qV c,d⟩
 .subst b
  qV⟨t,l,ys,by rw [aD (by om),le,a,Nat.sub_self]; rfl,ht,hl,hd⟩
structure Yr (K:Frag) (n:Nat) (B:Int) (H:Hp) (dss:List (List Addr)) (rms:List (Str×List Dr)):Prop where
 len:rms.length=dss.length
 at_:∀ (j:Nat) (ds:List Addr) (g:Str×List Dr),dss[j]?=some ds->rms[j]?=some g->uT K n B (rms.map (·.1)) H H ds g.2
~!acZ {so:Int} (s0:0 <= so) (s3:so <= 3):fH D (clsOf D so):=by
 unfold fH
 obtain rfl | rfl | rfl | rfl:so=0\/so=1\/so=2\/so=3:=by om
 all_goals simp [clsOf]
~!zL {as:List Addr}{H:Hp} (hls:∀ l∈as,∃ zs,H l=some (.lst zs)) {b:Addr}{u:HO} (nu:∀ zs,u≠.lst zs) (e:H b=some u):del as H b=some u:=jc (fun z=>by
 x5⟨zs,hz⟩:=hls b z
 rw [hz] at e
 injection e with e
 qV nu zs e.symm) e
~!WF.off {as:List Addr}{H:Hp} (hls:∀ l∈as,∃ zs,H l=some (.lst zs)) {xs:List V}{gs:List (Str×Int×Int)}{ws:List (Str×Addr)} (h:WF K H xs gs ws):WF K (del as H) xs gs ws:=by
 z5 h.imp (fun t ys e=>zL hls (by intro z y; cases y) e) fun c xs e=>?_
 rcases e with (e | ⟨o,e⟩) | e
 .exact .inl (.inl (zL hls (by intro z y; cases y) e))
 .exact .inl (.inr ⟨o,zL hls (by intro z y; cases y) e⟩)
 .exact .inr e
noncomputable def Lw (K:Frag) (D:Adr):Sp:=fun vs H Q _=>∃ (c x y:Int) (p r:Addr) (xs:List V) (dss:List (List Addr)) (n m:Nat) (B:Int),vs=[.int c,.ref p,.ref r]/\H p=some (.tup [.int x,.int y])/\0 <= x/\x<y/\y <= 100/\Int.gcd x y=1/\H r=some (.lst xs)/\RD n B H xs dss/\dss.length=n/\n <= 12/\m <= 12/\(∀ ds∈dss,ds.length <= m) /\
 ∀ (o:Addr) (H':Hp) (rms:List (Str×List Dr)),Same H H'->H o=none->kE D H' o p rms->Tw rms->Yr K n B H' dss rms->Q (.ref o) H'
noncomputable def hlJ (K:Frag) (D:Adr) (σ0:List (Option V)) (D1:Addr) (n:Nat) (B:Int) (ns:List Str) (dss:List (List Addr)) (H H1:Hp) (k:Nat) (σ:L2.St) (H':Hp):Prop:=∃ (u5 u6:Option V) (zs:List V) (rms:List (Str×List Dr)),σ=σ0++[u5,u6]/\Same H1 H'/\H' D1=some (.lst zs)/\nj D (del [D1] H') zs rms/\rms.map (·.1)=ns.take k/\(∀ g∈rms,(g.2.map (·.nm)).Nodup)/\∀ (j:Nat) (ds:List Addr) (g:Str×List Dr),dss[j]?=some ds->rms[j]?=some g->uT K n B ns H (del [D1] H') ds g.2
noncomputable def dlJ (K:Frag) (D:Adr) (D1 D2:Addr) (n:Nat) (B:Int) (ns ts:List Str) (ds:List Addr) (H H1:Hp) (k:Nat) (zs:List V) (H':Hp):Prop:=∃ gs:List Dr,Same H1 H'/\H' D2=some (.lst zs)/\wQ D (del [D1,D2] H') zs gs/\gs.map (·.nm)=ts.take k/\uT K n B ns H (del [D1,D2] H') (ds.take k) gs
~!abh (F:Fun K yZ yZ K5 f fd) (T:Txt K mg D) (CZ:OkF P w K mg base 2 ud uO Fi) (L_:OkF P w K mg base 8 uZ tD (Ew K D)) (JC:OkI P w K mg base (CXO P w) 4 D.Hall_init lX (rN K D)):cD P w K mg base CX0 9 f fd yG (Lw K D):=by
 z5 F.ok yj ?_ ?_
 .rintro _ _ _ _ ⟨c,x,y,p,r,xs,dss,n,m,B,rfl,_⟩; rfl
 .rintro cdv A outer s H _ Q E hr ⟨c,x,y,p,r,xs,dss,n,m,B,rfl,hp,x0,xy,y1,gx,hrm,rd,ln,n12,m12,hm,q⟩
  z5⟨_,(bN (cA (i:=3) yj.nd rfl (Or.inr rfl) (bU CZ hr.md (by rfl) (bG (pv 0) (bG (cB eN (by rfl) T.lF PySem.boot_len (bG (pv 2) bI)) bI))))
   (bN (cA (i:=4) yj.nd rfl (Or.inl rfl) (kW bI))
   (bN (iD PassesOwn.never rfl (lC (by rfl) T.qe (bG (cB eN (by rfl) T.lF PySem.boot_len (bG (pv 2) bI)) bI).mono) (cG (i:=5) yj.nd rfl (Or.inl rfl))
    (bN (cA (i:=6) yj.nd rfl (Or.inl rfl) (bU CZ hr.md (by rfl) (bG (bV dj (pv 0) (pv 5)) (bG (cB eN (by rfl) T.lF PySem.boot_len (bG (bZ bY (pv 2) (pv 5) (fun _ _=>rfl)) bI)) bI))))
    (bQ (dh (tH (pv 4) (bG (kZ (bG (bZ bY (pv 3) (pv 5) (fun _ _=>rfl)) (bG (jy (bO K5) Pn Pn ["_law_title", "_law_door_here"] (Q9 (by rfl) T.Xq (bG (pv 6) (bG (bZ bY (pv 2) (pv 5) (fun _ _=>rfl)) bI)).mono) (gR (n:=2) rfl (cF (eV (i:=0)) (cF (eV (i:=1)) gC))) c7 (bU L_ hr.md (by rfl) (bG (pv 0) (bG (pv 1) (bG (pv 5) bI))))) bI))) bI))))))
   (bQ (cu (tU T.abT JC hr.md (by rfl) T.adJ yt (bG (pv 1) (bG (pv 4) bI)))))))),?_⟩
  have lx:xs.length=n:=by rw [rd.len,ln]
  have z9:100<sizeLine:=by decide
  z5 cN ⟨_,rfl,_,rfl,r,xs,rfl,hrm,c,n,by rw [lx],n12,fun l0 ns H1 S1 f0 hl0 lns wns nns=>cN ⟨bC _,fun D1 hD1=>dI (vY ?_)⟩⟩
  z5⟨_,rfl,r,xs,rfl,(bM (bL (S1 _ _ hrm) hD1)).trans (S1 _ _ hrm),n,by rw [lx],by om,hlJ K D [some (.int c),some (.ref p),some (.ref r),some (.ref l0),some (.ref D1)] D1 n B ns dss H H1,⟨none,none,[],[],rfl,Same.upd hD1,bK,⟨rfl,fun k g e=>by simp at e⟩,rfl,by simp,fun j ds g _ e=>by simp at e⟩,?_,?_⟩
  .rintro k σ' H' hk ⟨u5,u6,zs,rms,rfl,S2,hD,hR,hn,hd,hi⟩
   have ed:dss[k]?=some (dss[k]'(by om)):=aj _
   have em:=aX (l:=dss) (n:=k) (by om)
   have en:ns[k]?=some (ns[k]'(by om)):=aj _
   generalize dss[k]'(by om)=ds at ed em
   generalize ns[k]'(by om)=nk at en
   have dm:=hm ds em
   x5⟨lk,ek,hlk,dd⟩:=rd.at_ k ds ed
   have SH:=S1.trans S2
   z5⟨_,rfl,_,rfl,_,_,rfl,rfl,_,rfl,_,rfl,_,_,_,_,rfl,rfl,SH _ _ hrm,b_ ek,lk,_,rfl,SH _ _ hlk,_,ds.length,by rw [ao],by om,fun l1 ts H3 S3 f3 hl3 lts wts nts=>⟨_,rfl,D1,_,rfl,S3 _ _ hD,_,rfl,_,rfl,_,_,_,_,rfl,rfl,S3 _ _ (S2 _ _ hl0),b_ (by rw [au,en]; rfl),Nj (Fy ?_)⟩⟩
   have SH3:=SH.trans S3
   have S13:=S2.trans S3
   z5⟨_,rfl,_,rfl,_,rfl,_,_,_,_,rfl,rfl,SH3 _ _ hrm,b_ ek,l1,lk,_,_,rfl,hl3,SH3 _ _ hlk,by rw [ao,ao,lts],by rw [ao]; om,fun D2 hD2=>⟨dlJ K D D1 D2 n B ns ts ds H H3,⟨[],Same.upd hD2,bK,⟨rfl,fun k g e=>by simp at e⟩,rfl,⟨rfl,fun j d g _ e=>by simp at e⟩⟩,?_,?_⟩⟩
   .rintro j xv yv zs2 Hc t hx hy ⟨gs,S5,h5,dr,gn,ri⟩ hz ht ha hb pre hpre
    x5⟨u1,u2,rfl⟩:=xR hpre
    rw [au] at hx hy
    have lj:j<ds.length:=by
     by_cases z:j<ds.length
     .exact z
     .rw [aO (by om)] at hy
      cases hy
    have e1:ts[j]?=some (ts[j]'(by om)):=aj _
    have e2:ds[j]?=some ds[j]:=aj _
    rw [e1] at hx
    rw [e2] at hy
    cases hx
    cases hy
    generalize ts[j]'(by om)=tj at e1 ⊢
    generalize ds[j]=d at e2 ⊢
    x5⟨p1,lp,so,x1,y2,S',rs,ws,ps,a1,a2,a3,a4,a5,a6,a7⟩:=(dd d (aC e2)).ex
    x5⟨nms,no⟩:=Wv (ns:=ns) (rs:=rs) fun r hr=>by rw [lns]; qV a7.1.lt r hr
    have SHc:Same H Hc:=SH3.trans S5
    have SU:=SHc.trans (Same.upd ht (o:=.tup [.str tj,.ref d]))
    have hl0c:=Same.upd ht (o:=.tup [.str tj,.ref d]) _ _ (S5 _ _ (S13 _ _ hl0))
    z5⟨_,_,rfl,bK,rfl,⟨_,_,rfl,_,_,rfl,rfl,[_,_],rfl,rfl,⟨_,rfl,_,rfl,_,rfl,so,d,l0,lp,p1,tj,x1,y2,S',rs,ws,ps,ns,nms,rfl,SU _ _ a1,wts _ (aC e1),⟨.inl (.inl (SU _ _ a2)),a3,a4.gcd⟩,SU _ _ a5,a6.same SU,hl0c,no,a7.1.drawn no wns,fun H4 s ld ys us S6 fs fld d1=>?_⟩⟩⟩
    have S7:Same Hc H4:=(Same.upd ht).trans S6
    have hD4:H4 D1=some (.lst zs):=S7 _ _ (S5 _ _ (S3 _ _ hD))
    have h54:=S7 _ _ h5
    have hls:∀ l∈[D1,D2],∃ zs,H4 l=some (.lst zs):=fun l hl=>by
     simp only [List.mem_cons,List.not_mem_nil,or_false] at hl
     rcases hl with rfl | rfl
     .exact ⟨_,hD4⟩
     .exact ⟨_,h54⟩
    have nw:∀ b,upd Hc t (.tup [.str tj,.ref d]) b=none->b ∉ [D1,D2]:=fun b hb z=>by
     simp only [List.mem_cons,List.not_mem_nil,or_false] at z
     rcases z with rfl | rfl
     .rw [Same.upd ht _ _ (S5 _ _ (S3 _ _ hD))] at hb
      cases hb
     .rw [Same.upd ht _ _ h5] at hb
      cases hb
    x5⟨dx,hs⟩:=d1.at_
    have wo:=d1.wf.off hls
    have st:Same (del [D1,D2] Hc) (del [D1,D2] H4):=uf fun b o _ e=>S7 _ _ e
    have di:zN K n B ns H (del [D1,D2] H4) d ⟨tj,p1,us⟩:=⟨p1,lp,so,x1,y2,S',rs,ws,ps,ys,nms,a1,a2,a3,a4,a5,a6,a7,no,rfl,wo⟩
    z5⟨h54,S7 _ _ ha,S7 _ _ hb,gs++[⟨tj,p1,us⟩],fun b u e=>(bM (bL e hD2)).trans (S7 _ _ (S5 _ _ e)),bK,?_,?_,?_⟩
    .rw [zW (by simp)]
     qV(dr.same st).snoc ⟨clsOf D so,dx,ld,ys,acZ a7.1.s0 a7.1.s3,jc (nw _ fs) hs,jc (nw _ fld) d1.hl,wo.ways,aN di.few.1 (by decide)⟩
    .rw [bD,gn,cH e1]; rfl
    .rw [zW (by simp),cH e2]
     qV(ri.on st).snoc di
   .rintro zs2 Hc ⟨gs,S5,h5,dr,gn,ri⟩ hz
    rw [ao,aM (aG _)] at gn
    rw [ao,aM (by om)] at ri
    have rk:rms.length=k:=by
     have:=congrArg List.length hn
     rw [ao,bA] at this
     om
    have zl:=hR.len
    have hDc:Hc D1=some (.lst zs):=S5 _ _ (S3 _ _ hD)
    have n12':D1≠D2:=bL (S3 _ _ hD) hD2
    z5⟨dW,fun t2 g2=>?_⟩
    have n1:D1≠t2:=bL hDc g2
    have st:Same (del [D1] H') (del [D1] (upd Hc t2 (.tup [.str nk,.ref D2]))):=uf fun b o _ e=>Same.upd g2 _ _ (S5 _ _ (S3 _ _ e))
    have s2:Same (del [D1,D2] Hc) (del [D1] (upd Hc t2 (.tup [.str nk,.ref D2]))):=fun b o e=>by
     x5⟨a,e⟩:=qu e
     qV jc (by simp at a ⊢; qV a.1) (Same.upd g2 _ _ e)
    z5⟨_,zs,rfl,(bM n1).trans hDc,by om,some (.int k),some (.ref l1),zs++[.ref t2],rms++[(nk,gs)],rfl,fun b u e=>(bM (bL e hD1)).trans (Same.upd g2 _ _ (S5 _ _ (S13 _ _ e))),bK,?_,?_,?_,?_⟩
    .rw [zW (by simp)]
     qV(hR.same st).snoc (jc (by simp; qV n1.symm) bK) (jc (by simp; qV n12'.symm) ((bM (bL h5 g2)).trans h5)) (dr.same s2)
    .rw [bD,hn,cH en]; rfl
    .intro g hg
     rcases List.mem_append.mp hg with hg | hg
     .exact hd g hg
     .rw [List.mem_singleton.mp hg,gn]; qV nts
    .intro j ds' g h1 h2
     rw [zW (by simp)]
     rcases mU h2 with ⟨_,b⟩ | ⟨a,rfl⟩
     .exact (hi j ds' g h1 b).on st
     .rw [a,rk,ed] at h1
      cases h1
      qV ri.on s2
  .rintro σ' H' ⟨u5,u6,zs,rms,rfl,S2,hD,hR,hn,hd,hi⟩
   z5⟨_,rfl,_,rfl,fun o dx g1 g2 g3=>?_⟩
   have SM:Same H' (upd (upd H' dx (.own o)) o (.ins D.Hall dx [])):=fun b u e=>by rw [bM (bL e g1),bM (bL e g2)]; qV e
   have SH:=S1.trans S2
   rw [aM (by om)] at hn
   have rl:rms.length=n:=by rw [<- lns,<- hn,ao]
   have ri:∀ g∈rms,∃ ds∈dss,uT K n B ns H (del [D1] H') ds g.2:=fun g hg=>by
    x5⟨j,hj⟩:=aY hg
    have lj:j<dss.length:=by have:=(aq.mp hj).1; om
    qV⟨_,aX lj,hi j _ g (aj lj) hj⟩
   have ok:Tw rms:=by
    z5⟨by om,by rw [hn]; qV nns,fun g hg=>wns _ (by rw [<- hn]; qV List.mem_map_of_mem hg),fun g hg=>?_,hd,fun g hg d hd' z hz=>?_⟩
    .obtain ⟨ds,h1,h2⟩:=ri g hg
     have:=hm ds h1
     have:=h2.len
     om
    .obtain ⟨ds,h1,h2⟩:=ri g hg
     x5⟨_,h3⟩:=h2.mem hd'
     rw [hn]
     qV h3.few.2 z hz
   z5⟨o,dx,p,D1,x,y,zs,rms,rfl,bK,⟨.inl (.inl (SM _ _ (SH _ _ hp))),by om,gx⟩,x0,xy,Bd.sm (by om),Bd.sm (by om),SM _ _ hD,(hR.same vH).same SM,ok,fun H5 kp hh=>⟨rfl,?_⟩⟩
   have SS:Same H' H5:=fun b u e=>kp b u (bL e g1) (SM b u e)
   z5 q o H5 rms (SH.trans SS) (Same.free SH g1) hh ok ⟨by rw [rl,ln],fun j ds g h1 h2=>?_⟩
   rw [hn]
   qV((hi j ds g h1 h2).on (vH.trans SS)).up (SH.trans SS)
noncomputable def wsum (gs:List (Str×Int)) (h:Str->Rat):Rat:=(gs.map fun g=>(g.2:Rat) * h g.1).sum
~!nF {g:Str×Int}{gs:List (Str×Int)}{h:Str->Rat} : wsum (g::gs) h=(g.2:Rat) * h g.1+wsum gs h:=rfl
~!acQ {a:Str×Int}{as:List (Str×Int)}{r:Str}{y:Int} (n:a.1≠r):Ac.put (a::as) r y=a::Ac.put as r y:=by
 unfold Ac.put
 rw [List.any_cons,decide_eq_false n,Bool.false_or]
 split
 .rw [List.map_cons,if_neg n]
 .rfl
~!adS {a:Str×Int}{as:List (Str×Int)}{r:Str}{y:Int} (e:a.1=r) (n:r ∉ as.map (·.1)):Ac.put (a::as) r y=(a.1,y)::as:=by
 unfold Ac.put
 rw [List.any_cons,decide_eq_true e,Bool.true_or,if_pos rfl,List.map_cons,if_pos e]
 congr 1
 have:as.map (fun g=>if g.1=r then (g.1,y) else g)=as.map id:=List.map_congr_left fun g hg=>if_neg fun (z:g.1=r)=>n (List.mem_map.mpr ⟨g,hg,z⟩)
 rw [this,List.map_id]
~!abO {a:Str×Int}{as:List (Str×Int)}{r:Str} (n:a.1≠r):Ac.look (a::as) r=Ac.look as r:=by
 unfold Ac.look
 rw [List.find?_cons,decide_eq_false n]
~!aaC {a:Str×Int}{as:List (Str×Int)}{r:Str} (e:a.1=r):Ac.look (a::as) r=a.2:=by
 unfold Ac.look
 rw [List.find?_cons,decide_eq_true e]; rfl
~!Om {h:Str->Rat}{r:Str}{y:Int} : ∀ {as:List (Str×Int)},(as.map (·.1)).Nodup->wsum (Ac.put as r y) h=wsum as h+((y:Rat) - (Ac.look as r:Rat)) * h r
 | [],_=>by
  show (y:Rat) * h r+0=0+((y:Rat) - ((0:Int):Rat)) * h r
  rw [Rat.intCast_zero]
  grind
 | a::as,nd=>by
  rw [List.map_cons,List.nodup_cons] at nd
  by_cases e:a.1=r
  .rw [adS e (e ▸ nd.1),aaC e,nF,nF,e]
   grind
  .rw [acQ e,abO e,nF,nF,Om nd.2]
   grind
~!H_ {h:Str->Rat} : ∀ {gs acc:List (Str×Int)},(acc.map (·.1)).Nodup->wsum (gs.foldl (fun a g=>Ac.put a g.1 (Ac.look a g.1+g.2)) acc) h=wsum acc h+wsum gs h
 | [],acc,_=>by
  show wsum acc h=wsum acc h+0
  rw [Rat.add_zero]
 | g::gs,acc,nd=>by
  rw [List.foldl_cons,H_ (Ac.Xn nd _ _),Om nd,nF,Rat.intCast_add]
  grind
~!UJ {h:Str->Rat}{gs:List (Str×Int)} : wsum (Ac.jl gs) h=wsum gs h:=by
 have:=H_ (h:=h) (gs:=gs) (acc:=[]) List.nodup_nil
 have z:wsum [] h=0:=rfl
 rw [z,Rat.zero_add] at this
 qV this
~!aci {t b:Int} (hb:0<b):vl (Ac.lw t b)=(t:Rat) / (b:Rat):=XQ (y:=(t,b)) (Ac.jT hb) hb (Ac.zy hb)
noncomputable def qL (ns:List Str) (gs:List (Str×Int)) (S:Int):List (Nat×Int×Int):=(Ac.ways gs S).map fun g=>(ns.idxOf g.1,g.2)
~!O4 {ns:List Str}{S:Int} (hS:0<S) {G:Nat->Rat} : ∀ {acc:List (Str×Int)},(∀ g∈acc,0 <= g.2)->iG (((acc.filter fun g=>decide (0<g.2)).map fun g=>(g.1,Ac.lw g.2 S)).map fun g=>(ns.idxOf g.1,g.2)) G=wsum acc (fun n=>G (ns.idxOf n)) / (S:Rat)
 | [],_=>by
  show (0:Rat)=0 / (S:Rat)
  grind
 | a::acc,h=>by
  have ih:=O4 (ns:=ns) hS (G:=G) (acc:=acc) fun g hg=>h g (aJ _ hg)
  have a0:=h a aQ
  have:=fB hS
  rw [nF,List.filter_cons]
  by_cases e:0<a.2
  .rw [if_pos (decide_eq_true e),List.map_cons,List.map_cons]
   show vl (Ac.lw a.2 S) * G (ns.idxOf a.1)+iG _ G=_
   rw [ih,aci hS]
   grind
  .rw [if_neg (by simp [e]),ih]
   have z:a.2=0:=by om
   rw [z,Rat.intCast_zero]
   grind
~!Yw {ns:List Str}{gs:List (Str×Int)}{S:Int} (hS:0<S) (lo:∀ g∈gs,0 <= g.2) {G:Nat->Rat} : iG (qL ns gs S) G=wsum gs (fun n=>G (ns.idxOf n)) / (S:Rat):=by
 unfold qL Ac.ways
 rw [O4 hS fun g hg=>((Ac.vO gs lo).2.2 g hg).1,UJ]
noncomputable def Bs (rs:List Nat) (ws:List Int) (S:Int):List (Nat×Int×Int):=List.zipWith (fun r x=>(r,Ac.lw x S)) rs ws
~!ada {ns:List Str} (nd:ns.Nodup) {r:Nat}{m:Str} (h:ns[r]?=some m):ns.idxOf m=r:=by
 have lm:ns.idxOf m<ns.length:=List.idxOf_lt_length_of_mem (aC h)
 have e:ns[ns.idxOf m]?=some m:=by rw [aj lm,List.getElem_idxOf lm]
 qV qQ nd e h
~!Mw {ns:List Str} (nd:ns.Nodup) {S:Int} (hS:0<S) {G:Nat->Rat} : ∀ {rs:List Nat}{nms:List Str}{ws:List Int},yP ns rs nms->iG (Bs rs ws S) G=wsum (nms.zip ws) (fun n=>G (ns.idxOf n)) / (S:Rat)
 | [],nms,ws,h=>by
  have e:nms=[]:=List.eq_nil_of_length_eq_zero h.1
  subst e
  show (0:Rat)=0 / (S:Rat)
  grind
 | r::rs,[],_,h=>by cases h.1
 | r::rs,m::nms,[],h=>by
  show (0:Rat)=0 / (S:Rat)
  grind
 | r::rs,m::nms,x::ws,h=>by
  have ih:=Mw nd hS (G:=G) (rs:=rs) (nms:=nms) (ws:=ws) ⟨Nat.succ.inj h.1,fun k r' m' e1 e2=>h.2 (k+1) r' m' e1 e2⟩
  have e0:=ada nd (h.2 0 r m rfl rfl)
  show vl (Ac.lw x S) * G r+iG (Bs rs ws S) G=_
  rw [ih,aci hS,List.zip_cons_cons,nF,e0]
  have:=fB hS
  grind
structure BP (n:Nat) (H:Hp) (d:Addr) (fc:(Int×Int)×List (Nat×Int×Int)):Prop where
 ex:∃ (p lp:Addr) (so S:Int) (rs:List Nat) (ws:List Int) (ps:List V),H d=some (.tup [.int so,.ref p,.ref lp])/\H p=some (.tup [.int fc.1.1,.int fc.1.2])/\H lp=some (.lst ps)/\PI H ps rs ws S/\sJ n so rs ws S/\∀ G,iG fc.2 G=iG (Bs rs ws S) G
~!BP.same {n:Nat}{H H':Hp}{d:Addr}{fc:(Int×Int)×List (Nat×Int×Int)} (h:BP n H d fc) (S:Same H H'):BP n H' d fc:=by
 x5⟨p,lp,so,S',rs,ws,ps,a,b,c,e,f,g⟩:=h.ex
 qV⟨p,lp,so,S',rs,ws,ps,S _ _ a,S _ _ b,S _ _ c,e.same S,f,g⟩
~!WF.get {H:Hp} : ∀ {xs:List V}{gs:List (Str×Int×Int)}{ws:List (Str×Addr)}{k:Nat}{g:Str×Addr},WF K H xs gs ws->ws[k]?=some g->∃ x,gs[k]?=some (g.1,x)/\SqT K H g.2 [.int x.1,.int x.2]
 | _,_,_,_,_,.nil,e=>by simp at e
 | _,_,_,0,_,.cons (x:=x) (y:=y) h1 h2 r,e=>by
  rw [List.getElem?_cons_zero] at e
  cases e
  qV⟨(x,y),rfl,h2⟩
 | _,_,_,k+1,_,.cons h1 h2 r,e=>by
  rw [List.getElem?_cons_succ] at e ⊢
  qV r.get e
~!WF.len2 {H:Hp} : ∀ {xs:List V}{gs:List (Str×Int×Int)}{ws:List (Str×Addr)},WF K H xs gs ws->ws.length=gs.length
 | _,_,_,.nil=>rfl
 | _,_,_,.cons _ _ r=>congrArg (· + 1) r.len2
structure FN (B:Int) (fc:(Int×Int)×List (Nat×Int×Int)):Prop where
 f0:0<fc.1.2
 big:fc.1.1.natAbs <= 10 ^ 30
 few:fc.2.length <= 41
 ex:∃ M:Nat,0<M/\(M:Int) <= B/\fc.1.2 ∣ (M:Int)/\∀ c∈fc.2,0<c.2.2/\c.2.2 ∣ (M:Int)/\0 <= c.2.1/\c.2.1 <= c.2.2
~!agp {u S:Int} (hS:0<S) (u0:0 <= u) (u1:u <= S):0 <= (Ac.lw u S).1/\(Ac.lw u S).1 <= (Ac.lw u S).2:=by
 have p:=Ac.jT (t:=u) hS
 have e:=Ac.zy (t:=u) hS
 generalize (Ac.lw u S).1=x at *
 generalize (Ac.lw u S).2=y at *
 constructor
 .refine Int.not_lt.mp fun z=>?_
  have h1:x * S<0:=Int.mul_neg_of_neg_of_pos z hS
  have h2:0 <= u * y:=Int.mul_nonneg u0 (by om)
  om
 .refine Int.not_lt.mp fun z=>?_
  have h1:y * S<x * S:=Int.mul_lt_mul_of_pos_right z hS
  have h2:u * y <= S * y:=Int.mul_le_mul_of_nonneg_right u1 (by om)
  have h3:S * y=y * S:=Int.mul_comm ..
  om
~!zN.fc {n:Nat}{B:Int}{ns:List Str}{H:Hp}{d:Addr}{g:Dr} (h:zN K n B ns H H d g) (nd:ns.Nodup) (ln:ns.length=n):∃ fc:(Int×Int)×List (Nat×Int×Int),DrN K H ns g fc.1 fc.2/\BJ n fc.1 fc.2/\BP n H d fc/\FN B fc:=by
 have few:=h.few
 x5⟨p,lp,so,x,y,S,rs,ws,ps,xs,nms,a1,a2,a3,a4,a5,a6,⟨a7,hyS⟩,a8,a9,b⟩:=h.ex
 have lo:∀ z∈nms.zip ws,0 <= z.2:=fun z hz=>a7.lo _ (List.of_mem_zip (a:=z.1) (b:=z.2) hz).2
 have sa:=a4.sa
 have sb:=a4.sb
 have S0:=a7.pos
 have S1:=a7.le
 have wl:=b.len2
 have key:∀ z∈Ac.ways (nms.zip ws) S,z.1∈ns:=fun z hz=>by
  have hm:z.1∈g.ws.map (·.1):=by rw [b.keys]; qV List.mem_map_of_mem hz
  x5⟨u,hu,e⟩:=List.mem_map.mp hm
  rw [<- e]
  qV few.2 u hu
 have fr:∀ z∈Ac.ways (nms.zip ws) S,Fq z.2/\z.2.2 ∣ S/\0 <= z.2.1/\z.2.1 <= z.2.2:=fun z hz=>by
  unfold Ac.ways at hz
  x5⟨u,hu,rfl⟩:=List.mem_map.mp hz
  x5⟨hu1,hu2⟩:=List.mem_filter.mp hu
  have q:=(Ac.vO _ lo).2.2 u hu1
  have sm:((nms.zip ws).map (·.2)).sum=S:=by
   have:(nms.zip ws).map (·.2)=ws:=List.map_snd_zip (by have:=a8.1; have:=a7.len; om)
   rw [this]; qV a7.sum
  rw [sm] at q
  have b1:=Ac.D_ u.2 S
  have b2:=Ac.BK u.2 S
  qV⟨⟨Ac.jT S0,Ac.xr S0,by show (Ac.lw u.2 S).1.natAbs <= _; om,by show (Ac.lw u.2 S).2.natAbs <= _; om⟩,Int.ediv_dvd_of_dvd (Int.gcd_dvd_right u.2 S),agp S0 q.1 q.2⟩
 z5⟨((x,y),qL ns (nms.zip ws) S),⟨by rw [a9]; qV a2,by unfold qL; rw [ao,wl],fun k u c e1 e2=>?_⟩,⟨⟨a3,aN sa (by decide),?_⟩,?_,fun c hc=>?_,?_⟩,⟨p,lp,so,S,rs,ws,ps,a1,a2,a5,a6,a7,fun G=>?_⟩,⟨a3,sa,?_,(y * S).toNat,?_,?_,?_,fun c hc=>?_⟩⟩
 .obtain ⟨z,ez,hz⟩:=b.get e1
  unfold qL at e2
  rw [au,ez] at e2
  cases e2
  have lm:ns.idxOf u.1<ns.length:=List.idxOf_lt_length_of_mem (few.2 u (aC e1))
  qV⟨by rw [aj lm,List.getElem_idxOf lm],hz⟩
 .unfold Bn
  have:(10:Nat) ^ 40=10 ^ 3 * 10 ^ 37:=by decide
  show y.natAbs <= _
  om
 .unfold qL
  rw [ao,<- wl]
  have:=few.1
  om
 .unfold qL at hc
  x5⟨z,hz,rfl⟩:=List.mem_map.mp hc
  qV⟨by rw [<- ln]; qV List.idxOf_lt_length_of_mem (key z hz),(fr z hz).1⟩
 .have dv:lvB (chF (qL ns (nms.zip ws) S)) ∣ S.natAbs:=Lv.yU.mpr fun c hc=>by
   unfold UW chF qL at hc
   x5⟨f,hf,rfl⟩:=List.mem_map.mp hc
   x5⟨c2,hc2,rfl⟩:=List.mem_map.mp hf
   x5⟨z,hz,rfl⟩:=List.mem_map.mp hc2
   qV Int.natAbs_dvd_natAbs.mpr (fr z hz).2.1
  have le:=Nat.le_of_dvd (by om) dv
  unfold Bn
  rw [Int.natAbs_natCast]
  show lvB (chF (qL ns (nms.zip ws) S)) <= _
  have:(10:Nat) ^ 20 <= 10 ^ 60:=by decide
  om
 .show iG (qL ns (nms.zip ws) S) G=_
  rw [Yw S0 lo,Mw nd S0 a8]
 .unfold qL
  rw [ao,<- wl]
  have:=few.1
  om
 .have:=Int.mul_pos a3 S0
  om
 .have:=Int.mul_pos a3 S0
  rw [Int.toNat_of_nonneg (by om)]; qV hyS
 .have:=Int.mul_pos a3 S0
  rw [Int.toNat_of_nonneg (by om)]; qV Int.dvd_mul_right _ _
 .have:=Int.mul_pos a3 S0
  rw [Int.toNat_of_nonneg (by om)]
  unfold qL at hc
  x5⟨z,hz,rfl⟩:=List.mem_map.mp hc
  x5⟨q1,q2,q3,q4⟩:=fr z hz
  qV⟨q1.pos,Int.dvd_trans q2 (Int.dvd_mul_left _ _),q3,q4⟩
~!vR {α β:Type} : ∀ {l:List α}{P:Nat->α->β->Prop},(∀ k a,l[k]?=some a->∃ b,P k a b)->∃ m:List β,m.length=l.length/\∀ k a b,l[k]?=some a->m[k]?=some b->P k a b
 | [],_,_=>⟨[],rfl,fun k a b e=>by simp at e⟩
 | a::l,P,h=>by
  x5⟨b,hb⟩:=h 0 a rfl
  x5⟨m,lm,hm⟩:=vR (l:=l) (P:=fun k=>P (k+1)) fun k a e=>h (k+1) a e
  z5⟨b::m,congrArg (· + 1) lm,fun k a' b' e1 e2=>?_⟩
  cases k with
  | zero =>
   cases e1
   cases e2
   qV hb
  | succ k=>qV hm k a' b' e1 e2
~!uT.fcs {n:Nat}{B:Int}{ns:List Str}{H:Hp}{ds:List Addr}{gs:List Dr} (h:uT K n B ns H H ds gs) (nd:ns.Nodup) (ln:ns.length=n):∃ fcs:List ((Int×Int)×List (Nat×Int×Int)),Ve K H ns n gs fcs/\fcs.length=ds.length/\∀ (k:Nat) d fc,ds[k]?=some d->fcs[k]?=some fc->BP n H d fc/\FN B fc:=by
 x5⟨m,lm,hm⟩:=vR (l:=ds) (P:=fun k d (fc:(Int×Int)×List (Nat×Int×Int))=>∀ g,gs[k]?=some g->DrN K H ns g fc.1 fc.2/\BJ n fc.1 fc.2/\BP n H d fc/\FN B fc) fun k d e=>by
  have lk:k<gs.length:=by rw [h.len]; qV(aq.mp e).1
  x5⟨fc,p⟩:=(h.at_ k d _ e (aj lk)).fc nd ln
  qV⟨fc,fun g eg=>by rw [aj lk] at eg; cases eg; qV p⟩
 z5⟨m,⟨by rw [h.len,lm],fun k d fc e1 e2=>?_⟩,lm,fun k d fc e1 e2=>?_⟩
 .have lk:k<ds.length:=by rw [<- lm]; qV(aq.mp e2).1
  x5⟨a,b,_⟩:=hm k _ fc (aj lk) e2 d e1
  qV⟨a,b⟩
 .have lk:k<gs.length:=by rw [h.len]; qV(aq.mp e1).1
  qV(hm k d fc e1 e2 _ (aj lk)).2.2
structure acv (n:Nat) (H:Hp) (ds:List Addr) (fcs:List ((Int×Int)×List (Nat×Int×Int))):Prop where
 len:fcs.length=ds.length
 at_:∀ (j:Nat) d fc,ds[j]?=some d->fcs[j]?=some fc->BP n H d fc
structure DY (H:Hp) (r:Addr) (fcss:List (List ((Int×Int)×List (Nat×Int×Int)))):Prop where
 ex:∃ xs,H r=some (.lst xs)/\xs.length=fcss.length/\∀ (k:Nat) fcs,fcss[k]?=some fcs->∃ l ds,xs[k]?=some (.ref l)/\H l=some (.lst (ds.map V.ref))/\ds.length <= 64/\acv fcss.length H ds fcs
~!DY.same {H H':Hp}{r:Addr}{fcss:List (List ((Int×Int)×List (Nat×Int×Int)))} (S:Same H H') (h:DY H r fcss):DY H' r fcss:=by
 x5⟨xs,a,b,c⟩:=h.ex
 z5⟨xs,S _ _ a,b,fun k fcs e=>?_⟩
 x5⟨l,ds,d1,d2,d3,d4⟩:=c k fcs e
 qV⟨l,ds,d1,S _ _ d2,d3,d4.len,fun j d fc e1 e2=>(d4.at_ j d fc e1 e2).same S⟩
~!Y6 {n m:Nat}{B:Int}{H:Hp}{o p r:Addr}{x y:Int}{xs:List V}{dss:List (List Addr)}{rms:List (Str×List Dr)} (hh:kE D H o p rms) (ok:Tw rms) (hi:Yr K n B H dss rms) (hp:H p=some (.tup [.int x,.int y])) (x0:0 <= x) (xy:x<y) (y1:y <= 100) (hr:H r=some (.lst xs)) (rd:RD n B H xs dss) (ld:dss.length=n) (n12:n <= 12) (dm:∀ ds∈dss,ds.length <= m) (m3:m <= 3) :
  ∃ fcss,fcss.length=n/\Gb K D H o (x,y) fcss/\DY H r fcss/\∀ fcs∈fcss,fcs.length <= m/\∀ fc∈fcs,FN B fc:=by
 have rl:rms.length=n:=by rw [hi.len,ld]
 have b:∀ z:Int,0 <= z->z <= 100->Bn 40 z:=fun z h1 h2=>by unfold Bn; om
 have fw:∀ g∈rms,∀ d∈g.2,d.ws.length <= 100:=fun g hg d hd=>by
  x5⟨j,hj⟩:=aY hg
  have lj:j<dss.length:=by rw [<- hi.len]; qV(aq.mp hj).1
  x5⟨_,z⟩:=(hi.at_ j _ g (aj lj) hj).mem hd
  qV aN z.few.1 (by decide)
 x5⟨fcss,fl,hf⟩:=vR (l:=rms) (P:=fun k g (fcs:List ((Int×Int)×List (Nat×Int×Int)))=>Ve K H (rms.map (·.1)) n g.2 fcs/\(∃ l ds,xs[k]?=some (.ref l)/\H l=some (.lst (ds.map V.ref))/\ds.length <= 64/\acv n H ds fcs)/\fcs.length <= m/\∀ fc∈fcs,FN B fc) fun k g eg=>by
  have lk:k<n:=by rw [<- rl]; qV(aq.mp eg).1
  have ed:dss[k]?=some (dss[k]'(by om)):=aj _
  have ri:=hi.at_ k _ _ ed eg
  x5⟨l,a1,a2,_⟩:=rd.at_ k _ ed
  x5⟨fcs,d1,d2,d3⟩:=ri.fcs ok.nd (by rw [ao,rl])
  have dl:=dm _ (aC ed)
  z5⟨fcs,d1,⟨l,_,a1,a2,by om,d2,fun j d fc e1 e2=>(d3 j d fc e1 e2).1⟩,by om,fun fc hfc=>?_⟩
  x5⟨j,ej⟩:=aY hfc
  have lj:j<(dss[k]'(by om)).length:=by rw [<- d2]; qV(aq.mp ej).1
  qV(d3 j _ fc (aj lj) ej).2
 have fn:fcss.length=n:=by rw [fl,rl]
 z5⟨fcss,fn,⟨⟨p,rms,hh,⟨ok.len,ok.few,fw⟩,ok.nd,hp,by rw [fl],fun k g fcs e1 e2=>by rw [fn]; qV(hf k g fcs e1 e2).1⟩,by show 0<y; om,b _ x0 (by show x <= 100; om),b _ (by show 0 <= y; om) y1,by om⟩,⟨xs,hr,by rw [rd.len,ld,fn],fun k fcs e=>?_⟩,fun fcs hfc=>?_⟩
 .have lk:k<rms.length:=by rw [<- fl]; qV(aq.mp e).1
  rw [fn]
  qV(hf k _ fcs (aj lk) e).2.1
 .obtain ⟨k,e⟩:=aY hfc
  have lk:k<rms.length:=by rw [<- fl]; qV(aq.mp e).1
  qV(hf k _ fcs (aj lk) e).2.2
~!RG {B:Int} : ∀ (l:List ((Int×Int)×List (Nat×Int×Int))),(∀ fc∈l,FN B fc)->∃ M:Nat,0<M/\(M:Int) <= B ^ l.length/\∀ fc∈l,fc.1.2 ∣ (M:Int)/\∀ c∈fc.2,c.2.2 ∣ (M:Int)
 | [],_=>⟨1,by decide,by simp,by simp⟩
 | fc::l,h=>by
  x5⟨M,m0,m1,hm⟩:=RG l fun z hz=>h z (aJ _ hz)
  x5⟨N,n0,n1,d,c⟩:=(h fc aQ).ex
  z5⟨M * N,Nat.mul_pos m0 n0,?_,fun z hz=>?_⟩
  .rw [Int.natCast_mul,List.length_cons,Int.pow_succ]
   qV Int.mul_le_mul m1 n1 (by om) (by om)
  .rw [Int.natCast_mul]
   rcases List.mem_cons.mp hz with rfl | hz
   .exact ⟨Int.dvd_trans d (Int.dvd_mul_left _ _),fun x hx=>Int.dvd_trans (c x hx).2.1 (Int.dvd_mul_left _ _)⟩
   .exact ⟨Int.dvd_trans (hm z hz).1 (Int.dvd_mul_right _ _),fun x hx=>Int.dvd_trans ((hm z hz).2 x hx) (Int.dvd_mul_right _ _)⟩
~!Oo {α:Type}{m:Nat} : ∀ {l:List (List α)},(∀ x∈l,x.length <= m)->l.flatten.length <= m * l.length
 | [],_=>by simp
 | x::l,h=>by
  have h1:=Oo (l:=l) fun y hy=>h y (aJ _ hy)
  have h2:=h x aQ
  rw [List.flatten_cons,aB,List.length_cons,Nat.mul_add,Nat.mul_one]
  om
~!adn {n m:Nat}{sm:Bool}{x y:Int}{fcss:List (List ((Int×Int)×List (Nat×Int×Int)))} (sz:Zz n m sm) (fn:fcss.length=n) (x0:0 <= x) (xy:x<y) (y1:y <= hB sm) (h:∀ fcs∈fcss,fcs.length <= sX sm/\∀ fc∈fcs,FN (mB sm) fc):∃ L,aco (x,y) fcss L/\L ^ m <= 10 ^ 480:=by
 x5⟨M,m0,m1,hm⟩:=RG (B:=mB sm) fcss.flatten fun fc hf=>by
  x5⟨fcs,a,b⟩:=List.mem_flatten.mp hf
  qV(h fcs a).2 fc b
 obtain ⟨z,rfl⟩ : ∃ z:Nat,y=z:=⟨y.toNat,by om⟩
 z5⟨z * M,⟨x0,by show x <= (z:Int); om,by show 0<(z:Int); om,Nat.mul_pos (by om) m0,fun fcs a fc b=>?_⟩,?_⟩
 .have dm:=(h fcs a).2 fc b
  x5⟨d1,d2⟩:=hm fc (List.mem_flatten.mpr ⟨fcs,a,b⟩)
  x5⟨N,_,_,_,c⟩:=dm.ex
  z5⟨dm.f0,?_,dm.big,dm.few,fun k hk=>⟨(c k hk).1,?_,(c k hk).2.2⟩⟩
  .rw [Int.natCast_mul]; qV Int.dvd_trans d1 (Int.dvd_mul_left _ _)
  .rw [Int.natCast_mul]; qV Int.mul_dvd_mul (Int.dvd_refl _) (d2 k hk)
 .have fl:=Oo (m:=sX sm) fun fcs a=>(h fcs a).1
  rw [fn] at fl
  have lim:∀ (A b:Nat),(z:Int) <= (A:Int)->(mB sm=(b:Int))->0<b->(z * M) ^ m <= (A * b ^ (sX sm * n)) ^ m:=fun A b h1 h2 h3=>by
   z5 Nat.pow_le_pow_left (Nat.mul_le_mul (by om) ?_) _
   rw [h2,<- Int.natCast_pow] at m1
   qV aN (Int.ofNat_le.mp m1) (Nat.pow_le_pow_right h3 fl)
  have up:∀ {a b c:Nat}{X:Nat},0<a->a ^ b <= X->c <= b->a ^ c <= X:=fun h0 h1 h2=>aN (Nat.pow_le_pow_right h0 h2) h1
  have m40:=sz.m40
  rcases sz.ok with ⟨rfl,c⟩ | ⟨rfl,c⟩
  .refine aN (lim 4 12 y1 rfl (by decide)) ?_
   show (4 * 12 ^ (2 * n)) ^ m <= _
   rcases c with ⟨c1,c2⟩ | c1
   .have:4 * 12 ^ (2 * n) <= 4 * 12 ^ 4:=Nat.mul_le_mul_left _ (Nat.pow_le_pow_right (by decide) (by om))
    qV aN (Nat.pow_le_pow_left this m) (up (b:=14) (by decide) (by decide +kernel) c2)
   .have:4 * 12 ^ (2 * n) <= 4 * 12 ^ 2:=Nat.mul_le_mul_left _ (Nat.pow_le_pow_right (by decide) (by om))
    qV aN (Nat.pow_le_pow_left this m) (up (b:=40) (by decide) (by decide +kernel) m40)
  .refine aN (lim 100 4004000 y1 rfl (by decide)) ?_
   show (100 * 4004000 ^ (3 * n)) ^ m <= _
   have n12:=sz.n12
   rcases c with c1 | c1 | ⟨c1,c2⟩
   .subst c1
    qV up (b:=40) (by decide) (by decide +kernel) m40
   .have:100 * 4004000 ^ (3 * n) <= 100 * 4004000 ^ 36:=Nat.mul_le_mul_left _ (Nat.pow_le_pow_right (by decide) (by om))
    qV aN (Nat.pow_le_pow_left this m) (up (b:=2) (by decide +kernel) (by decide +kernel) c1)
   .have:100 * 4004000 ^ (3 * n) <= 100 * 4004000 ^ 12:=Nat.mul_le_mul_left _ (Nat.pow_le_pow_right (by decide) (by om))
    qV aN (Nat.pow_le_pow_left this m) (up (b:=5) (by decide +kernel) (by decide +kernel) c2)
~!V0 {K:Frag}{tl:TE}{g:TG}{tb:TS}{D:Ends}{σ:L2.St}{H:Hp} (h:tl σ H fun x H1=>∃ a xs,x=.ref a/\SqT K H1 a xs/\∃ J:Nat->L2.St->Hp->Prop,J 0 σ H1/\(∀ k σ' H',J k σ' H'->SqT K H' a xs) /\
   (∀ k x σ' H',xs[k]?=some x->J k σ' H'->g x σ' H' fun σ2 H2=>tb { D with nx:=J (k+1),ct:=J (k+1),bk:=D.nx } σ2 H2) /\
   ∀ σ' H',J xs.length σ' H'->D.nx σ' H'):MN (afl K (tM tl)) g tb D σ H:=by
 z5⟨_,h,?_⟩
 rintro x H1 ⟨a,xs,rfl,hx,J,j0,jx,step,fin⟩
 z5⟨a,rfl,⟨xs,hx⟩,fun k m σ' H'=>k <= xs.length/\m=xs.length - k/\J k σ' H',⟨_,bC _,rfl,j0⟩,?_⟩
 rintro k m σ' H' ⟨hk,rfl,j⟩
 by_cases e:k=xs.length
 .subst e
  qV .inl ⟨⟨xs,jx _ _ _ j,aG _⟩,fin σ' H' j⟩
 .have hlt:k<xs.length:=by om
  have e1:xs[k]?=some xs[k]:=aj hlt
  z5 .inr ⟨⟨xs,_,jx _ _ _ j,e1⟩,J (k+1),fun σ3 H3 z=>⟨xs.length - (k+1),by om,by om,rfl,z⟩,?_⟩
  rintro x H'' ⟨rfl,y⟩
  qV step k x σ' H'' (y xs (jx _ _ _ j)) j
noncomputable def Qy (K:Frag):Sp:=fun vs H Q _=>∃ (p:Addr) (a b:Int),vs=[.ref p]/\SqT K H p [.int a,.int b]/\0<b/\Int.gcd a b=1/\Q (.bl true) H
~!LR (F:Fun K mZ mZ tG f fd) (T:Txt K mg D) (Iz:OkF P w K mg base 1 Ba Bq DW):cD P w K mg base CX0 2 f fd lW (Qy K):=by
 z5 F.ok zO ?_ ?_
 .rintro _ _ _ _ ⟨p,a,b,rfl,_⟩; rfl
 .rintro cdv A outer s H _ Q E hr ⟨p,a,b,rfl,hp,b0,g1,q⟩
  z5⟨_,(bN (cY (PW.pt (pw_or (eF (dw (cB (jh.or pX) (by rfl) T.d7 boot_isinstance (bG (pv 0) (bG (lU (v:=.ty "tuple") (by rfl) T.Te boot_tuple rfl) bI))) (fun _=>rfl))) (pw_or1 (cL Br (cB Ip (by rfl) T.lF PySem.boot_len (bG (pv 0) bI)) bH (cM _)))))
    (bQ (cu gB))
    cC)
   (bN (iD PassesOwn.never rfl (acG ((pv 0)).mono) (cG (i:=1) zO.nd rfl (Or.inl rfl))
    (bQ (cY (PW.pt (pw_or (eF (dw (cB (jh.or pX) (by rfl) T.d7 boot_isinstance (bG (pv 1) (bG (lU (v:=.ty "int") (by rfl) T.Dk boot_int rfl) bI))) (fun _=>rfl))) (pw_or1 (dw (cB (jh.or pX) (by rfl) T.d7 boot_isinstance (bG (pv 1) (bG (lU (v:=.ty "bool") (by rfl) T.LK boot_bool rfl) bI))) (fun _=>rfl)))))
     (bQ (cu gB))
     cC)))
   (bQ (cu (K6 (lQ Ir (bZ cX (pv 0) bH (fun _ _=>rfl)) bH (cM _)) (Kr (lQ n8 (bU Iz hr.md (by rfl) (bG (bZ cX (pv 0) bH (fun _ _=>rfl)) (bG (bZ cX (pv 0) bH (fun _ _=>rfl)) bI))) bH (cM _)))))))),?_⟩
  z5 cg fun R1 hR1=>?_
  z5 dI ⟨_,rfl,.inr ⟨p,_,_,rfl,by simp,hp,true,rfl,_,rfl,p,_,rfl,hp,rfl,false,rfl,?_⟩⟩
  show R1 _ _ _
  subst hR1
  z5 dI (V0 ⟨_,rfl,p,_,rfl,hp,fun _ σ H'=>(∃ u,σ=[some (.ref p),u])/\H'=H,⟨⟨none,rfl⟩,rfl⟩,(fun k σ' H' hP=>by x5⟨_,e⟩:=hP; qV e ▸ hp),?_,?_⟩)
  .rintro k x σ' H' hk ⟨⟨u,rfl⟩,rfl⟩
   obtain ⟨i,rfl⟩ : ∃ i,x=.int i:=by
    match k with
    | 0=>cases hk; qV⟨_,rfl⟩
    | 1=>cases hk; qV⟨_,rfl⟩
    | k+2=>simp at hk
   qV⟨_,rfl,.inl ⟨_,_,_,rfl,by simp,rfl,true,rfl,_,rfl,.inl ⟨_,_,_,rfl,by simp,rfl,false,rfl,⟨_,rfl⟩,rfl⟩⟩⟩
  .rintro σ' H' ⟨⟨u,rfl⟩,rfl⟩
   dsimp only
   z5 fY ⟨_,rfl,p,_,1,_,rfl,rfl,hp,dD,b,0,rfl,rfl,true,congrArg V.bl (decide_eq_true b0),?_⟩
   rw [if_pos rfl]
   z5⟨_,rfl,p,_,0,_,rfl,rfl,hp,d8,_,rfl,p,_,1,_,rfl,rfl,hp,dD,a,b,rfl,rfl,?_⟩
   rw [g1]
   qV q
noncomputable def Ru (K:Frag):Sp:=fun vs H Q _=>∃ (l:Addr) (zs:List V) (fs:List (Int×Int)) (n:Nat),vs=[.ref l,.int n]/\H l=some (.lst zs)/\FLK K H zs fs/\fs.length=n/\n <= 100/\(∀ f∈fs,0<f.2/\Int.gcd f.1 f.2=1)/\∀ H',Same H H'->Q (.bl true) H'
~!Hz (F:Fun K j6 j6 o8 f fd) (T:Txt K mg D) (vC:OkF P w K mg base 2 mZ lW (Qy K)):cD P w K mg base CX0 3 f fd j8 (Ru K):=by
 z5 F.ok G7 ?_ ?_
 .rintro _ _ _ _ ⟨l,zs,fs,n,rfl,_⟩; rfl
 .rintro cdv A outer s H _ Q E hr ⟨l,zs,fs,n,rfl,hl,fl,fn,n100,al,q⟩
  have z9:100<sizeLine:=by decide
  have zl:zs.length=n:=by rw [fl.length,fn]
  z5⟨_,(bN (cY (PW.pt (pw_or (eF (dw (cB jh (by rfl) T.d7 boot_isinstance (bG (pv 0) (bG (lU (v:=.ty "list") (by rfl) T.Fp boot_list rfl) bI))) (fun _=>rfl))) (pw_or1 (cL Br (cB eN (by rfl) T.lF PySem.boot_len (bG (pv 0) bI)) (pv 1) (cM _)))))
    (bQ (cu gB))
    cC)
   (bQ (cu (cB (Bg rfl) (by rfl) T.Yv boot_all (bG (jy (bO o8) rD rD ["_law_one"] (cV ((pv 0)).mono) (eV (i:=0)) c7 (bU vC hr.md (by rfl) (bG (pv 0) bI))) bI))))),?_⟩
  z5 cg fun R1 hR1=>?_
  z5 dI ⟨_,rfl,_,_,_,rfl,by simp,Ui hl,true,rfl,_,rfl,l,_,rfl,hl,_,rfl,rfl,false,congrArg (fun b=>V.bl (!b)) (decide_eq_true (by rw [zl])),?_⟩
  show R1 _ _ _
  subst hR1
  z5 fY (Q_ (qP (List.replicate n (.bl true)) rfl hl (by rw [aP,zl]) (by rw [aP]; om) ?_ fun l2 H2 S2 f2 h2=>?_))
  .intro k x y Hc R hk hy Sc r
   x5⟨t,f,rfl,ef,ht⟩:=fl.get hk
   x5⟨b0,g1⟩:=al f (aC ef)
   rw [List.getElem?_replicate] at hy
   have ey:y=.bl true:=by
    split at hy
    .exact (Option.some.inj hy).symm
    .cases hy
   subst ey
   qV⟨_,rfl,t,_,_,rfl,Sc.tup ht,b0,g1,r Hc fun _ _ z=>z⟩
  .refine ⟨l2,List.replicate n true,rfl,by rw [h2,List.map_replicate],?_⟩
   have e:(List.replicate n true).all id=true:=List.all_eq_true.mpr fun x hx=>(List.mem_replicate.mp hx).2
   rw [e]
   qV q H2 S2
noncomputable def Jg (K:Frag):Sp:=fun vs H Q _=>∃ (p q:Addr) (f g:Int×Int),vs=[.ref p,.ref q]/\SqT K H p [.int f.1,.int f.2]/\SqT K H q [.int g.1,.int g.2]/\Fb f/\Fb g/\∀ b:Bool,(b=true ↔ vl f=vl g)->Q (.bl b) H
~!aaJ (F:Fun K yc yc s_same f fd) (T:Txt K mg D):cD P w K mg base CX0 1 f fd yN (Jg K):=by
 z5 F.ok abx ?_ ?_
 .rintro _ _ _ _ ⟨p,q,f,g,rfl,_⟩; rfl
 .rintro cdv A outer s H _ Q E hr ⟨p,q,f,g,rfl,hp,hq,bf,bg,k⟩
  z5⟨_,(bQ (cu (lQ n8 (bV cZ (bZ cX (pv 0) bH (fun _ _=>rfl)) (bZ cX (pv 1) bH (fun _ _=>rfl))) (bV cZ (bZ cX (pv 1) bH (fun _ _=>rfl)) (bZ cX (pv 0) bH (fun _ _=>rfl))) (cM _)))),?_⟩
  z5 fY ⟨_,rfl,p,_,0,_,rfl,rfl,hp,d8,_,rfl,q,_,1,_,rfl,rfl,hq,dD,_,_,rfl,rfl,⟨bf.bx,bg.b_y⟩,_,rfl,q,_,0,_,rfl,rfl,hq,d8,_,rfl,p,_,1,_,rfl,rfl,hp,dD,_,_,rfl,rfl,⟨bg.bx,bf.b_y⟩,rfl,k _ ?_⟩
  rw [decide_eq_true_iff]
  qV⟨fun z=>XQ bf.pos bg.pos (by injection z),fun z=>congrArg V.int (Za bf.pos bg.pos z)⟩
noncomputable def Gn (K:Frag):Sp:=fun vs H Q _=>∃ (p q:Addr) (f g:Int×Int),vs=[.ref p,.ref q]/\SqT K H p [.int f.1,.int f.2]/\SqT K H q [.int g.1,.int g.2]/\Fb f/\Fb g/\∀ b:Bool,(b=true ↔ vl f<vl g)->Q (.bl b) H
~!Wc (F:Fun K vo vo Kd f fd) (T:Txt K mg D):cD P w K mg base CX0 1 f fd uU (Gn K):=by
 z5 F.ok Xu ?_ ?_
 .rintro _ _ _ _ ⟨p,q,f,g,rfl,_⟩; rfl
 .rintro cdv A outer s H _ Q E hr ⟨p,q,f,g,rfl,hp,hq,bf,bg,k⟩
  z5⟨_,(bQ (cu (lQ yE (bV cZ (bZ cX (pv 0) bH (fun _ _=>rfl)) (bZ cX (pv 1) bH (fun _ _=>rfl))) (bV cZ (bZ cX (pv 1) bH (fun _ _=>rfl)) (bZ cX (pv 0) bH (fun _ _=>rfl))) (cM _)))),?_⟩
  qV fY ⟨_,rfl,p,_,0,_,rfl,rfl,hp,d8,_,rfl,q,_,1,_,rfl,rfl,hq,dD,_,_,rfl,rfl,⟨bf.bx,bg.b_y⟩,_,rfl,q,_,0,_,rfl,rfl,hq,d8,_,rfl,p,_,1,_,rfl,rfl,hp,dD,_,_,rfl,rfl,⟨bg.bx,bf.b_y⟩,_,_,rfl,rfl,k _ ((decide_eq_true_iff (p:=f.1 * g.2<g.1 * f.2)).trans (acd bf.pos bg.pos).symm)⟩
~!Xr {cs:List (Nat×Int×Int)}{c:Nat×Int×Int}{G:Nat->Rat} : iG (cs++[c]) G=iG cs G+vl c.2 * G c.1:=by
 induction cs with
 | nil =>
  show vl c.2 * G c.1+0=0+vl c.2 * G c.1
  rw [Rat.add_zero,Rat.zero_add]
 | cons a cs ih =>
  show vl a.2 * G a.1+iG (cs++[c]) G=vl a.2 * G a.1+iG cs G+vl c.2 * G c.1
  rw [ih,Rat.add_assoc]
~!Tg:∀ {l:List Int},(∀ x∈l,0 <= x)->0 <= l.sum/\∀ x∈l,x <= l.sum
 | [],_=>⟨Int.le_refl _,by simp⟩
 | a::l,h=>by
  x5⟨h1,h2⟩:=Tg (l:=l) fun x hx=>h x (aJ _ hx)
  have h0:=h a aQ
  rw [List.sum_cons]
  z5⟨by om,fun x hx=>?_⟩
  rcases List.mem_cons.mp hx with rfl | hx
  .om
  .have:=h2 x hx
   om
~!afC {n:Nat}{so:Int}{rs:List Nat}{ws:List Int}{S x:Int} (h:sJ n so rs ws S) (hx:x∈ws):Bn 20 (Ac.lw x S).1/\Bn 20 (Ac.lw x S).2:=by
 have h1:=(Tg h.lo).2 x hx
 rw [h.sum] at h1
 have h2:=h.lo x hx
 have h3:=h.le
 have h4:=h.pos
 have b1:=Ac.D_ x S
 have b2:=Ac.BK x S
 constructor <;> unfold Bn <;> om
noncomputable def Wb (fs:List (Int×Int)):Prop:=∀ f∈fs,0<f.2/\Bn 576 f.1/\Bn 480 f.2
~!Xv {sp:Sp}{te:TE}{t:TA}{σ:L2.St}{H:Hp}{Q:Bool->Hp->Prop} (h:te σ H fun x H1=>t σ H1 fun xs H2=>sp (x::xs) H2 (fun y H3=>∃ k,MJ y=some k/\Q (!k) H3) E0):Vu (QT (Ar sp (sV te t))) σ H Q:=h
~!abn {r:List V->Hp->VK->Prop}{te:TE}{σ:L2.St}{H:Hp}{Q:Bool->Hp->Prop} (h:te σ H fun x H1=>r [x] H1 fun y H2=>∃ k,MJ y=some k/\Q (!k) H2):Vu (QT (tCB r (sV te Cu))) σ H Q:=h
noncomputable def Qj (D:Adr):Sp:=fun vs H Q _=>∃ (o l p:Addr) (v:V) (rms:List (Str×List Dr)),vs=[.ref o,.ref l,v]/\Odd H v/\kE D H o p rms/\rms.length <= 20 /\
 ((∃ (gs:List Nat) (x:V) (more:List V),H l=some (.lst (gs.map nV++x::more))/\gs.length+more.length <= 100/\(∀ g∈gs,g<rms.length)/\Odd H x/\¬ tY rms.length x/\∀ r H',Same H H'->H' r=some (.tup [.str "room",x])->Q (.ref r) H') \/
 ∃ (gl:List Nat),H l=some (.lst (gl.map nV))/\gl.length <= 100/\(∀ g∈gl,g<rms.length)/\¬ uM v/\∀ r H',Same H H'->H' r=some (.tup [.str "number",.non])->Q (.ref r) H')
~!Qq (F:Fun K pQ pQ Ax f fd) (T:Txt K mg D) (mq:OkX P w K mg base 8 fV iu (sH K D)):cD P w K mg base CX0 9 f fd pI (Qj D):=by
 z5 F.ok DX ?_ ?_
 .rintro _ _ _ _ ⟨o,l,p,v,rms,rfl,_⟩; rfl
 .rintro cdv A outer s H _ Q E hr ⟨o,l,p,v,rms,rfl,ov,hh,r20,cs⟩
  z5⟨_,(bN (Vz (i:=3) DX.nd rfl rfl (by rfl) T.Mt T.Zu T.Yg (by rfl) T.xU T.Q8 T.QH rfl rfl rfl (fun _ _ _ HF=>(bQ (dh (gF mq hr.md (by rfl) HF (bG (pv 0) (bG (pv 1) (bG (pv 2) bI)))))))
    (fun _ _=>(bQ (cu (dB (bG iZ (bG (Yt (K':=K) rfl (pv 3) rfl) bI)))))) (fun _ _=>(bQ (cu (dB (bG iZ (bG vI bI)))))))
   (bQ (cu (dB (bG iZ (bG vI bI)))))),?_⟩
  z5 cg fun R1 hR1=>?_
  rcases cs with ⟨gs,x,more,hl,g100,hg,ox,nx,q⟩ | ⟨gl,hl,g100,hg,nm,q⟩
  .refine dI ⟨fun C d σ H'=>C=.ref D.NoRoom/\σ=[some (.ref o),some (.ref l),some v,none]/\∃ d',d=some d'/\Same H H'/\H' d'=some (.xd [("room",x)]),?_,?_⟩
   .exact ⟨_,rfl,_,rfl,_,rfl,o,l,p,v,rms,rfl,ov,hh,r20,.inl ⟨gs,x,more,hl,g100,hg,ox,nx,fun d H' S hd hx=>⟨rfl,rfl,d,rfl,S,hx⟩⟩⟩
   .rintro _ _ σ' H' ⟨rfl,rfl,d,rfl,S,hx⟩
    z5⟨D.NoRoom,rfl,.inl ⟨T.sm_NoRoom,fun a ha=>?_⟩⟩
    have S2:Same H' (upd H' a (XO a D.NoRoom (some d))):=Same.upd ha
    z5 fY ⟨_,rfl,a,D.NoRoom,d,_,x,rfl,bK,S2 _ _ hx,T.xk_NoRoom,T.hd_NoRoom,T.uJ,rfl,dW,fun r Hn Sn fn hn=>q r Hn (S.trans (S2.trans Sn)) hn⟩
  .refine dI ⟨fun C d σ H'=>C=.ref D.NoNumber/\σ=[some (.ref o),some (.ref l),some v,none]/\Same H H',?_,?_⟩
   .exact ⟨_,rfl,_,rfl,_,rfl,o,l,p,v,rms,rfl,ov,hh,r20,.inr ⟨gl,hl,g100,hg,fun _ H' S=>⟨rfl,rfl,S⟩,fun z=>absurd z nm⟩⟩
   .rintro _ d σ' H' ⟨rfl,rfl,S⟩
    qV⟨D.NoNumber,rfl,.inr ⟨T.o_NoRoom,T.o_NoNumber,fY ⟨dW,fun r Hn Sn fn hn=>q r Hn (S.trans Sn) hn⟩⟩⟩
noncomputable def Jx (K:Frag):Sp:=fun vs H Q _=>∃ (d l:Addr) (n:Nat) (fc:(Int×Int)×List (Nat×Int×Int)) (xs:List V) (fs:List (Int×Int)),vs=[.ref d,.ref l]/\BP n H d fc/\H l=some (.lst xs)/\FLK K H xs fs/\Wb fs/\fs.length=n /\
 ∀ r z y H',Same H H'->H' r=some (.tup [.int z,.int y])->0<y->Bd z->Bd y->vl (z,y)=iG fc.2 (wq fs)->Q (.ref r) H'
~!aak (F:Fun K zX zX Qg f fd) (T:Txt K mg D):cD P w K mg base CX0 1 f fd zj (Jx K):=by
 z5 F.ok qj ?_ ?_
 .rintro _ _ _ _ ⟨d,l,n,fc,xs,fs,rfl,_⟩; rfl
 .rintro cdv A outer s H _ Q E hr ⟨d,l,n,fc,xs,fs,rfl,ld,hl,fl,fq,fn,q⟩
  x5⟨pp,lp,so,S,rs,ws,ps,hd,hpp,hlp,pi,dr,be⟩:=ld.ex
  z5⟨_,(bN (cA (i:=2) qj.nd rfl (Or.inl rfl) bH)
   (bN (cA (i:=3) qj.nd rfl (Or.inl rfl) bH)
   (bN (iD PassesOwn.never rfl (cV ((bZ cX (pv 0) bH (fun _ _=>rfl))).mono) (gR (n:=2) rfl (cF (cG (i:=4) qj.nd rfl (Or.inl rfl)) (cF (cG (i:=5) qj.nd rfl (Or.inl rfl)) gC)))
    (bN (cA (i:=6) qj.nd rfl (Or.inl rfl) (bV cZ (bZ cX (pv 5) bH (fun _ _=>rfl)) (bZ cX (bZ bY (pv 1) (pv 4) (fun _ _=>rfl)) bH (fun _ _=>rfl))))
    (bN (cA (i:=2) qj.nd rfl (Or.inl rfl) (bV dj (bV cZ (pv 2) (pv 6)) (bV cZ (bV cZ (bZ cX (pv 5) bH (fun _ _=>rfl)) (bZ cX (bZ bY (pv 1) (pv 4) (fun _ _=>rfl)) bH (fun _ _=>rfl))) (pv 3))))
    (bQ (cA (i:=3) qj.nd rfl (Or.inl rfl) (bV cZ (pv 3) (pv 6)))))))
   (bQ (cu (dB (bG (pv 2) (bG (pv 3) bI)))))))),?_⟩
  z5 cN ?_
  z5 cN ?_
  have pl:(Bs rs ws S).length=rs.length:=by unfold Bs; rw [List.length_zipWith,dr.len,Nat.min_self]
  z5 cg fun R1 hR1=>?_
  z5 dI (fj ⟨_,rfl,d,_,2,_,rfl,rfl,.of hd,b_ (j:=2) rfl,lp,ps,rfl,hlp,fun k σ H'=>∃ (t b:Int) (u5 u6 u7:Option V),σ=[some (.ref d),some (.ref l),some (.int t),some (.int b),u5,u6,u7]/\H'=H/\0<b/\Bn (501 * k+96) t/\Bn (500 * k) b/\vl (t,b)=iG ((Bs rs ws S).take k) (wq fs),⟨0,1,none,none,none,rfl,rfl,by decide,bC _,aG _,?_⟩,?_,?_⟩)
  .show ((0:Int):Rat) / ((1:Int):Rat)=0
   rw [Rat.intCast_zero]
   grind
  .rintro k x σ' H' hk ⟨t,b,u5,u6,u7,rfl,rfl,b0,bt,bb,v⟩ hx
   have lk:k<rs.length:=by rw [<- pi.len]; qV(aq.mp hk).1
   have k8:=dr.l8
   have er:rs[k]?=some rs[k]:=aj lk
   have ew:ws[k]?=some (ws[k]'(by rw [<- dr.len]; qV lk)):=aj _
   x5⟨tt,c,e1,e2,e3⟩:=pi.at_ k _ _ er ew
   rw [hk] at e1
   cases e1
   have lr:=dr.lt _ (aX lk)
   x5⟨c1,c2⟩:=afC dr (aC ew)
   have c0:=Ac.jT (t:=ws[k]'(by rw [<- dr.len]; qV lk)) dr.pos
   have ep:(Bs rs ws S)[k]?=some (rs[k],Ac.lw (ws[k]'(by rw [<- dr.len]; qV lk)) S):=by unfold Bs; rw [List.getElem?_zipWith,er,ew]
   generalize ws[k]'(by rw [<- dr.len]; qV lk)=wk at *
   generalize rs[k]=r at *
   have xl:r<xs.length:=by rw [fl.length,fn]; qV lr
   have ex:xs[r]?=some xs[r]:=aj xl
   x5⟨wp,g,eg,ef,hw⟩:=fl.get ex
   rw [eg] at ex
   x5⟨g0,g1,g2⟩:=fq g (aC ef)
   have eq:wq fs r=vl g:=by unfold wq; rw [aA,ef]; rfl
   generalize Ac.lw wk S=C at *
   have bp:Bn 500 (C.2 * g.2):=Bn.mul c2 g2
   have bd:∀ {a:Nat}{z:Int},Bn a z->a <= 2400->Bd z:=fun h l=>h.bd l
   z5⟨tt,_,rfl,e2,rfl,_,_,rfl,_,_,rfl,rfl,?_⟩
   dsimp only [cU,List.set_cons_succ,List.set_cons_zero]
   z5 cN ⟨_,rfl,c,_,1,_,rfl,rfl,.of e3,dD,_,rfl,_,rfl,l,xs,_,_,rfl,rfl,hl,b_ ex,wp,_,1,_,rfl,rfl,hw,dD,_,_,rfl,rfl,⟨bd c2 (by decide),bd g2 (by decide)⟩,?_⟩
   dsimp only [cU,List.set_cons_succ,List.set_cons_zero]
   z5 cN ⟨_,rfl,_,rfl,_,_,rfl,rfl,⟨bd bt (by om),bd bp (by decide)⟩,_,rfl,c,_,0,_,rfl,rfl,.of e3,d8,_,rfl,_,rfl,l,xs,_,_,rfl,rfl,hl,b_ ex,wp,_,0,_,rfl,rfl,hw,d8,_,_,rfl,rfl,⟨bd c1 (by decide),bd g1 (by decide)⟩,_,rfl,_,_,rfl,rfl,⟨bd (Bn.mul c1 g1) (by decide),bd bb (by om)⟩,_,_,rfl,rfl,?_⟩
   dsimp only [cU,List.set_cons_succ,List.set_cons_zero]
   z5⟨_,rfl,_,rfl,_,_,rfl,rfl,⟨bd bb (by om),bd bp (by decide)⟩,hlp,_,_,_,_,_,rfl,rfl,Int.mul_pos b0 (Int.mul_pos c0 g0),?_,?_,?_⟩
   .have:=Bn.add (a:=501 * k+596) ((Bn.mul bt bp).up (by om)) ((Bn.mul (Bn.mul c1 g1) bb).up (by om))
    qV this.up (by om)
   .exact (Bn.mul bb bp).up (by om)
   .rw [cH ep,Xr,<- v]
    have e1:=adh (x:=t) (y:=b) (u:=C.1 * g.1) (v:=C.2 * g.2) b0 (Int.mul_pos c0 g0)
    have e2:=Wf (x:=C.1) (y:=C.2) (u:=g.1) (v:=g.2) c0 g0
    rw [e2] at e1
    show vl (t * (C.2 * g.2)+C.1 * g.1 * b,b * (C.2 * g.2))=vl (t,b)+vl C * wq fs r
    rw [eq]
    qV e1
  .rintro σ' H' ⟨t,b,u5,u6,u7,rfl,rfl,b0,bt,bb,v⟩ hx
   rw [pi.len,<- pl,aR,<- be] at v
   have k8:=dr.l8
   rw [pi.len] at bt bb
   have bt:Bn 2100 t:=bt.up (by om)
   have bb:Bn 2000 b:=bb.up (by om)
   subst hR1
   dsimp only
   qV fY ⟨_,rfl,_,rfl,dW,fun r H2 S2 _ h2=>q r _ _ H2 S2 h2 b0 (bt.bd (by decide)) (bb.bd (by decide)) v⟩
noncomputable def Fx:Sp:=fun vs H Q _=>∃ (c:Int) (n:Nat),vs=[.int c,.int n]/\n <= 12/\∀ l (gs:List Nat) H',Same H H'->H l=none->H' l=some (.lst (gs.map nV))->(∀ g∈gs,g<n)->gs.length <= 4->Q (.ref l) H'
~!Zc (F:Fun K uG uG Cy f fd) (T:Txt K mg D) (dH:OkF P w K mg base 1 iy g_ gj):cD P w K mg base CX0 2 f fd tZ Fx:=by
 z5 F.ok N_ ?_ ?_
 .rintro _ _ _ _ ⟨c,n,rfl,_⟩; rfl
 .rintro cdv A outer s H _ Q E hr ⟨c,n,rfl,n12,q⟩
  z5⟨_,(bN (cA (i:=2) N_.nd rfl (Or.inl rfl) (bU dH hr.md (by rfl) (bG (pv 0) (bG bH bI))))
   (bN (cY (cL n8 (pv 1) bH (cM _))
    (bQ (cu (eY bI)))
    cC)
   (bQ (cu (jy (bO Cy) J_ J_ ["_law_x"] (cV ((jz qU (pv 2) wu (gU (bV cR (bZ bY (pv 2) bH (fun _ _=>rfl)) bH)))).mono) (eV (i:=0)) c7 (bV mL (pv 0) (pv 2))))))),?_⟩
  unfold gj
  walk_at "rd"
  z5⟨5,rfl,by decide,fun l xs H1 S1 fl hl ln hx=>?_⟩
  z5 Yb (fun h=>⟨bC _,fun p H2 S2 f2 h2=>q p [] H2 (S1.trans S2) (Same.free S1 f2) h2 (by simp) (by simp)⟩) fun h=>?_
  have hn:0<(n:Int):=by simp at h; om
  obtain ⟨x4,a4,p4⟩ : ∃ y,atI (xs.map V.int) (4:Nat)=some (.int y)/\0 <= y/\y<2000000000:=by
   have:4<xs.length:=by om
   qV⟨xs[4],b_ (j:=4) (by rw [au,aj this]; rfl),hx _ (aX this)⟩
  have z9:100<sizeLine:=by decide
  z5 dR ?_
  walk_at "rd"
  obtain ⟨m,em,m4⟩ : ∃ m:Nat,x4 % 5=(m:Int)/\m <= 4:=⟨(x4 % 5).toNat,by om,by om⟩
  z5⟨_,hl,_,a4,x4,rfl,?_⟩
  rw [em]
  have ec:m_ (xs.map V.int) none (some (m:Int))=(xs.take m).map V.int:=by
   rw [List.map_take]
   qV xu (by rw [ao]; om)
  z5⟨l,_,rfl,hl,fun p2 H3 S3 f2 h3=>?_⟩
  rw [ec] at h3
  have l5:(xs.take m).length=m:=by rw [bA]; om
  generalize xs.take m=us at l5 h3
  have SH:=S1.trans S3
  have lt:∀ i:Int,(i % (n:Int)).toNat<n:=fun i=>by
   have m0:0 <= i % (n:Int):=Int.emod_nonneg _ (by om)
   have m1:i % (n:Int)<n:=Int.emod_lt_of_pos _ (by om)
   om
  z5⟨p2,rfl,_,h3,by rw [ao]; om,fun D1 gD=>⟨vJ D1 H3 ((us.map fun i=>(i % (n:Int)).toNat).map nV),⟨Same.upd gD,bK,rfl⟩,?_,?_⟩⟩
  .rintro k v ys Hc hk j hy hpc
   rw [au] at hk
   cases er:us[k]? with
   | none=>rw [er] at hk; cases hk
   | some i =>
    rw [er] at hk
    cases hk
    have m0:0 <= i % (n:Int):=Int.emod_nonneg _ (by om)
    have ef:i.fmod (n:Int)=(((i % (n:Int)).toNat:Nat):Int):=by rw [aZ _ (by om)]; om
    z5⟨i,rfl,by om,?_⟩
    rw [ef]
    qV⟨j.2.1,hpc,j.next gD (fun _ _ z=>z) (by rw [List.map_map,au,er]; rfl)⟩
  .rintro ys Hc ⟨S4,h4,ey⟩ hy
   rw [ao,aM (by rw [ao,ao]; qV aG _)] at ey
   subst ey
   z5 q D1 _ Hc (SH.trans S4) (Same.free SH gD) h4 (fun g hg=>?_) (by rw [ao]; om)
   x5⟨i,_,rfl⟩:=List.mem_map.mp hg
   qV lt i
noncomputable def Qh (K:Frag):Sp:=fun vs H Q _=>∃ (t:Addr) (ls:List Addr) (fss:List (List (Int×Int))) (many n:Nat),vs=[.ref t,.int many,.int n]/\H t=some (.lst (ls.map V.ref))/\Rds K H ls fss/\fss.length=many+1/\many <= 40/\n <= 100/\(∀ fs∈fss,fs.length=n/\∀ f∈fs,0<f.2/\Int.gcd f.1 f.2=1)/\∀ H',Same H H'->Q (.bl true) H'
~!Hj (F:Fun K jV jV oX f fd) (T:Txt K mg D) (rM:OkF P w K mg base 3 j6 j8 (Ru K)):cD P w K mg base CX0 4 f fd jX (Qh K):=by
 z5 F.ok GK ?_ ?_
 .rintro _ _ _ _ ⟨t,ls,fss,many,n,rfl,_⟩; rfl
 .rintro cdv A outer s H _ Q E hr ⟨t,ls,fss,many,n,rfl,ht,rd,fl,m40,n100,al,q⟩
  have z9:100<sizeLine:=by decide
  have ll:=rd.len
  have zl:(ls.map V.ref).length=many+1:=by rw [ao,ll,fl]
  z5⟨_,(bN (cY (PW.pt (pw_or (eF (dw (cB jh (by rfl) T.d7 boot_isinstance (bG (pv 0) (bG (lU (v:=.ty "list") (by rfl) T.Fp boot_list rfl) bI))) (fun _=>rfl))) (pw_or1 (cL Br (cB eN (by rfl) T.lF PySem.boot_len (bG (pv 0) bI)) (bV dj (pv 1) bH) (cM _)))))
    (bQ (cu gB))
    cC)
   (bQ (cu (cB (Bg rfl) (by rfl) T.Yv boot_all (bG (jy (bO oX) rH rH ["_law_one"] (cV ((pv 0)).mono) (eV (i:=0)) c7 (bU rM hr.md (by rfl) (bG (pv 0) (bG (pv 3) bI)))) bI))))),?_⟩
  z5 cg fun R1 hR1=>?_
  z5 dI ⟨_,rfl,_,_,_,rfl,by simp,Ui ht,true,rfl,_,rfl,t,_,rfl,ht,_,rfl,_,_,rfl,rfl,rfl,false,congrArg (fun b=>V.bl (!b)) (decide_eq_true (by rw [zl]; rfl)),?_⟩
  show R1 _ _ _
  subst hR1
  z5 fY (Q_ (qP (List.replicate (many+1) (.bl true)) rfl ht (by rw [aP,zl]) (by rw [aP]; om) ?_ fun l2 H2 S2 f2 h2=>?_))
  .intro k x y Hc R hk hy Sc r
   rw [au] at hk
   cases el:ls[k]? with
   | none=>rw [el] at hk; cases hk
   | some l =>
    rw [el] at hk
    cases hk
    have lk:k<fss.length:=by rw [<- ll]; qV(aq.mp el).1
    have ef:=aj lk
    x5⟨zs,a,b⟩:=rd.at_ k l _ el ef
    x5⟨c,d⟩:=al _ (aX lk)
    rw [List.getElem?_replicate,if_pos (by om)] at hy
    cases hy
    qV⟨_,rfl,_,rfl,l,zs,_,n,rfl,Sc _ _ a,b.same Sc,c,n100,d,fun H' S'=>r H' S'⟩
  .refine ⟨l2,List.replicate (many+1) true,rfl,by rw [h2,List.map_replicate],?_⟩
   have e:(List.replicate (many+1) true).all id=true:=List.all_eq_true.mpr fun x hx=>(List.mem_replicate.mp hx).2
   rw [e]
   qV q H2 S2
~!zu.wb {L k m:Nat}{fs:List (Int×Int)} (h:zu L k fs) (L0:0<L) (hk:k <= m) (m40:m <= 40) (hm:L ^ m <= 10 ^ 480):Wb fs:=fun f hf=>by
 x5⟨a,b,c,d⟩:=h f hf
 have le:L ^ k <= 10 ^ 480:=aN (Nat.pow_le_pow_right L0 hk) hm
 have c':f.2.natAbs ∣ L ^ k:=by
  have:=Int.natAbs_dvd_natAbs.mpr c
  rwa [Int.natAbs_natCast] at this
 have e:f.2.natAbs <= 10 ^ 480:=aN (Nat.le_of_dvd (Nat.pow_pos L0) c') le
 have f42:42 ^ k <= 10 ^ 66:=aN (Nat.pow_le_pow_right (by decide) (aN hk m40)) (by decide +kernel)
 z5⟨a,aN d ?_,e⟩
 have h1:(10:Nat) ^ 30 * 42 ^ k <= 10 ^ 30 * 10 ^ 66:=Nat.mul_le_mul_left _ f42
 rw [<- Nat.pow_add] at h1
 have h2:=Nat.mul_le_mul h1 e
 rw [<- Nat.pow_add] at h2
 qV h2
~!Wb.fb {fs:List (Int×Int)} (h:Wb fs) {f:Int×Int} (hf:f∈fs):Fb f:=⟨(h f hf).1,(h f hf).2.1.bd (by decide),(h f hf).2.2.bd (by decide)⟩
~!TF {j:Nat}{gl:List Nat} : inV (.int (j:Nat)) (gl.map nV)=decide (j∈gl):=by
 unfold inV
 rw [Bool.eq_iff_iff,decide_eq_true_iff,List.any_eq_true]
 constructor
 .rintro ⟨x,hx,e⟩
  x5⟨g,hg,rfl⟩:=List.mem_map.mp hx
  have:(g:Int)=j:=by simpa [eqV,nV] using e
  have:g=j:=by om
  qV this ▸ hg
 .intro h
  qV⟨nV j,List.mem_map.mpr ⟨j,h,rfl⟩,by simp [eqV,nV]⟩
~!Ob {gl:List Nat} : (gl.map nV).all pO=true:=by
 rw [List.all_eq_true]
 intro x hx
 x5⟨g,hg,rfl⟩:=List.mem_map.mp hx
 rfl
structure agT (K:Frag) (D:Adr) (H:Hp) (r:Addr) (many:Nat) (ls:List Addr) (gl:List Nat) (fcss:List (List ((Int×Int)×List (Nat×Int×Int)))) (L:Nat) (fss:List (List (Int×Int))):Prop where
 rd:Rds K H ls fss
 len:fss.length=many+1
 m40:many <= 40
 ro:rQ (tu gl fcss) (rG fcss.length gl) L fss
 L0:0<L
 hm:L ^ many <= 10 ^ 480
 n12:fcss.length <= 12
 rooms:DY H r fcss
noncomputable def Ep (K:Frag) (D:Adr):Sp:=fun vs H Q _=>∃ (t r g:Addr) (many L:Nat) (ls:List Addr) (gl:List Nat) (fcss:List (List ((Int×Int)×List (Nat×Int×Int)))) (fss:List (List (Int×Int))),vs=[.ref t,.int many,.ref r,.ref g]/\H t=some (.lst (ls.map V.ref))/\H g=some (.lst (gl.map nV))/\agT K D H r many ls gl fcss L fss/\∀ H',Same H H'->Q (.bl true) H'
~!Yi (F:Fun K uE uE vZ f fd) (T:Txt K mg D) (sI:OkF P w K mg base 4 jV jX (Qh K)) (Qk:OkF P w K mg base 1 zX zj (Jx K)) (Ly:OkF P w K mg base 1 vo uU (Gn K)) (QL:OkF P w K mg base 1 yc yN (Jg K)):cD P w K mg base CX0 5 f fd uQ (Ep K D):=by
 z5 F.ok uw ?_ ?_
 .rintro _ _ _ _ ⟨t,r,g,many,L,ls,gl,fcss,fss,rfl,_⟩; rfl
 .rintro cdv A outer s H _ Q E hr ⟨t,r,gA,many,L,ls,gl,fcss,fss,rfl,ht,hg,rl,q⟩
  have z9:101<sizeLine:=by decide
  x5⟨xs,hr',xl,xa⟩:=rl.rooms.ex
  have n12:=rl.n12
  have m40:=rl.m40
  have ll:=rl.rd.len
  have fl:=rl.len
  z5⟨_,(bN (cY (eF (dw (bU sI hr.md (by rfl) (bG (pv 0) (bG (pv 1) (bG (cB eN (by rfl) T.lF PySem.boot_len (bG (pv 2) bI)) bI)))) (fun _=>rfl)))
    (bQ (cu gB))
    cC)
   (bN (iD PassesOwn.never rfl (lC (by rfl) T.qe (bG (bV dj (pv 1) bH) bI).mono) (cG (i:=4) uw.nd rfl (Or.inr rfl))
    (bQ (iD PassesOwn.never rfl (lC (by rfl) T.qe (bG (cB eN (by rfl) T.lF PySem.boot_len (bG (pv 2) bI)) bI).mono) (cG (i:=5) uw.nd rfl (Or.inr rfl))
     (bN (cA (i:=6) uw.nd rfl (Or.inl rfl) (eY (bG (dB (bG (lN qX (by rfl) T.Dk boot_int (bG (lQ (show OpR _ _ (rIn K false) from VF) (pv 5) (pv 3) rfl) bI)) (bG bH bI))) bI)))
     (bN (cY (PW.pt (pw_and (cL Ir (pv 4) bH (cM _)) (pw_and (cL Ir (cB eN (by rfl) T.lF PySem.boot_len (bG (bZ bY (pv 2) (pv 5) (fun _ _=>rfl)) bI)) bH (cM _)) (pw_and1 (cL (show OpR _ _ (rIn K true) from Lz) (pv 5) (pv 3) rfl)))))
      (bQ (Iu (bO vZ) rE rE ["_law_door_here"] (cV ((bZ bY (pv 2) (pv 5) (fun _ _=>rfl))).mono) (eV (i:=0)) c7 (bU Qk hr.md (by rfl) (bG (pv 0) (bG (bZ bY (pv 1) (bV ur (pv 5) bH) (fun _ _=>rfl)) bI))) (cG (i:=6) uw.nd rfl (Or.inl rfl))))
      cC)
     (bN (cY (dw (cB (Bp rfl) (by rfl) T.Xc boot_any (bG (jy (bO vZ) rE rE ["_law_one"] (cV ((pv 6)).mono) (eV (i:=0)) c7 (bU Ly hr.md (by rfl) (bG (bZ bY (bZ bY (pv 1) (pv 5) (fun _ _=>rfl)) (pv 6) (fun _ _=>rfl)) (bG (pv 0) bI)))) bI)) (fun _=>rfl))
      (bQ (cu gB))
      cC)
     (bQ (cY (eF (dw (cB (Bp rfl) (by rfl) T.Xc boot_any (bG (jy (bO vZ) rE rE ["_law_one"] (cV ((pv 6)).mono) (eV (i:=0)) c7 (bU QL hr.md (by rfl) (bG (bZ bY (bZ bY (pv 1) (pv 5) (fun _ _=>rfl)) (pv 6) (fun _ _=>rfl)) (bG (pv 0) bI)))) bI)) (fun _=>rfl)))
      (bQ (cu gB))
      cC))))))))
   (bQ (cu gB)))),?_⟩
  z5 cg fun R1 hR1=>?_
  z5 dI (Xv ⟨_,rfl,_,rfl,_,rfl,r,_,rfl,hr',t,ls,fss,many,fcss.length,by rw [xl],ht,rl.rd,fl,m40,by om,fun fs hf=>?_,fun H1 S1=>⟨true,rfl,?_⟩⟩)
  .obtain ⟨k,ek⟩:=aY hf
   x5⟨a,b⟩:=rl.ro.ok k fs ek
   rw [nM] at b
   qV⟨b,fun f hf=>⟨(a f hf).1,(a f hf).2.1⟩⟩
  show R1 _ _ _
  subst hR1
  z5 cg fun R1 hR1=>?_
  z5 dI (vY ⟨_,rfl,_,_,rfl,rfl,many+1,rfl,by om,fun _ σ H'=>(∃ u4 u5 u6,σ=[some (.ref t),some (.int many),some (.ref r),some (.ref gA),u4,u5,u6])/\Same H1 H',⟨⟨none,none,none,rfl⟩,fun _ _ z=>z⟩,?_,?_⟩)
  .rintro k σ' H2 hk ⟨⟨u4,u5,u6,rfl⟩,S2⟩
   have S12:=S1.trans S2
   have ek:fss[k]?=some (fss[k]'(by om)):=aj _
   have elk:ls[k]?=some (ls[k]'(by om)):=aj _
   x5⟨zk,hzk,flk⟩:=rl.rd.at_ k _ _ elk ek
   x5⟨rok,rln⟩:=rl.ro.ok k _ ek
   rw [nM] at rln
   have wbk:=rok.wb rl.L0 (m:=many) (by om) m40 rl.hm
   generalize ls[k]'(by om)=lk at *
   generalize efs:fss[k]'(by om)=fs at *
   dsimp only [cU,List.set_cons_succ,List.set_cons_zero]
   z5 vY ⟨_,rfl,r,_,rfl,S12 _ _ hr',fcss.length,by rw [xl],by om,fun _ σ H'=>(∃ u5 u6,σ=[some (.ref t),some (.int many),some (.ref r),some (.ref gA),some (.int (k:Nat)),u5,u6])/\Same H1 H',⟨⟨_,_,rfl⟩,S2⟩,?_,?_⟩
   .rintro j σ' H3 hj ⟨⟨u5,u6,rfl⟩,S3⟩
    have S13:=S1.trans S3
    have ej:fcss[j]?=some fcss[j]:=aj hj
    have mj:=aX hj
    x5⟨dl,ds,exj,hdl,d64,rml⟩:=xa j _ ej
    have ef:fs[j]?=some (fs[j]'(by om)):=aj _
    have nxk:0<k->∃ gs,fss[k - 1]?=some gs/\tu gl fcss gs fs:=fun k0=>by
     have e1:fss[k - 1]?=some (fss[k - 1]'(by om)):=aj _
     qV⟨_,e1,rl.ro.next (k - 1) _ fs e1 (by rw [Nat.sub_add_cancel k0]; qV ek)⟩
    have f0:k=0->fs[j]'(by om)=Px (decide (j∈gl)):=fun k0=>by
     subst k0
     have h1:=rl.ro.first
     rw [ek] at h1
     have h2:fs[j]?=some (Px (decide (j∈gl))):=by
      rw [Option.some.inj h1]
      unfold rG d9
      rw [au,au,List.getElem?_range hj]; rfl
     rw [ef] at h2
     qV Option.some.inj h2
    have fx:=wbk.fb (aX (l:=fs) (n:=j) (by om))
    generalize fs[j]'(by om)=g at *
    generalize fcss[j]=fcs at *
    have exg:∃ pg,zk[j]?=some (.ref pg)/\SqT K H pg [.int g.1,.int g.2]:=by
     have lz:j<zk.length:=by rw [flk.length]; qV(aq.mp ef).1
     x5⟨pg,g',e1,e2,e3⟩:=flk.get (aj lz)
     rw [ef] at e2
     cases e2
     qV⟨pg,by rw [aj lz,e1],e3⟩
    x5⟨pg,ezg,hpg⟩:=exg
    dsimp only [cU,List.set_cons_succ,List.set_cons_zero]
    z5 cg fun R2 hR2=>?_
    z5 cN ⟨_,rfl,_,rfl,gA,_,rfl,.inl (.of (S13 _ _ hg)),rfl,Ob,.inr ⟨_,rfl,dW,fun a0 H4 S4 f4 h4=>⟨M7,fun l1 H5 S5 f5 h5=>?_⟩⟩⟩
    rw [show (if false=true then !inV (.int (j:Nat)) (gl.map nV) else inV (.int (j:Nat)) (gl.map nV))=decide (j∈gl) from TF] at h4
    dsimp only [cU,List.set_cons_succ,List.set_cons_zero]
    subst hR2
    z5 cg fun R2 hR2=>?_
    have rest:∀ (bk:L2.St->Hp->Prop) (l3:Addr) (ys:List V) (gs:List (Int×Int)) (H6:Hp),Same H3 H6->H6 l3=some (.lst ys)->FLK K H6 ys gs->gs.length <= 64->(∀ x∈gs,Fb x/\vl x <= vl g)->(∃ x∈gs,vl x=vl g)->R2 { nx:=fun σ H'=>(∃ u5 u6,σ=[some (.ref t),some (.int many),some (.ref r),some (.ref gA),some (.int (k:Nat)),u5,u6])/\Same H1 H',rt:=Q,bk:=bk,ct:=fun σ H'=>(∃ u5 u6,σ=[some (.ref t),some (.int many),some (.ref r),some (.ref gA),some (.int (k:Nat)),u5,u6])/\Same H1 H' } [some (.ref t),some (.int many),some (.ref r),some (.ref gA),some (.int (k:Nat)),some (.int (j:Nat)),some (.ref l3)] H6:=by
     intro bk l3 ys gs H6 S6 h6 fl6 l64 al ex
     subst hR2
     have yl:=fl6.length
     have S16:=S13.trans S6
     have S36:=S3.trans S6
     have ak:atI (ls.map V.ref) (k:Nat)=some (.ref lk):=b_ (by rw [au,elk]; rfl)
     z5 cg fun R4 hR4=>?_
     z5 dI (Tf (qP (List.replicate gs.length (.bl false)) rfl h6 (by rw [aP,yl]) (by rw [aP]; om) ?_ fun l7 H7 S7 f7 h7=>?_))
     .intro i x y Hc R hi hy Sc r'
      x5⟨px,gx,rfl,ex,hx⟩:=fl6.get hi
      have li:=(aq.mp ex).1
      x5⟨bx,le⟩:=al gx (aC ex)
      rw [List.getElem?_replicate,if_pos li] at hy
      cases hy
      have SS:=S16.trans Sc
      z5⟨_,rfl,_,rfl,t,_,_,_,rfl,rfl,SS _ _ ht,ak,_,rfl,lk,zk,_,_,rfl,rfl,SS _ _ hzk,b_ ezg,_,rfl,pg,px,g,gx,rfl,SS.tup hpg,Sc.tup hx,fx,bx,fun b hb=>?_⟩
      have e:b=false:=Bool.eq_false_iff.mpr fun z=>Rat.not_lt.mpr le (hb.mp z)
      rw [e]
      qV r' Hc fun _ _ z=>z
     z5⟨l7,List.replicate gs.length false,rfl,by rw [h7,List.map_replicate],false,?_,?_⟩
     .have e:(List.replicate gs.length false).any id=false:=by
       rw [List.any_eq_false]
       intro x hx
       rw [(List.mem_replicate.mp hx).2]
       decide
      rw [e]; rfl
     show R4 _ _ _
     subst hR4
     z5 ZG (abn (qP (gs.map fun x=>.bl (decide (vl g=vl x))) rfl (S7 _ _ h6) (by rw [ao,yl]) (by rw [ao]; om) ?_ fun l8 H8 S8 f8 h8=>?_))
     .intro i x y Hc R hi hy Sc r'
      x5⟨px,gx,rfl,ex,hx⟩:=fl6.get hi
      x5⟨bx,le⟩:=al gx (aC ex)
      rw [au,ex] at hy
      cases hy
      have SS:=S16.trans (S7.trans Sc)
      z5⟨_,rfl,_,rfl,t,_,_,_,rfl,rfl,SS _ _ ht,ak,_,rfl,lk,zk,_,_,rfl,rfl,SS _ _ hzk,b_ ezg,_,rfl,pg,px,g,gx,rfl,SS.tup hpg,(S7.trans Sc).tup hx,fx,bx,fun b hb=>?_⟩
      have e:b=decide (vl g=vl gx):=by
       rw [Bool.eq_iff_iff,decide_eq_true_iff]
       qV hb
      rw [e]
      qV r' Hc fun _ _ z=>z
     z5⟨l8,gs.map fun x=>decide (vl g=vl x),rfl,by rw [h8,List.map_map]; rfl,true,?_,⟨_,_,rfl⟩,S36.trans (S7.trans S8)⟩
     x5⟨x,hx,e⟩:=ex
     have:(gs.map fun x=>decide (vl g=vl x)).any id=true:=List.any_eq_true.mpr ⟨true,List.mem_map.mpr ⟨x,hx,decide_eq_true e.symm⟩,rfl⟩
     rw [this]; rfl
    have S35:=S4.trans S5
    z5 dI ⟨_,rfl,_,_,rfl,rfl,decide (0<(k:Int)),rfl,?_⟩
    have zero:g=Px (decide (j∈gl))->R2 { nx:=fun σ H'=>(∃ u5 u6,σ=[some (.ref t),some (.int many),some (.ref r),some (.ref gA),some (.int (k:Nat)),u5,u6])/\Same H1 H',rt:=Q,bk:=fun σ H'=>(∃ u4 u5 u6,σ=[some (.ref t),some (.int many),some (.ref r),some (.ref gA),u4,u5,u6])/\Same H1 H',ct:=fun σ H'=>(∃ u5 u6,σ=[some (.ref t),some (.int many),some (.ref r),some (.ref gA),some (.int (k:Nat)),u5,u6])/\Same H1 H' } [some (.ref t),some (.int many),some (.ref r),some (.ref gA),some (.int (k:Nat)),some (.int (j:Nat)),some (.ref l1)] H5:=fun e=>by
     z5 rest _ l1 [.ref a0] [Px (decide (j∈gl))] H5 S35 h5 (.cons (f:=Px (decide (j∈gl))) (.of ?_) .nil) (by simp) (fun x hx=>by rw [List.mem_singleton.mp hx,e]; qV⟨e ▸ fx,Rat.le_refl⟩) ⟨_,List.mem_singleton.mpr rfl,by rw [e]⟩
     have h4':=S5 _ _ h4
     revert h4'
     cases decide (j∈gl) <;> qV fun z=>z
    by_cases k0:0<k
    .rw [decide_eq_true (by om)]
     have S15:=S13.trans S35
     z5⟨_,rfl,_,rfl,r,_,_,_,rfl,rfl,S15 _ _ hr',b_ exj,dl,_,rfl,S15 _ _ hdl,_,_,rfl,rfl,decide (0<ds.length),congrArg V.bl (decide_eq_decide.mpr (by rw [ao]; om)),?_⟩
     x5⟨gs,egs,nx⟩:=nxk k0
     x5⟨g0,g1,gone,gno⟩:=nx.2 j fcs g ej ef
     have fds:=rml.len
     by_cases d0:0<ds.length
     .rw [decide_eq_true d0]
      z5⟨_,rfl,_,rfl,gA,_,rfl,.inl (.of (S15 _ _ hg)),rfl,Ob,!decide (j∈gl),congrArg (fun b=>V.bl (!b)) TF,?_⟩
      by_cases jg:j∈gl
      .rw [decide_eq_true jg]
       qV zero (by rw [gone jg,decide_eq_true jg]; rfl)
      rw [decide_eq_false jg]
      x5⟨gz,gn,gll⟩:=gno jg
      have elp:ls[k - 1]?=some (ls[k - 1]'(by om)):=aj _
      x5⟨zp,hzp,flp⟩:=rl.rd.at_ (k - 1) _ _ elp egs
      x5⟨rop,rlp⟩:=rl.ro.ok (k - 1) _ egs
      rw [nM] at rlp
      have wbp:=rop.wb rl.L0 (m:=many) (by om) m40 rl.hm
      generalize ls[k - 1]'(by om)=lp at *
      have ap:atI (ls.map V.ref) ((k:Int) - 1)=some (.ref lp):=by
       rw [show (k:Int) - 1=((k - 1:Nat):Int) by om]
       qV b_ (by rw [au,elp]; rfl)
      z5 Ml (dR ⟨_,rfl,_,rfl,r,_,_,_,rfl,rfl,S15 _ _ hr',b_ exj,dl,_,rfl,S15 _ _ hdl,by rw [ao]; om,fun D3 g3=>⟨fun i ys Hc=>Same H5 Hc/\Hc D3=some (.lst ys)/\∃ ws,FLK K Hc ys ws/\ws.length=i/\(∀ f∈ws,Fb f)/\ws.map vl=(oE gs fcs).take i,⟨Same.upd g3,bK,[],.nil,rfl,by simp,rfl⟩,?_,?_⟩⟩)
      .rintro i y ys Hc hi ⟨S7,h7,ws,fl7,ln7,fb7,v7⟩ _ ha
       have li:i<ds.length:=by have:=(aq.mp hi).1; rw [ao] at this; qV this
       have ed:ds[i]?=some ds[i]:=aj li
       have ec:fcs[i]?=some (fcs[i]'(by om)):=aj _
       have mc:=aX (l:=fcs) (n:=i) (by om)
       rw [au,ed] at hi
       cases hi
       have lD:=rml.at_ i _ _ ed ec
       generalize ds[i]=dd at *
       generalize fcs[i]'(by om)=fc at *
       have SS:=S15.trans S7
       z5⟨_,rfl,_,rfl,_,rfl,_,_,rfl,rfl,t,_,_,_,rfl,rfl,SS _ _ ht,ap,dd,lp,fcss.length,fc,zp,gs,rfl,lD.same SS,SS _ _ hzp,flp.same SS,wbp,rlp,fun t2 z y H8 S8 h8 y0 bz b_y v=>?_⟩
       have h78:=S8 _ _ h7
       z5⟨h78,S8 _ _ ha,fun b u e=>(bM (bL e g3)).trans (S8 _ _ (S7 _ _ e)),bK,ws++[(z,y)],?_,by rw [aB,ln7]; rfl,fun f hf=>?_,?_⟩
       .exact ((fl7.same S8).append (.cons (f:=(z,y)) (.of h8) .nil)).updL h78
       .rcases List.mem_append.mp hf with hf | hf
        .exact fb7 f hf
        .rw [List.mem_singleton.mp hf]
         qV⟨y0,bz,b_y⟩
       .have eq:(oE gs fcs)[i]?=some (iG fc.2 (wq gs)):=by unfold oE; rw [au,ec]; rfl
        rw [cH eq,bD,v7,<- v]; rfl
      .rintro ys Hc ⟨S7,h7,ws,fl7,ln7,fb7,v7⟩ hy
       rw [ao] at ln7 v7
       have lq:(oE gs fcs).length=ds.length:=by unfold oE; rw [ao,fds]
       rw [<- lq,aR] at v7
       z5 rest _ D3 ys ws Hc (S35.trans S7) h7 fl7 (by om) (fun x hx=>⟨fb7 x hx,?_⟩) ?_
       .have:vl x∈oE gs fcs:=by rw [<- v7]; qV List.mem_map.mpr ⟨x,hx,rfl⟩
        x5⟨fc,hf,e⟩:=List.mem_map.mp this
        rw [<- e]; qV gll fc hf
       .obtain ⟨fc,hf,e⟩:=gn (fun z=>by rw [z] at fds; simp at fds; om)
        have:vl g∈ws.map vl:=by rw [v7,e]; qV List.mem_map.mpr ⟨fc,hf,rfl⟩
        x5⟨x,hx,e'⟩:=List.mem_map.mp this
        qV⟨x,hx,e'⟩
     .rw [decide_eq_false d0]
      z5 zero ?_
      by_cases jg:j∈gl
      .rw [gone jg,decide_eq_true jg]; rfl
      .rw [(gno jg).1 (List.eq_nil_of_length_eq_zero (by om)),decide_eq_false jg]; rfl
    .rw [decide_eq_false (by om)]
     qV zero (f0 (by om))
   .rintro σ' H3 ⟨⟨u5,u6,rfl⟩,S3⟩
    qV⟨⟨_,_,_,rfl⟩,S3⟩
  .rintro σ' H2 ⟨⟨u4,u5,u6,rfl⟩,S2⟩
   subst hR1
   qV q H2 (S1.trans S2)
~!Rds.wo {H:Hp}{as ls:List Addr}{fss:List (List (Int×Int))} (h:Rds K H ls fss) (n:∀ l∈ls,l ∉ as) (hl:∀ a∈as,∃ zs,H a=some (.lst zs)):Rds K (L2.wo as H) ls fss:=⟨h.len,h.nd,fun k l fs e1 e2=>by
 x5⟨zs,a,b⟩:=h.at_ k l fs e1 e2
 z5⟨zs,(mz (n l (aC e1))).trans a,b.imp fun p x y e=>?_⟩
 have t:∀ u,(∀ zs,u≠HO.lst zs)->H p=some u->L2.wo as H p=some u:=fun u nu e=>(mz fun z=>by
  x5⟨zs,hz⟩:=hl p z
  rw [hz] at e
  injection e with e
  qV nu zs e.symm).trans e
 rcases e with (e | ⟨o,e⟩) | e
 .exact .inl (.inl (t _ (fun _ z=>by cases z) e))
 .exact .inl (.inr ⟨o,t _ (fun _ z=>by cases z) e⟩)
 .exact .inr e⟩
noncomputable def Nt (K:Frag) (D:Adr):Sp:=fun vs H Q _=>sH K D vs H Q fun _ _ _=>False
~!KJ {G:Hp}{a:Addr}{o:HO} (g:G a=none):L2.wo [a] (upd G a o)=G:=by
 funext b
 by_cases z:b=a
 .rw [z,wW (by simp),g]
 .rw [mz (by simpa using z),bM z]
~!yJ {as:List Addr}{H H':Hp} (S:Same H H'):Same (L2.wo as H) (L2.wo as H'):=fun b u e=>by
 x5⟨a,c⟩:=rO e
 rw [mz a]; qV S _ _ c
~!YL {H:Hp}{a:Addr}{o:HO} (h:H a=some o):upd (L2.wo [a] H) a o=H:=by
 funext b
 by_cases z:b=a
 .rw [z,bK,h]
 .rw [bM z,mz (by simpa using z)]
~!BR {α:Type}{g:α->PyData} (h:∀ x,PyData.canLay0 (g x)=true):∀ xs:List α,PyData.canLayAll0 (xs.map g)=true
 | []=>rfl
 | x::xs=>by rw [List.map_cons]; unfold PyData.canLayAll0; rw [BR h xs,h x]; rfl
~!Du {α:Type}{g:α->PyData}{n:Nat} (h:∀ x,PyData.depth (g x) <= n):∀ xs:List α,PyData.depthAll (xs.map g) <= n
 | []=>bC _
 | x::xs=>by
  rw [List.map_cons]; unfold PyData.depthAll
  have:=Du h xs
  have:=h x
  om
~!Zx {α:Type}{g:α->PyData} (h:∀ x,PyData.canLay0 (g x)=true) (d:∀ x,PyData.depth (g x) <= 2) (xs:List α):SeqAt.shaped (.list (xs.map g))=true/\PyData.eqv (.list (xs.map g)) (.list (xs.map g))=true:=by
 have h1:PyData.canLay0 (.list (xs.map g))=true:=by unfold PyData.canLay0; qV BR h xs
 have h2:PyData.depth (.list (xs.map g)) <= 64:=by unfold PyData.depth; have:=Du d xs; om
 z5⟨?_,PySem.SeqAt.eqv_refl _ h1⟩
 unfold SeqAt.shaped
 rw [h1,decide_eq_true h2]; rfl
noncomputable def nuD (g:Nat):PyData:=.int g
~!xW {H:Hp} : ∀ gl:List Nat,fu H (gl.map nV) (gl.map nuD)
 | []=>.nil
 | g::gl=>.cons (.int _) (xW gl)
structure afW (H:Hp) (v:V) (d:PyData):Prop where
 sh:Shows H v d
 shp:SeqAt.shaped d=true
 eq:PyData.eqv d d=true
~!Gf {H:Hp}{k:Int} : afW H (.int k) (.int k):=⟨.int _,rfl,PySem.SeqAt.eqv_refl _ rfl⟩
~!YT {ys:List V}{n:Nat} (h:n <= ys.length):m_ ys (some (n:Int)) none=ys.drop n:=by
 unfold m_
 rw [HT.qd,Nat.min_eq_left h]
 qV aM (by rw [List.length_drop]; qV aG _)
~!acU (F:Fun K JG JG Ot f fd) (T:Txt K mg D) (abV:∀ a ns,OkF P w K mg base 1 wD vW (yu K a ns)) (YG:OkF P w K mg base 2 t_ vA Ez) (WW:OkF P w K mg base 3 vp u_ E_) (Xh:∀ a ns,OkF P w K mg base 5 tQ ux (Dm K a ns)) (abA:OkF P w K mg base 9 yZ yG (Lw K D)) (dH:OkF P w K mg base 1 iy g_ gj) (ZR:OkF P w K mg base 2 uG tZ Fx) (qJ:OkF P w K mg base 8 fV iu (Nt K D)) (vV:OkF P w K mg base 9 pQ pI (Qj D)) (CV:OkF P w K mg base 5 uE uQ (Ep K D)):cD P w K mg base CX0 10 f fd Qx (Mj K D.T_goal_rounds):=by
 z5 F.okB iH ?_ ?_
 .rintro _ _ _ _ ⟨a,ns,rfl,_⟩; rfl
 .rintro cdv A outer s H _ Q E hr ⟨a,ns,rfl,hs,hl,_,hT,hQ⟩
  have qm:=abV a ns
  have K7:=(Xh a ns).frame D.T_goal_rounds
  have LQ:=YG.frame D.T_goal_rounds
  have Kh:=WW.frame D.T_goal_rounds
  have Qw:=abA.frame D.T_goal_rounds
  have JZ:=ZR.frame D.T_goal_rounds
  obtain ⟨G0,g0,rfl,hs0⟩ : ∃ G0:Hp,G0 D.T_goal_rounds=none/\H=upd G0 D.T_goal_rounds (.tbl #[])/\SqL K G0 a (ns.map V.int):=by
   z5⟨L2.wo [D.T_goal_rounds] H,wW (by simp),(YL hT).symm,?_⟩
   rcases hs with (e | ⟨o,e⟩) | e
   .exact .inl (.inl ((mz (by simp; intro z; rw [z,hT] at e; cases e)).trans e))
   .exact .inl (.inr ⟨o,(mz (by simp; intro z; rw [z,hT] at e; cases e)).trans e⟩)
   .exact .inr e
  have up:∀ {G:Hp}{b:Addr}{u:HO},G D.T_goal_rounds=none->G b=some u->upd G D.T_goal_rounds (.tbl #[]) b=some u:=fun g e=>Same.upd g _ _ e
  z5⟨_,(cJ (PSB.mk (uH (bU LQ hr.md (by rfl) (bG (bU qm hr.md (by rfl) (bG (pv 0) (bG bH bI))) bI)) (gR (n:=3) rfl (cF (cG (i:=11) iH.nd rfl (Or.inr rfl)) (cF (cG (i:=12) iH.nd rfl (Or.inl rfl)) (cF (cG (i:=13) iH.nd rfl (Or.inl rfl)) gC))))))
   (cJ (PSB.mk (cA (i:=1) iH.nd rfl (Or.inl rfl) (bU K7 hr.md (by rfl) (bG (pv 0) (bG bH (bG (pv 11) (bG (pv 13) bI)))))))
   (cJ (PSB.mk (cA (i:=2) iH.nd rfl (Or.inl rfl) (bU Qw hr.md (by rfl) (bG (bU qm hr.md (by rfl) (bG (pv 0) (bG bH bI))) (bG (bU Kh hr.md (by rfl) (bG (bU qm hr.md (by rfl) (bG (pv 0) (bG bH bI))) (bG (pv 13) bI))) (bG (pv 1) bI))))))
   (cJ (PSB.mk (cA (i:=3) iH.nd rfl (Or.inl rfl) (bU JZ hr.md (by rfl) (bG (bU qm hr.md (by rfl) (bG (pv 0) (bG bH bI))) (bG (pv 11) bI)))))
   (cJ (PSB.mk (cA (i:=4) iH.nd rfl (Or.inl rfl) (lN QX (by rfl) T.Fp boot_list (bG (pv 3) bI))))
   (cJ (PSB.mk (cA (i:=5) iH.nd rfl (Or.inl rfl) (eY (bG (bU qJ hr.md (by rfl) (bG (pv 2) (bG (pv 4) (bG (pv 12) bI)))) (bG (bU qJ hr.md (by rfl) (bG (pv 2) (bG (eY bI) (bG (pv 12) bI)))) bI)))))
   (cJ (PSB.mk (cA (i:=6) iH.nd rfl (Or.inl rfl) (bU dH hr.md (by rfl) (bG (bU qm hr.md (by rfl) (bG (pv 0) (bG bH bI))) (bG bH bI)))))
   (cJ (PSB.mk (cA (i:=7) iH.nd rfl (Or.inl rfl) (bZ bY (eY (bG (FJ xQ bH) (bG (pv 11) (bG vI (bG iZ (bG (bV dj (pv 11) (bV Eb bH bH)) (bG (dB (bG bH (bG bH bI))) (bG gB (bG gB bI))))))))) (bV cR (bZ bY (pv 6) bH (fun _ _=>rfl)) bH) (fun _ _=>rfl))))
   (cJ (PSB.mk (cA (i:=8) iH.nd rfl (Or.inl rfl) (bV mL (bZ bY (pv 6) bH (fun _ _=>rfl)) (bV dj (cB eN (by rfl) T.lF PySem.boot_len (bG (pv 3) bI)) bH))))
   (cJ (PSB.mk (cA (i:=9) iH.nd rfl (Or.inl rfl) (bV KZ (bV KZ (bV KZ (jz qU (pv 3) wu (gU (pv 8))) (eY (bG (pv 7) bI))) (jz qU (pv 3) (gU (pv 8)) wu)) (bZ bY (eY (bG (eY (bG (FJ xQ bH) bI)) (bG (eY bI) bI))) (bV cR (bZ bY (pv 6) bH (fun _ _=>rfl)) bH) (fun _ _=>rfl)))))
   (cJ (PSB.mk (cA (i:=10) iH.nd rfl (Or.inl rfl) (bZ bY (eY (bG (FJ xQ bH) (bG bH (bG gB (bG gB (bG vI (bG iZ (bG (dB (bG bH (bG bH bI))) (bG (bV Eb bH bH) bI))))))))) (bV cR (bZ bY (pv 6) bH (fun _ _=>rfl)) bH) (fun _ _=>rfl))))
   (cJ (PSB.mk (uH (bU vV hr.md (by rfl) (bG (pv 2) (bG (pv 9) (bG (bZ bY (eY (bG (pv 12) (bG (pv 10) bI))) (bV cR (bZ bY (pv 6) bH (fun _ _=>rfl)) bH) (fun _ _=>rfl)) bI)))) (gR (n:=2) rfl (cF (cG (i:=14) iH.nd rfl (Or.inl rfl)) (cF (cG (i:=15) iH.nd rfl (Or.inl rfl)) gC)))))
   (cJ (PSB.mk (cY (PW.pt (pw_or (cL Br (pv 14) iZ (cM _)) (pw_or (cL (X5 hr.units) (pv 15) (pv 7) (cM _)) (pw_or1 (cL Br (cB jh (by rfl) T.d7 boot_isinstance (bG (pv 15) (bG (lU (v:=.ty "bool") (by rfl) T.LK boot_bool rfl) bI))) (cB jh (by rfl) T.d7 boot_isinstance (bG (pv 7) (bG (lU (v:=.ty "bool") (by rfl) T.LK boot_bool rfl) bI))) (cM _))))))
    (bQ (cu gB))
    cC))
   (cJ (PSB.mk (cY (cL (X5 hr.units) (bU vV hr.md (by rfl) (bG (pv 2) (bG (pv 4) (bG (pv 10) bI)))) (dB (bG iZ (bG vI bI))) (cM _))
    (bQ (cu gB))
    cC))
   (cJ (PSB.mk (iD PassesOwn.never rfl (Q9 (by rfl) T.Xq (bG (pv 5) (bG (eY (bG (pv 3) (bG (eY bI) bI))) bI)).mono) (gR (n:=2) rfl (cF (cG (i:=16) iH.nd rfl (Or.inl rfl)) (cF (cG (i:=17) iH.nd rfl (Or.inl rfl)) gC)))
    (bN (cY (eF (dw (bU CV hr.md (by rfl) (bG (pv 16) (bG (pv 12) (bG (pv 1) (bG (pv 17) bI))))) (fun _=>rfl)))
     (bQ (cu gB))
     cC)
    (bN (iD PassesOwn.never rfl (cV ((pv 16)).mono) (cG (i:=18) iH.nd rfl (Or.inl rfl))
     (bQ (dh (tH (pv 18) (bG (dB (bG bH (bG bH bI))) bI)))))
    (bN (cY (dw (cB (Bp rfl) (by rfl) T.Xc boot_any (bG (jy (bO Ot) Ye ["_law_script", "_law_rooms", "_law_hall_here", "_law_goals_here", "_law_handed", "_law_held", "_law_xs", "_law_odd", "_law_at", "_law_spoilt", "_law_none", "_law_size", "_law_many", "_law_small", "_law_word", "_law_room", "_law_found", "_law_due", "?_law_one"] ["_law_one"] (cV ((pv 16)).mono) (eV (i:=0)) c7 (lQ Br (cB eN (by rfl) T.lF PySem.boot_len (bG (pv 0) bI)) (bV dj (pv 12) bH) (cM _))) bI)) (fun _=>rfl))
     (bQ (cu gB))
     cC)
    (bQ (dh (acJ (pv 16)))))))))
   (z6 (PSB.mk (cu (K6 (bU CV hr.md (by rfl) (bG (bU qJ hr.md (by rfl) (bG (pv 2) (bG (pv 4) (bG (pv 12) bI)))) (bG (pv 12) (bG (pv 1) (bG (pv 3) bI))))) (Kr (lQ (adv hr.units) (pv 4) (pv 3) (cM _)))))))))))))))))))))),?_⟩
  rw [show L2.start Ye [V.ref a]=[some (.ref a),none,none,none,none,none,none,none,none,none,none,none,none,none,none,none,none,none,none] from rfl]
  have z9:101<sizeLine:=by decide
  z5 cg fun R1 hR1=>?_
  z5 dI (Ml ⟨_,rfl,0,rfl,hs,hl,by decide,G0,_,g0,rfl,_,rfl,fun n m sm r1 G1 sz S1 h1 g1=>⟨r1,_,rfl,up g1 h1,rfl,_,_,rfl,_,_,rfl,_,_,rfl,rfl,?_⟩⟩)
  have n12:=sz.n12
  have m40:=sz.m40
  subst hR1
  dsimp only [cU,L2.start,List.set_cons_succ,List.set_cons_zero]
  z5 cg fun R1 hR1=>?_
  z5 cN ⟨_,rfl,_,rfl,_,rfl,G1,_,g1,rfl,5,n,sm,rfl,Same.sql S1 hs0,hl,by decide,n12,fun r xs dss G3 S3 fr hr3 ld rd dm g3=>?_⟩
  have m3:sX sm <= 3:=by cases sm <;> decide
  have S03:=S1.trans S3
  subst hR1
  dsimp only [cU,List.set_cons_succ,List.set_cons_zero]
  z5 cg fun R1 hR1=>?_
  have sq3:=Same.sql (S03.trans (Same.upd (o:=.tbl #[]) g3)) hs0
  z5 cN ⟨_,rfl,1,rfl,sq3,hl,by decide,_,rfl,2,rfl,sq3,hl,by decide,_,rfl,G3,_,g3,rfl,_,sm,rfl,fun ps x y G2 S2 h2 x0 xy y1 gx g2=>?_⟩
  have y100:y <= 100:=Int.le_trans y1 (by cases sm <;> decide)
  z5⟨_,rfl,G2,_,g2,rfl,_,x,y,ps,r,xs,dss,n,sX sm,mB sm,rfl,h2,x0,xy,y100,gx,S2 _ _ hr3,rd.same S2,ld,n12,by om,dm,fun o G4 rms S4 fo hh ok hi g4=>?_⟩
  have S24:=S2.trans S4
  x5⟨fcss,fn,hn,rml,dmm⟩:=Y6 hh ok hi (S4 _ _ h2) x0 xy y100 (S24 _ _ hr3) (rd.same S24) ld n12 dm m3
  x5⟨L,hL,hm⟩:=adn sz fn x0 xy y1 dmm
  have S04:=S03.trans S24
  subst hR1
  dsimp only [cU,List.set_cons_succ,List.set_cons_zero]
  z5 cg fun R1 hR1=>?_
  z5 cN ⟨_,rfl,3,rfl,Same.sql (S04.trans (Same.upd g4)) hs0,hl,by decide,_,rfl,G4,_,g4,rfl,_,n,rfl,n12,fun gh gl G5 S5 fg hgh gb gl4 g5=>?_⟩
  have hn:=hn.same S5
  have rml:=rml.same S5
  have S05:=S04.trans S5
  subst hR1
  dsimp only [cU,List.set_cons_succ,List.set_cons_zero]
  z5 cg fun R1 hR1=>?_
  z5 cN ⟨_,rfl,gh,_,rfl,up g5 hgh,fun lh H6 S6 f6 h6=>?_⟩
  -- all that stays from here on: G6
  obtain ⟨G6,g6,rfl,S56⟩ : ∃ G6:Hp,G6 D.T_goal_rounds=none/\H6=upd G6 D.T_goal_rounds (.tbl #[])/\Same G5 G6:=by
   z5⟨L2.wo [D.T_goal_rounds] H6,wW (by simp),(YL (S6 _ _ bK)).symm,?_⟩
   have:=yJ (as:=[D.T_goal_rounds]) S6
   rwa [KJ g5] at this
  have nlh:lh≠D.T_goal_rounds:=fun z=>by rw [z,bK] at h6; cases h6
  rw [bM nlh] at h6
  have hgh:=S56 _ _ hgh
  have hn:=hn.same S56
  have rml:=rml.same S56
  have S06:=S05.trans S56
  have hs6:SqL K G6 a (ns.map V.int):=Same.sql S06 hs0
  x5⟨p',rms',hh',few',_,_,rn,_⟩:=hn.ex
  have r20:=few'.len
  have gb:∀ g∈gl,g<rms'.length:=fun g hg=>by rw [<- rn,fn]; qV gb g hg
  clear hi hh ok rd hr3 dm fo fr S6 f6 h2 fg sq3
  have mno:∀ k:Nat,k <= 40->uM (.int (k:Nat)):=fun k h=>⟨by om,by om⟩
  subst hR1
  dsimp only [cU,List.set_cons_succ,List.set_cons_zero]
  z5 cg fun R1 hR1=>?_
  have nn:D.T_goal_rounds::(none:Option Addr).toList=[D.T_goal_rounds]:=rfl
  z5 cN ⟨_,rfl,_,rfl,_,rfl,o,lh,p',.int m,rms',rfl,⟨_,rfl⟩,hh'.same (Same.upd g6),by om,.inr ⟨gl,up g6 h6,by om,gb,(fun z=>absurd (mno m m40) z),fun _=>⟨m,L,(x,y),fcss,none,rfl,bK,rn,by rw [nn,KJ g6]; qV hn,hL,hm,fun t1 ls1 fss1 HA c SA laA _ ft1 fls1 nt1 ht1 rd1 ln1 ro1=>?_⟩⟩⟩
  rw [nn,KJ g6] at SA
  have S6A:Same G6 HA:=SA.trans mD
  z5⟨_,rfl,bC _,fun le HA2 SA2 fle hle=>⟨_,rfl,o,le,p',.int m,rms',rfl,⟨_,rfl⟩,hh'.same (S6A.trans SA2),by om,.inr ⟨[],hle,by decide,by simp,(fun z=>absurd (mno m m40) z),fun _=>⟨m,L,(x,y),fcss,some c,rfl,⟨SA2 _ _ laA.1,SA2 _ _ laA.2⟩,rn,hn.same (SA.trans (yJ SA2)),hL,hm,fun t2 ls2 fss2 HB c' SB laB ec ft2 fls2 nt2 ht2 rd2 ln2 ro2=>?_⟩⟩⟩⟩
  obtain rfl:c'=c:=ec c rfl
  have SB:Same (L2.wo [D.T_goal_rounds,c'] HA2) (L2.wo [D.T_goal_rounds,c'] HB):=SB
  z5⟨dW,fun hd HC SC fC hC=>?_⟩
  have SAB:Same (L2.wo [D.T_goal_rounds,c'] HA) (L2.wo [D.T_goal_rounds,c'] HB):=(yJ SA2).trans SB
  have SG:Same G6 (L2.wo [D.T_goal_rounds,c'] HC):=SA.trans (SAB.trans (yJ SC))
  have S6C:Same G6 HC:=SG.trans mD
  have laC:wR D.T_goal_rounds lamP La HC (some c'):=⟨SC _ _ laB.1,SC _ _ laB.2⟩
  have old1:∀ l∈t1::ls1,∃ zs,HA l=some (.lst zs):=fun l hl'=>by
   rcases List.mem_cons.mp hl' with rfl | hl'
   .exact ⟨_,ht1⟩
   .obtain ⟨k,hk⟩:=aY hl'
    have lk:k<fss1.length:=by rw [<- rd1.len]; qV(aq.mp hk).1
    x5⟨zs,z,_⟩:=rd1.at_ k l _ hk (aj lk)
    qV⟨zs,mD _ _ z⟩
  have inA:∀ {b:Addr}{zs:List V},HA b=some (.lst zs)->HB b=some (.lst zs):=fun {b zs} e=>mD _ _ (SAB _ _ ((mz (by
   simp only [List.mem_cons,List.not_mem_nil,or_false,not_or]
   qV⟨fM e laA.1 (by intro z; cases z),fM e laA.2 (by intro z; cases z)⟩)).trans e))
  have htC1:HC t1=some (.lst (ls1.map V.ref)):=SC _ _ (inA ht1)
  have rdC1:Rds K HC ls1 fss1:=(rd1.same SAB).same (mD.trans SC)
  have htC2:HC t2=some (.lst (ls2.map V.ref)):=SC _ _ ht2
  have rdC2:Rds K HC ls2 fss2:=rd2.same (mD.trans SC)
  have dis:∀ l∈t2::ls2,l ∉ t1::ls1:=fun l h2' h1'=>by
   x5⟨zs,z⟩:=old1 l h1'
   have:HA2 l=none:=by
    rcases List.mem_cons.mp h2' with rfl | h
    .exact ft2
    .exact fls2 l h
   rw [SA2 _ _ z] at this; cases this
  have fG1:∀ l∈t1::ls1,G6 l=none:=fun l h=>by
   rcases List.mem_cons.mp h with rfl | h
   .exact Same.free (Same.upd g6) ft1
   .exact Same.free (Same.upd g6) (fls1 l h)
  have fG2:∀ l∈t2::ls2,G6 l=none:=fun l h=>by
   rcases List.mem_cons.mp h with rfl | h
   .exact Same.free (S6A.trans SA2) ft2
   .exact Same.free (S6A.trans SA2) (fls2 l h)
  have inB:∀ l,l∈t1::ls1\/l∈t2::ls2->∃ zs,HB l=some (.lst zs):=fun l h=>by
   rcases h with h | h
   .obtain ⟨zs,e⟩:=old1 l h
    qV⟨zs,inA e⟩
   .rcases List.mem_cons.mp h with rfl | h
    .exact ⟨_,ht2⟩
    .obtain ⟨k,hk⟩:=aY h
     have lk:k<fss2.length:=by rw [<- rd2.len]; qV(aq.mp hk).1
     x5⟨zs,e,_⟩:=rd2.at_ k l _ hk (aj lk)
     qV⟨zs,mD _ _ e⟩
  have nhd:∀ l,l∈t1::ls1\/l∈t2::ls2->l≠hd:=fun l h z=>by
   x5⟨zs,e⟩:=inB l h
   rw [z,fC] at e; cases e
  have inC:∀ l,l∈t1::ls1\/l∈t2::ls2->∃ zs,HC l=some (.lst zs):=fun l h=>(inB l h).imp fun zs e=>SC _ _ e
  have gc:G6 c'=none:=by
   cases z:G6 c' with
   | none=>rfl
   | some u=>have:=SG _ _ z; rw [wW (by simp)] at this; cases this
  have mk:∀ (H9:Hp) (gs:List Nat) (ls:List Addr) (fss:List (List (Int×Int))),Same G6 H9->Rds K H9 ls fss->fss.length=m+1->rQ (tu gs fcss) (rG fcss.length gs) L fss->agT K D H9 r m ls gs fcss L fss:=fun H9 gs ls fss S rd ln ro=>⟨rd,ln,m40,ro,hL.L0,hm,by om,rml.same S⟩
  clear rd1 rd2 ht1 ht2 inA inB SA SB SAB SC laA laB S6A old1 fC ft1 ft2 fls1 fls2 SA2 hle fle
  subst hR1
  dsimp only [cU,List.set_cons_succ,List.set_cons_zero]
  z5 cg fun R1 hR1=>?_
  z5 cN ⟨_,rfl,4,rfl,Same.sql S6C hs6,hl,by decide,_,5,rfl,by decide,fun lx us H7 SC7 f7 h7 ln hx=>?_⟩
  obtain ⟨u0,u1,u2,u3,u4,rfl⟩ : ∃ u0 u1 u2 u3 u4,us=[u0,u1,u2,u3,u4]:=by
   match us,ln with
   | [u0,u1,u2,u3,u4],_=>qV⟨_,_,_,_,_,rfl⟩
  have S67:=S6C.trans SC7
  subst hR1
  dsimp only [cU,List.set_cons_succ,List.set_cons_zero]
  z5 cg fun R1 hR1=>?_
  z5 cN ⟨1,rfl,_,rfl,_,rfl,10,30,rfl,rfl,aal (by decide) (by decide),_,_,rfl,rfl,dW,fun p1 H8 S8 f8 e8=>⟨(show 8 <= sizeLine by decide),fun p3 HD SD fD hD=>⟨_,rfl,lx,_,0,_,rfl,rfl,SD _ _ (S8 _ _ h7),d8,u0,8,rfl,rfl,(show (0:Int)<8 by decide),?_⟩⟩⟩
  have S7D:=S8.trans SD
  have kt:=SD _ _ e8
  obtain ⟨ow,aw,oo,no,dd,od⟩ : ∃ ow,atI [V.int (-1),.int n,.non,.str "0",.int ((n:Int)+10 ^ (30:Int).toNat),.ref p1,.bl true,.bl false] (u0 % 8)=some ow/\Odd HD ow/\¬ tY rms'.length ow/\∃ dd,afW HD ow dd:=by
   obtain ⟨j,ej,lj⟩ : ∃ j:Nat,u0 % 8=j/\j<8:=⟨(u0 % 8).toNat,by om,by om⟩
   rw [ej]
   match j,lj with
   | 0,_=>qV⟨_,b_ (j:=0) rfl,⟨_,rfl⟩,fun z=>absurd z.1 (by decide),_,Gf⟩
   | 1,_=>qV⟨_,b_ (j:=1) rfl,⟨_,rfl⟩,fun z=>by have:=z.2; om,_,Gf⟩
   | 2,_=>qV⟨_,b_ (j:=2) rfl,⟨_,rfl⟩,fun z=>z,_,.non,rfl,rfl⟩
   | 3,_=>qV⟨_,b_ (j:=3) rfl,⟨_,rfl⟩,fun z=>z,_,.str _,by decide +kernel,by decide +kernel⟩
   | 4,_=>qV⟨_,b_ (j:=4) rfl,⟨_,rfl⟩,fun z=>by
     have h1:=z.2
     have h2:(n:Int)<(n:Int)+10 ^ (30:Int).toNat:=by
      have:(0:Int)<10 ^ (30:Int).toNat:=by decide
      om
     om,_,Gf⟩
   | 5,_=>qV⟨_,b_ (j:=5) rfl,⟨_,Tz kt⟩,fun z=>z,.tuple [.int 0,.int 1],.tup kt (.cons (.int _) (.cons (.int _) .nil)),by decide +kernel,by decide +kernel⟩
   | 6,_=>qV⟨_,b_ (j:=6) rfl,⟨_,rfl⟩,fun z=>z,_,.bl _,rfl,rfl⟩
   | 7,_=>qV⟨_,b_ (j:=7) rfl,⟨_,rfl⟩,fun z=>z,_,.bl _,rfl,rfl⟩
   | j+8,lj=>om
  z5⟨p3,_,_,_,rfl,rfl,hD,aw,?_⟩
  subst hR1
  dsimp only [cU,List.set_cons_succ,List.set_cons_zero]
  z5 cg fun R1 hR1=>?_
  have h7:=S7D _ _ h7
  have S6D:=S67.trans S7D
  have hghD:=S6D _ _ hgh
  have g1':0<(((gl.map nV).length:Nat):Int)+1:=by om
  z5 cN ⟨_,rfl,lx,_,1,_,rfl,rfl,h7,dD,_,rfl,gh,_,rfl,hghD,_,_,rfl,rfl,u1,_,rfl,rfl,by om,?_⟩
  obtain ⟨at_,eat,atl⟩ : ∃ at_:Nat,u1.fmod ((((gl.map nV).length:Nat):Int)+1)=at_/\at_ <= gl.length:=by
   have m0:0 <= u1 % ((((gl.map nV).length:Nat):Int)+1):=Int.emod_nonneg _ (by om)
   have m1:u1 % ((((gl.map nV).length:Nat):Int)+1)<(((gl.map nV).length:Nat):Int)+1:=Int.emod_lt_of_pos _ g1'
   rw [ao] at m0 m1 ⊢
   qV⟨(u1 % ((gl.length:Int)+1)).toNat,by rw [aZ _ (by om)]; om,by om⟩
  subst hR1
  dsimp only [cU,List.set_cons_succ,List.set_cons_zero]
  rw [eat]
  z5 cg fun R1 hR1=>?_
  have ml:(gl.map nV).length=gl.length:=ao _
  have c1:m_ (gl.map nV) none (some (at_:Int))=(gl.take at_).map nV:=by rw [List.map_take]; qV xu (by rw [ml]; qV atl)
  have c2:m_ (gl.map nV) (some (at_:Int)) none=(gl.drop at_).map nV:=by rw [List.map_drop]; qV YT (by rw [ml]; qV atl)
  have tl4:(gl.take at_).length <= 4:=by rw [bA]; om
  have dl4:(gl.drop at_).length <= 4:=by rw [List.length_drop]; om
  z5 cN ⟨_,rfl,_,rfl,_,rfl,gh,_,rfl,hghD,fun q1 J1 SJ1 _ hJ1=>⟨_,rfl,M7,fun q2 J2 SJ2 _ hJ2=>⟨q1,q2,_,_,rfl,rfl,SJ2 _ _ hJ1,hJ2,by rw [c1,ao,List.length_singleton]; om,fun q3 J3 SJ3 _ hJ3=>⟨_,rfl,_,rfl,_,rfl,gh,_,rfl,SJ3 _ _ (SJ2 _ _ (SJ1 _ _ hghD)),fun q4 J4 SJ4 _ hJ4=>⟨q3,q4,_,_,rfl,rfl,SJ4 _ _ hJ3,hJ4,by rw [c1,c2,aB,ao,ao,List.length_singleton]; om,fun q5 J5 SJ5 _ hJ5=>?_⟩⟩⟩⟩⟩
  rw [c1,c2] at hJ5
  have SD5:=SJ1.trans (SJ2.trans (SJ3.trans (SJ4.trans SJ5)))
  z5⟨2,rfl,M7,fun q6 J6 SJ6 _ hJ6=>⟨bC _,fun q7 J7 SJ7 _ hJ7=>⟨dW,fun q8 J8 SJ8 _ hJ8=>⟨_,rfl,lx,_,2,_,rfl,rfl,SJ8 _ _ (SJ7 _ _ (SJ6 _ _ (SD5 _ _ h7))),b_ (j:=2) rfl,u2,2,rfl,rfl,(show (0:Int)<2 by decide),?_⟩⟩⟩⟩
  obtain ⟨qx,mr,ax,hqx,ml1⟩ : ∃ qx mr,atI [V.ref q6,.ref q7] (u2 % 2)=some (.ref qx)/\J8 qx=some (.lst mr)/\mr.length <= 1:=by
   obtain e | e:u2 % 2=0\/u2 % 2=1:=by om
   .exact ⟨q6,_,by rw [e]; qV d8,SJ8 _ _ (SJ7 _ _ hJ6),aG _⟩
   .exact ⟨q7,_,by rw [e]; qV dD,SJ8 _ _ hJ7,bC _⟩
  have S58:=SJ6.trans (SJ7.trans SJ8)
  z5⟨q8,_,_,_,rfl,rfl,hJ8,ax,q5,qx,_,_,rfl,rfl,S58 _ _ hJ5,hqx,?_,fun sp J9 SJ9 _ hJ9=>?_⟩
  .rw [aB,aB,ao,ao,List.length_singleton]; om
  have SD9:=SD5.trans (S58.trans SJ9)
  have esp:(gl.take at_).map nV++[ow]++(gl.drop at_).map nV++mr=(gl.take at_).map nV++ow::((gl.drop at_).map nV++mr):=by simp
  rw [esp] at hJ9
  have mo4:(gl.take at_).length+((gl.drop at_).map nV++mr).length <= 100:=by rw [aB,ao]; om
  generalize (gl.drop at_).map nV++mr=more at hJ9 mo4
  have h7:=SD9 _ _ h7
  have oo:=oo.same SD9
  have oshp:=od.shp
  have oeq:=od.eq
  have od:=od.sh.same SD9
  have S69:=S6D.trans SD9
  have tb:∀ g∈gl.take at_,g<rms'.length:=fun g hg=>gb g (List.mem_of_mem_take hg)
  clear hJ1 hJ2 hJ3 hJ4 hJ5 hJ6 hJ7 hJ8 hqx S58 SD5 hD aw kt hghD
  subst hR1
  dsimp only [cU,List.set_cons_succ,List.set_cons_zero]
  z5 cg fun R1 hR1=>?_
  z5 cN ⟨1,rfl,dW,fun b1 B1 SB1 _ hb1=>⟨10,30,rfl,rfl,aal (by decide) (by decide),(show 8 <= sizeLine by decide),fun b3 B2 SB2 _ hb3=>⟨_,rfl,lx,_,3,_,rfl,rfl,SB2 _ _ (SB1 _ _ h7),b_ (j:=3) rfl,u3,8,rfl,rfl,(show (0:Int)<8 by decide),?_⟩⟩⟩
  have S9B:=SB1.trans SB2
  have kt:=SB2 _ _ hb1
  obtain ⟨nw,aw,on,nn'⟩ : ∃ nw,atI [V.int (-1),.int 41,.bl true,.bl false,.non,.str "3",.ref b1,.int (10 ^ (30:Int).toNat)] (u3 % 8)=some nw/\Odd B2 nw/\¬ uM nw:=by
   obtain ⟨j,ej,lj⟩ : ∃ j:Nat,u3 % 8=j/\j<8:=⟨(u3 % 8).toNat,by om,by om⟩
   rw [ej]
   match j,lj with
   | 0,_=>qV⟨_,b_ (j:=0) rfl,⟨_,rfl⟩,fun z=>absurd z.1 (by decide)⟩
   | 1,_=>qV⟨_,b_ (j:=1) rfl,⟨_,rfl⟩,fun z=>absurd z.2 (by decide)⟩
   | 2,_=>qV⟨_,b_ (j:=2) rfl,⟨_,rfl⟩,fun z=>z⟩
   | 3,_=>qV⟨_,b_ (j:=3) rfl,⟨_,rfl⟩,fun z=>z⟩
   | 4,_=>qV⟨_,b_ (j:=4) rfl,⟨_,rfl⟩,fun z=>z⟩
   | 5,_=>qV⟨_,b_ (j:=5) rfl,⟨_,rfl⟩,fun z=>z⟩
   | 6,_=>qV⟨_,b_ (j:=6) rfl,⟨_,Tz kt⟩,fun z=>z⟩
   | 7,_=>qV⟨_,b_ (j:=7) rfl,⟨_,rfl⟩,fun z=>absurd z.2 (by decide)⟩
   | j+8,lj=>om
  z5⟨b3,_,_,_,rfl,rfl,hb3,aw,?_⟩
  have h7:=S9B _ _ h7
  have oo:=oo.same S9B
  have od:=od.same S9B
  have hsp:=S9B _ _ hJ9
  have S6B:=S69.trans S9B
  clear hb3 aw kt hJ9
  subst hR1
  dsimp only [cU,List.set_cons_succ,List.set_cons_zero]
  z5 cg fun R1 hR1=>?_
  z5 dI (Ml ⟨_,rfl,_,rfl,_,rfl,_,rfl,dW,fun e1 E1 SE1 _ he1=>⟨_,rfl,lx,_,4,_,rfl,rfl,SE1 _ _ h7,b_ (j:=4) rfl,u4,2,rfl,rfl,(show (0:Int)<2 by decide),?_⟩⟩)
  obtain ⟨vv,av,ovv⟩ : ∃ vv,atI [V.int m,nw] (u4 % 2)=some vv/\Odd E1 vv:=by
   obtain e | e:u4 % 2=0\/u4 % 2=1:=by om
   .exact ⟨_,by rw [e]; qV d8,_,rfl⟩
   .exact ⟨_,by rw [e]; qV dD,on.same SE1⟩
  have S6E:=S6B.trans SE1
  z5⟨e1,_,_,_,rfl,rfl,he1,av,o,sp,p',vv,rms',rfl,ovv,hh'.same S6E,by om,.inl ⟨gl.take at_,ow,more,SE1 _ _ hsp,mo4,tb,oo.same SE1,no,fun rr E2 SE2 hrr=>?_⟩⟩
  z5⟨rr,_,rfl,hrr,rfl,_,_,rfl,_,_,rfl,rfl,?_⟩
  have SBE:=SE1.trans SE2
  subst hR1
  dsimp only [cU,List.set_cons_succ,List.set_cons_zero]
  z5 cg fun R1 hR1=>?_
  have od:=od.same SBE
  x5⟨ty,ety⟩:=oo.same SBE
  z5 dI ⟨_,rfl,rfl,false,congrArg (fun b=>V.bl (!b)) (decide_eq_true rfl),_,rfl,_,rfl,dd,dd,od,od,oshp,oshp,false,by rw [oeq]; rfl,_,rfl,ow,_,ty,rfl,by simp,ety,_,rfl,ow,_,ty,rfl,by simp,ety,rfl,false,congrArg (fun b=>V.bl (!b)) (decide_eq_true rfl),?_⟩
  show R1 _ _ _
  subst hR1
  z5 cg fun R1 hR1=>?_
  have S62:=S6B.trans SBE
  z5 dI ⟨_,rfl,_,rfl,_,rfl,o,lh,p',nw,rms',rfl,on.same SBE,hh'.same S62,by om,.inr ⟨gl,S62 _ _ h6,by om,gb,nn',fun r2 F2 SF2 hr2=>⟨dW,fun r3 F3 SF3 _ hr3=>⟨.tuple [.str "number",.none],.tuple [.str "number",.none],.tup (SF3 _ _ hr2) (.cons (.str _) (.cons .non .nil)),.tup hr3 (.cons (.str _) (.cons .non .nil)),by decide +kernel,by decide +kernel,false,by decide +kernel,?_⟩⟩⟩⟩
  show R1 _ _ _
  subst hR1
  have SCE:=SC7.trans (S7D.trans (SD9.trans (S9B.trans (SBE.trans (SF2.trans SF3)))))
  clear SC7 S7D SD9 S9B SBE SF2 SF3 S62 S6B hrr hr2 hr3 h7 od ety oo hsp
  z5 cg fun R1 hR1=>?_
  z5 dI (Vs ⟨_,rfl,_,rfl,bC _,fun e2 HE2 SE2 fE2 hE2=>⟨dW,fun zl HF SF fF hF=>⟨hd,zl,_,_,rfl,SF _ _ (SE2 _ _ (SCE _ _ hC)),hF,rfl,fun k σ H'=>(∃ u11 u12 u13,σ=[some (.ref a),some (.ref r),some (.ref o),some (.ref gh),some (.ref lh),some (.ref hd),some (.ref lx),some ow,some (.int at_),some (.ref sp),some nw,some (.int n),some (.int m),some (.bl sm),some (.str "room"),some ow,u11,u12,u13])/\Same G6 H'/\wR D.T_goal_rounds lamP La H' (some c')/\(k<1->H' t1=some (.lst (ls1.map V.ref))/\Rds K H' ls1 fss1)/\(k<2->H' t2=some (.lst (ls2.map V.ref))/\Rds K H' ls2 fss2)/\H' e2=some (.lst []),?_,?_,?_⟩⟩⟩)
  .have S:=SCE.trans (SE2.trans SF)
   qV⟨⟨_,_,_,rfl⟩,S6C.trans S,⟨S _ _ laC.1,S _ _ laC.2⟩,fun _=>⟨S _ _ htC1,rdC1.same S⟩,fun _=>⟨S _ _ htC2,rdC2.same S⟩,SF _ _ hE2⟩
  .rintro k vx vy σ' H' tq hkx hky ⟨⟨u11,u12,u13,rfl⟩,SG',la',j1,j2,je⟩ hhd hzl ftq
   have Sq:Same H' (upd H' tq (.tup [vx,vy])):=Same.upd ftq
   have eq:upd H' tq (.tup [vx,vy]) tq=some (.tup [vx,vy]):=bK
   generalize upd H' tq (.tup [vx,vy])=H2 at Sq eq ⊢
   have k2:k<2:=(aq.mp hkx).1
   obtain ⟨t,gA,ls,fss,gs,rfl,rfl,ht,hgA,rd,nt,ln,ro,fG,nh,oth⟩ : ∃ (t gA:Addr) (ls:List Addr) (fss:List (List (Int×Int))) (gs:List Nat),vx=.ref t/\vy=.ref gA/\H2 t=some (.lst (ls.map V.ref))/\H2 gA=some (.lst (gs.map nV))/\Rds K H2 ls fss/\t ∉ ls/\fss.length=m+1/\rQ (tu gs fcss) (rG fcss.length gs) L fss/\(∀ l∈t::ls,G6 l=none)/\(∀ l∈t::ls,l≠hd/\l≠zl/\l≠e2)/\(k+1<2->∀ l∈t2::ls2,l ∉ t::ls):=by
    have nz:∀ l,l∈t1::ls1\/l∈t2::ls2->l≠hd/\l≠zl/\l≠e2:=fun l h=>by
     x5⟨zs,e⟩:=inC l h
     have e:=SCE _ _ e
     qV⟨nhd l h,(fun z=>by have:=SE2 _ _ e; rw [z,fF] at this; cases this),fun z=>by rw [z,fE2] at e; cases e⟩
    by_cases k0:k=0
    .subst k0
     cases hkx
     cases hky
     x5⟨a1,a2⟩:=j1 (by decide)
     qV⟨t1,gh,ls1,fss1,gl,rfl,rfl,Sq _ _ a1,Sq _ _ (SG' _ _ hgh),a2.same Sq,nt1,ln1,ro1,fG1,fun l h=>nz l (.inl h),fun _=>dis⟩
    .obtain rfl:k=1:=by om
     cases hkx
     cases hky
     x5⟨a1,a2⟩:=j2 (by decide)
     qV⟨t2,e2,ls2,fss2,[],rfl,rfl,Sq _ _ a1,Sq _ _ je,a2.same Sq,nt2,ln2,ro2,fG2,fun l h=>nz l (.inr h),fun z=>absurd z (by decide)⟩
   have SG2:=SG'.trans Sq
   have ll:=rd.len
   z5⟨tq,_,rfl,eq,rfl,_,_,rfl,_,_,rfl,rfl,?_⟩
   dsimp only [cU,List.set_cons_succ,List.set_cons_zero]
   z5 cg fun R2 hR2=>?_
   z5 dI (Xv ⟨_,rfl,_,rfl,_,rfl,_,rfl,t,r,gA,m,L,ls,gs,fcss,fss,rfl,ht,hgA,mk H2 gs ls fss SG2 rd ln ro,fun H3 S3=>⟨true,rfl,?_⟩⟩)
   show R2 _ _ _
   subst hR2
   have ht3:=S3 _ _ ht
   z5 cg fun R2 hR2=>?_
   z5 dI (fj ⟨_,rfl,t,_,rfl,ht3,fun i σ H'=>(∃ u13,σ=[some (.ref a),some (.ref r),some (.ref o),some (.ref gh),some (.ref lh),some (.ref hd),some (.ref lx),some ow,some (.int at_),some (.ref sp),some nw,some (.int n),some (.int m),some (.bl sm),some (.str "room"),some ow,some (.ref t),some (.ref gA),u13])/\Same (L2.wo ls H3) H'/\∀ (j:Nat) l,ls[j]?=some l->∃ zs,H' l=some (.lst zs)/\zs.length=n+(if j<i then 1 else 0),⟨⟨_,rfl⟩,mD,fun j l e=>?_⟩,?_,?_⟩)
   .have lj:j<fss.length:=by rw [<- ll]; qV(aq.mp e).1
    x5⟨zs,z1,z2⟩:=rd.at_ j l _ e (aj lj)
    qV⟨zs,S3 _ _ z1,by rw [z2.length,(ro.ok j _ (aj lj)).2,nM,fn]; rfl⟩
   .rintro i vx σ' H4 hi ⟨⟨u,rfl⟩,S4,al⟩ ht4
    rw [au] at hi
    cases el:ls[i]? with
    | none=>rw [el] at hi; cases hi
    | some l =>
     rw [el] at hi
     cases hi
     x5⟨zs,hz,lz⟩:=al i l el
     rw [if_neg (Nat.lt_irrefl _)] at lz
     have ntl:t≠l:=fun z=>nt (by rw [z]; qV aC el)
     z5⟨_,rfl,l,zs,rfl,hz,dW,fun p4 H5 S5 f5 h5=>⟨_,_,rfl,S5 _ _ hz,by om,(bM ntl).trans (S5 _ _ ht4),⟨_,rfl⟩,fun b u e=>?_,fun j l2 e2=>?_⟩⟩
     .obtain ⟨nb,_⟩:=rO e
      qV(bM fun z=>nb (by rw [z]; qV aC el)).trans (S5 _ _ (S4 _ _ e))
     .by_cases ej:j=i
      .subst ej
       rw [el] at e2
       cases e2
       qV⟨_,bK,by rw [aB,lz,if_pos (Nat.lt_succ_self _)]; rfl⟩
      .obtain ⟨zs2,hz2,lz2⟩:=al j l2 e2
       have nl:l2≠l:=fun z=>by
        subst z
        qV ej ((List.getElem?_inj (aq.mp e2).1 rd.nd).mp (e2.trans el.symm))
       z5⟨zs2,(bM nl).trans (S5 _ _ hz2),?_⟩
       rw [lz2]
       congr 1
       by_cases q1:j<i
       .rw [if_pos q1,if_pos (by om)]
       .rw [if_neg q1,if_neg (by om)]
   .rintro σ' H4 ⟨⟨u,rfl⟩,S4,al⟩ ht4
    rw [ao] at al
    show R2 _ _ _
    subst hR2
    z5 cg fun R2 hR2=>?_
    z5 dI (ZG (Tf (qP (List.replicate ls.length (.bl false)) rfl ht4 (by rw [aP,ao]) (by rw [aP,ll]; om) ?_ fun l7 H7 S7 f7 h7=>?_)))
    .intro i vx vy Hc R hi hy Sc r'
     rw [au] at hi
     cases el:ls[i]? with
     | none=>rw [el] at hi; cases hi
     | some l =>
      rw [el] at hi
      cases hi
      have li:=(aq.mp el).1
      x5⟨zs,hz,lz⟩:=al i l el
      rw [if_pos li] at lz
      rw [List.getElem?_replicate,if_pos li] at hy
      cases hy
      z5⟨_,rfl,l,zs,rfl,Sc _ _ hz,_,rfl,_,_,rfl,rfl,rfl,?_⟩
      rw [lz,decide_eq_true (by rfl)]
      qV r' Hc fun _ _ z=>z
    z5⟨l7,List.replicate ls.length false,rfl,by rw [h7,List.map_replicate],false,?_,?_⟩
    .have e:(List.replicate ls.length false).any id=false:=by
      rw [List.any_eq_false]
      intro x hx
      rw [(List.mem_replicate.mp hx).2]
      decide
     rw [e]; rfl
    show R2 _ _ _
    subst hR2
    have ht7:=S7 _ _ ht4
    have lst2:∀ l∈t::ls,∃ zs,H2 l=some (.lst zs):=fun l h=>by
     rcases List.mem_cons.mp h with rfl | h
     .exact ⟨_,ht⟩
     .obtain ⟨j,hj⟩:=aY h
      have lj:j<fss.length:=by rw [<- ll]; qV(aq.mp hj).1
      x5⟨zs,z,_⟩:=rd.at_ j l _ hj (aj lj)
      qV⟨zs,z⟩
    have fin:∀ H9,H9=upd H7 t (.lst (ls.map V.ref).reverse)->H9 hd=some (.lst [.ref t1,.ref t2])/\H9 zl=some (.lst [.ref gh,.ref e2])/\(∃ u11 u12 u13,[some (V.ref a),some (.ref r),some (.ref o),some (.ref gh),some (.ref lh),some (.ref hd),some (.ref lx),some ow,some (.int at_),some (.ref sp),some nw,some (.int n),some (.int m),some (.bl sm),some (.str "room"),some ow,some (.ref t),some (.ref gA),u]=[some (.ref a),some (.ref r),some (.ref o),some (.ref gh),some (.ref lh),some (.ref hd),some (.ref lx),some ow,some (.int at_),some (.ref sp),some nw,some (.int n),some (.int m),some (.bl sm),some (.str "room"),some ow,u11,u12,u13])/\Same G6 H9/\wR D.T_goal_rounds lamP La H9 (some c')/\(k+1<1->H9 t1=some (.lst (ls1.map V.ref))/\Rds K H9 ls1 fss1)/\(k+1<2->H9 t2=some (.lst (ls2.map V.ref))/\Rds K H9 ls2 fss2)/\H9 e2=some (.lst []):=by
     rintro H9 rfl
     have S9:Same (L2.wo (t::ls) H2) (upd H7 t (.lst (ls.map V.ref).reverse)):=fun b u e=>by
      x5⟨nb,e'⟩:=rO e
      qV(bM fun z=>nb (by rw [z]; qV aQ)).trans (S7 _ _ (S4 _ _ ((mz fun z=>nb (aJ _ z)).trans (S3 _ _ e'))))
     have out:∀ {b:Addr}{u:HO},H2 b=some u->b ∉ t::ls->upd H7 t (.lst (ls.map V.ref).reverse) b=some u:=fun e n=>S9 _ _ ((mz n).trans e)
     have nl:∀ {b:Addr}{u:HO},H2 b=some u->(∀ zs,u≠.lst zs)->b ∉ t::ls:=fun e n z=>by
      x5⟨zs,hz⟩:=lst2 _ z
      rw [hz] at e
      injection e with e
      qV n zs e.symm
     have l1:=Sq _ _ la'.1
     have l2:=Sq _ _ la'.2
     z5⟨out (Sq _ _ hhd) fun z=>(nh _ z).1 rfl,out (Sq _ _ hzl) fun z=>(nh _ z).2.1 rfl,⟨_,_,_,rfl⟩,(fun b u e=>out (SG2 _ _ e) fun z=>by rw [fG _ z] at e; cases e),⟨out l1 (nl l1 fun _ z=>by cases z),out l2 (nl l2 fun _ z=>by cases z)⟩,fun z=>absurd z (by om),fun z=>?_,out (Sq _ _ je) fun z=>(nh _ z).2.2 rfl⟩
     x5⟨a1,a2⟩:=j2 (by om)
     have o2:=oth z
     qV⟨out (Sq _ _ a1) (o2 _ aQ),((a2.same Sq).wo (fun l h=>o2 l (aJ _ h)) lst2).same S9⟩
    qV⟨_,rfl,t,_,rfl,ht7,fin _ rfl⟩
  .rintro σ' H' ⟨⟨u11,u12,u13,rfl⟩,SG',la',_,_,_⟩ _ _
   subst hR1
   dsimp only
   have SGw:Same G6 (L2.wo [D.T_goal_rounds,c'] H'):=fun b u e=>by
    rw [mz (by
     simp only [List.mem_cons,List.not_mem_nil,or_false,not_or]
     qV⟨(fun z=>by rw [z,g6] at e; cases e),(fun z=>by rw [z,gc] at e; cases e)⟩)]
    qV SG' _ _ e
   z5 fY ⟨_,rfl,_,rfl,_,rfl,o,lh,p',.int m,rms',rfl,⟨_,rfl⟩,hh'.same SG',by om,.inr ⟨gl,SG' _ _ h6,by om,gb,(fun z=>absurd (mno m m40) z),fun _=>⟨m,L,(x,y),fcss,some c',rfl,la',rn,hn.same SGw,hL,hm,fun t3 ls3 fss3 HG c3 S3 la3 ec ft fls nt ht rd ln ro=>?_⟩⟩⟩
   have SGG:=SGw.trans (S3.trans mD)
   z5⟨_,rfl,_,rfl,_,rfl,t3,r,gh,m,L,ls3,gl,fcss,fss3,rfl,ht,SGG _ _ hgh,mk HG gl ls3 fss3 SGG (rd.same mD) ln ro,fun H'' S''=>?_⟩
   have S6H:=SGG.trans S''
   x5⟨e1,e2⟩:=Zx (g:=nuD) (fun _=>rfl) (fun _=>by unfold nuD PyData.depth; decide) gl
   z5⟨true,rfl,?_⟩
   rw [if_pos rfl]
   z5⟨_,rfl,_,rfl,.list (gl.map nuD),.list (gl.map nuD),.lst (S6H _ _ h6) (xW gl),.lst (S6H _ _ hgh) (xW gl),e1,e1,?_⟩
   show Q (.bl (PyData.eqv _ _)) _
   rw [e2]
   qV hQ H''
end
~!law_fn {l:PySem.W.OpenLaw}{w:World}{K:Frag}{mg:Str->Option Value}{Pt:Addr} (T0:∃ D:Adr,D.T_goal_rounds=Pt/\Txt K mg D) (base:Heap) (hB:base.BuiltinsAt mg Pt) (f:Addr) (fd:FuncData) (F:Fun K JG JG Ot f fd) :
  cD l.prog w K mg base CX0 10 f fd Qx (Mj K Pt):=by
 x5⟨D,rfl,T⟩:=T0
 have mG:∀ base:Heap,OkF l.prog w K mg base 5 iR iU (qK K D):=fun base=>by
  have cW:OkF l.prog w K mg base 1 fL fQ gZ:=T.FZ.ok fun _ _ F=>Bt F T
  have d_:OkF l.prog w K mg base 1 iC iI gP:=T.I_.ok fun _ _ F=>Ge F T
  have gW:OkF l.prog w K mg base 2 jY jZ jB:=T.Tt.ok fun _ _ F=>NZ F T cW d_
  have kh:OkF l.prog w K mg base 1 oA n_ (nZ (K:=K)):=T.R_.ok fun _ _ F=>Oa F
  have QG:OkF l.prog w K mg base 3 zm zR JL:=T.acV.ok fun _ _ F=>abM F gW
  have M_:OkF l.prog w K mg base 2 iK jr (qY K):=T.CQ.ok fun _ _ F=>Ah F d_
  have oZ:OkF l.prog w K mg base 2 iK jr (Aj K):=T.CQ.ok fun _ _ F=>Ii F d_
  have qz:OkF l.prog w K mg base 3 jt jq (Az K):=T.G9.ok fun _ _ F=>DQ F T M_ gW
  have xG:OkF l.prog w K mg base 2 ou oh Ds:=T.QZ.ok fun _ _ F=>Pg F T kh
  have Ai:OkF l.prog w K mg base 4 pJ pN (P_ D):=T.VD.ok fun _ _ F=>Ra F T QG
  have dG:OkI l.prog w K mg base CX0 1 D.Hall_size fK (dZ D):=T.zK.ok fun _ F=>zA F T
  have dY:OkI l.prog w K mg base CX0 2 D.Hall_check_room cT (gJ D):=T.kJ.ok fun _ F=>pK F T cW dG
  have qp:OkI l.prog w K mg base CX0 3 D.Hall_offers jF (pF D):=T.Dd.ok fun _ F=>Dh F T dY
  qV T.Js.ok fun _ _ F=>Ht F T oZ qz xG Ai qp
 have qm:∀ a ns,OkF l.prog w K mg base 1 wD vW (yu K a ns):=fun a ns=>T.adi.ok fun _ _ F=>aaG F a ns
 have cW:OkF l.prog w K mg base 1 fL fQ gZ:=T.FZ.ok fun _ _ F=>Bt F T
 have Iz:OkF l.prog w K mg base 1 Ba Bq DW:=T.agg.ok fun _ _ F=>acD F T
 have d_:OkF l.prog w K mg base 1 iC iI gP:=T.I_.ok fun _ _ F=>Ge F T
 have jf:OkF l.prog w K mg base 2 nG m6 rm:=T.ZP.ok fun _ _ F=>VN F Iz
 have gW:OkF l.prog w K mg base 2 jY jZ jB:=T.Tt.ok fun _ _ F=>NZ F T cW d_
 have kh:OkF l.prog w K mg base 1 oA n_ (nZ (K:=K)):=T.R_.ok fun _ _ F=>Oa F
 have ac6:OkF l.prog w K mg base 3 Ab yq (uV (K:=K) fun a b=>a+b):=T.ac4.ok fun _ _ F=>aaW F gW
 have aaY:OkF l.prog w K mg base 3 vD uI (uV (K:=K) fun a b=>a - b):=T.abI.ok fun _ _ F=>Wq F gW
 have jR:OkF l.prog w K mg base 1 lA lg uP:=T.Vx.ok fun _ _ F=>Q6 F T
 have iJ:OkF l.prog w K mg base 2 jA jk (iB (K:=K)):=T.PJ.ok fun _ _ F=>Pb F T cW d_
 have iV:OkX l.prog w K mg base 3 iT iY (iM (K:=K)):=T.Mf.okX fun _ _ F=>Hu F T jR iJ
 have yr:OkX l.prog w K mg base 2 eG eU jM:=T.zU.okX fun _ _ F=>xq F T jR
 have HW:OkX l.prog w K mg base 3 fZ f9 (pq (K:=K)):=T.Dg.okX fun _ _ F=>B_ F T iJ kh
 have jL:OkI l.prog w K mg base (CXO l.prog w) 4 D.Door_init jO (jH (K:=K) D):=T.Lg.ok fun _ F=>Ls F T iV
 have su:OkI l.prog w K mg base (CXO l.prog w) 5 D.Sure_init lZ (rT (K:=K) D):=T.LC.ok fun _ F=>Je F T jL yr
 have tX:OkI l.prog w K mg base CX0 1 D.Door_ways mJ (oY D):=T.JD.ok fun _ F=>Lb F T
 have M_:OkF l.prog w K mg base 2 iK jr (qY K):=T.CQ.ok fun _ _ F=>Ah F d_
 have oZ:OkF l.prog w K mg base 2 iK jr zV:=T.CQ.ok fun _ _ F=>(Ah F d_).imp fun _ _ _ _ h=>XS h
 have aa3:OkF l.prog w K mg base 3 tO uo zB:=T.f_total.ok fun _ _ F=>Yk F T oZ gW
 have Xl:OkX l.prog w K mg base 4 jd ju mW:=T.G8.okX fun _ _ F=>Dw F T yr HW aa3.wild
 have Ux:OkX l.prog w K mg base 4 jm jw (wj K):=T.Gr.okX fun _ _ F=>Fj F T ac6.wild
 have eX:OkI l.prog w K mg base (CXO l.prog w) 5 D.Mixed_init gO (gM K D):=T.Gs.ok fun _ F=>GF F T jL Xl Ux
 have sE:OkI l.prog w K mg base (CXO l.prog w) 6 D.Toss_init mC (sG K D):=T.Ke.ok fun _ F=>Lq F T iV HW aaY.wild eX
 have rB:OkI l.prog w K mg base (CXO l.prog w) 6 D.Even_init mO (rF K D):=T.Ln.ok fun _ F=>KY F T eX
 have qI:OkF l.prog w K mg base 3 jo ji (mK (K:=K)):=T.Hg.ok fun _ _ F=>Dl F T iJ kh
 have rY:OkF l.prog w K mg base 2 j9 j7 nW:=T.Kc.ok fun _ _ F=>GP F T jR
 have oM:OkF l.prog w K mg base 2 iw ig (jN D):=T.Cp.ok fun _ _ F=>Ao F T tX
 have vK:OkF l.prog w K mg base 3 mH lV (oR D):=T.MP.ok fun _ _ F=>Jr F T oM
 have O9:OkI l.prog w K mg base CX0 4 D.Hall_init lX (rN K D):=T.Jh.ok fun _ F=>Jo F T qI rY vK
 have dG:OkI l.prog w K mg base CX0 1 D.Hall_size fK (dZ D):=T.zK.ok fun _ F=>zA F T
 have dH:OkF l.prog w K mg base 1 iy g_ gj:=T.Zn.ok fun _ _ F=>Vo F T
 have CZ:OkF l.prog w K mg base 2 ud uO Fi:=T.aaj.ok fun _ _ F=>Yo F T dH
 have L_:OkF l.prog w K mg base 8 uZ tD (Ew K D):=T.abz.ok fun _ _ F=>YH F T su eX sE rB
 have Qw:OkF l.prog w K mg base 9 yZ yG (Lw K D):=T.adI.ok fun _ _ F=>abh F T CZ L_ O9.wild
 have Zw:OkF l.prog w K mg base 3 Et Er P0:=T.agN.ok fun _ _ F=>ad2 F T jf
 have Kh:OkF l.prog w K mg base 3 vp u_ E_:=T.ab4.ok fun _ _ F=>YF F T dH jf
 have Rp:OkF l.prog w K mg base 4 zx zM C_:=T.adp.ok fun _ _ F=>abK F T dH jf Zw
 have K7:∀ a ns,OkF l.prog w K mg base 5 tQ ux (Dm K a ns):=fun a ns=>T.aaK.ok fun _ _ F=>Yz F T a ns (qm a ns) dH Rp
 have LQ:OkF l.prog w K mg base 2 t_ vA Ez:=T.abm.ok fun _ _ F=>Wm F T dH
 have ql:OkX l.prog w K mg base 2 jU j5 (Jf D):=T.Jy.okX fun _ _ F=>GQ F T cW
 have qt:OkI l.prog w K mg base CX0 1 D.NoRoom_init jD (tV D.NoRoom):=T.Es.ok fun _ F=>Ef F T
 have dY:OkI l.prog w K mg base CX0 2 D.Hall_check_room cT (gJ D):=T.kJ.ok fun _ F=>pK F T cW dG
 have lB:OkI l.prog w K mg base (CXO l.prog w) 3 D.Hall_check_room cT (Ay D):=T.kJ.ok fun _ F=>Dv F T cW dG qt
 have qF:OkX l.prog w K mg base 4 gG iQ (NP D):=T.Kv.okX fun _ _ F=>cD.or (Hh F T dG dY).wild (DR F T dG lB) (by decide)
 have mq:OkX l.prog w K mg base 8 fV iu (sH K D):=T.GZ.okX fun _ _ _ F hc hC=>Ej F hc hC T hB mG qF ql
 have vC:OkF l.prog w K mg base 2 mZ lW (Qy K):=T.Pa.ok fun _ _ F=>LR F T Iz
 have rM:OkF l.prog w K mg base 3 j6 j8 (Ru K):=T.Ju.ok fun _ _ F=>Hz F T vC
 have sI:OkF l.prog w K mg base 4 jV jX (Qh K):=T.K_.ok fun _ _ F=>Hj F T rM
 have QL:OkF l.prog w K mg base 1 yc yN (Jg K):=T.acX.ok fun _ _ F=>aaJ F T
 have Ly:OkF l.prog w K mg base 1 vo uU (Gn K):=T.aaD.ok fun _ _ F=>Wc F T
 have Qk:OkF l.prog w K mg base 1 zX zj (Jx K):=T.acT.ok fun _ _ F=>aak F T
 have JZ:OkF l.prog w K mg base 2 uG tZ Fx:=T.abr.ok fun _ _ F=>Zc F T dH
 have CV:OkF l.prog w K mg base 5 uE uQ (Ep K D):=T.abb.ok fun _ _ F=>Yi F T sI Qk Ly QL
 have vV:OkF l.prog w K mg base 9 pQ pI (Qj D):=T.Vk.ok fun _ _ F=>Qq F T mq
 qV acU F T qm LQ Kh K7 Qw dH JZ mq.calm vV CV
end K52
open PySem PySem.W PyProof.Rows
set_option maxRecDepth 100000 in
set_option maxHeartbeats 0 in
theorem PySem.Challenge.cw_chancehall_k52_goal_rounds_holds : PySem.Challenge.rw_chancehall_k52_goal_rounds.Holds := by
 w_on
 z5 holds_law H52.wsd fun said=>?_
 z5 holds_open (q:=H52.qv) (loose:=[]) (XP:=XL H52.qv []) (YP:=InK H52.KHT) H52.left (InK.of H52.asK) InK.keeps H52.hX XL.keeps (by rfl) (by rfl) (by rfl) H52.hR (by rfl) said (by decide +kernel) ⟨rfl,rfl,rfl,rfl,rfl,by decide +kernel⟩ ?hw ?hc
 (case hw=>w_witness2)
 have hkf:PySem.Challenge.rw_chancehall_k52_goal_rounds=PySem.Challenge.rw_chancehall_k52_goal_rounds/\H52.KH=H52.KH:=by
  k_fill
  qV⟨rfl,rfl⟩
 clear hkf
 z5 L2.ac3 (l:=PySem.Challenge.rw_chancehall_k52_goal_rounds) (k:=10) (x := "_law_script") 218 220 rfl rfl ⟨rfl,by decide,by decide⟩ (fun w h Y=>L2.WQ (K:=H52.KH w.params) (show (H52.KH w.params++[(218,L2.Once.fE)]).In h from Y) (by kernel_rfl)) (fun w=>by kernel_rfl) (fun w=>by kernel_rfl) ?F
 case F =>
  intro w mg fa h KX G hmg
  z5⟨K52.Ot,?_,fun base f fd hB F=>K52.law_fn ?T base hB f fd F⟩
  .exact L2.q_f 1 fun _ _ _ _ _ _ _=>rfl
  case T =>
   z5⟨⟨31,44,56,68,80,99,288,309,328,347,364,449,116,117,271,278,285,306,325,344,361,406,413,420,427,434,441,446,96,218⟩,rfl,⟨L2.q_c,L2.q_c,L2.q_c,L2.q_c,L2.q_c,L2.q_c,L2.q_c,L2.q_c,L2.q_c,L2.q_c,L2.q_c,L2.q_c,L2.q_c,L2.q_c,L2.q_x,L2.q_x,L2.q_x,L2.q_x,L2.q_5,by k_is,by k_is,by k_is,by k_is,by k_is,by k_is,by k_is,L2.q_g,L2.q_g,L2.q_t,L2.q_t,L2.q_M,L2.q_4,L2.q_I,L2.q_m,L2.q_m,L2.q_n,L2.q_n,L2.q_n,L2.q_n,L2.q_n,L2.q_n,L2.q_M,L2.q_4,L2.q_I,L2.q_m,L2.q_m,L2.q_n,L2.q_n,L2.q_n,L2.q_n,L2.q_n,L2.q_n,L2.q_M,L2.q_4,L2.q_I,L2.q_m,L2.q_m,L2.q_n,L2.q_n,L2.q_n,L2.q_n,L2.q_n,L2.q_n,L2.q_M,L2.q_4,L2.q_I,L2.q_m,L2.q_m,L2.q_n,L2.q_n,L2.q_n,L2.q_n,L2.q_n,L2.q_n,L2.q_M,L2.q_4,L2.q_I,L2.q_m,L2.q_m,L2.q_n,L2.q_n,L2.q_n,L2.q_n,L2.q_n,L2.q_n,L2.q_M,L2.q_4,L2.q_I,L2.q_m,L2.q_m,L2.q_m,L2.q_m,L2.q_m,L2.q_m,L2.q_n,L2.q_n,L2.q_n,L2.q_n,L2.q_n,L2.q_n,L2.q_E,L2.q_S,L2.q_5,by k_is,by k_is,L2.q_n,L2.q_b,L2.q_B,L2.q_h 3 fun _ _ _ _ _ _ _ _ _=>rfl,L2.q_B,L2.q_h 1 fun _ _ _ _ _ _ _=>rfl,L2.q_B,L2.q_h 2 fun _ _ _ _ _ _ _ _=>rfl,L2.q_B,L2.q_h 4 fun _ _ _ _ _ _ _ _ _ _=>rfl,L2.q_B,L2.q_h 4 fun _ _ _ _ _ _ _ _ _ _=>rfl,L2.q_B,L2.q_h 6 fun _ _ _ _ _ _ _ _ _ _ _ _=>rfl,L2.q_B,L2.q_h 4 fun _ _ _ _ _ _ _ _ _ _=>rfl,L2.q_B,L2.q_h 3 fun _ _ _ _ _ _ _ _ _=>rfl,L2.q_B,L2.q_h 1 fun _ _ _ _ _ _ _=>rfl,L2.q_B,L2.q_h 1 fun _ _ _ _ _ _ _=>rfl,L2.q_B,L2.q_h 2 fun _ _ _ _ _ _ _ _=>rfl,L2.q_B,L2.q_h 2 fun _ _ _ _ _ _ _ _=>rfl,L2.q_B,L2.q_h 3 fun _ _ _ _ _ _ _ _ _=>rfl,L2.q_B,L2.q_h 2 fun _ _ _ _ _ _ _ _=>rfl,L2.q_h 2 fun _ _ _ _ _ _ _ _=>rfl,L2.q_z,L2.q_z,L2.q_z,L2.q_z,L2.q_z,L2.q_z,L2.q_z,L2.q_z,L2.q_z,L2.q_z,L2.q_z,L2.q_z,L2.q_z,L2.q_z,L2.q_z,L2.q_f 1 fun _ _ _ _ _ _ _=>rfl,L2.q_f 1 fun _ _ _ _ _ _ _=>rfl,L2.q_f 2 fun _ _ _ _ _ _ _ _=>rfl,L2.q_f 2 fun _ _ _ _ _ _ _ _=>rfl,L2.q_f 1 fun _ _ _ _ _ _ _=>rfl,L2.q_f 2 fun _ _ _ _ _ _ _ _=>rfl,L2.q_f 2 fun _ _ _ _ _ _ _ _=>rfl,L2.q_f 2 fun _ _ _ _ _ _ _ _=>rfl,L2.q_f 2 fun _ _ _ _ _ _ _ _=>rfl,L2.q_f 1 fun _ _ _ _ _ _ _=>rfl,L2.q_f 1 fun _ _ _ _ _ _ _=>rfl,L2.q_f 1 fun _ _ _ _ _ _ _=>rfl,L2.q_f 2 fun _ _ _ _ _ _ _ _=>rfl,L2.q_f 2 fun _ _ _ _ _ _ _ _=>rfl,L2.q_f 1 fun _ _ _ _ _ _ _=>rfl,L2.q_f 2 fun _ _ _ _ _ _ _ _=>rfl,L2.q_f 3 fun _ _ _ _ _ _ _ _ _=>rfl,L2.q_f 3 fun _ _ _ _ _ _ _ _ _=>rfl,L2.q_C 3 fun _ _ _ _ _ _ _ _ _=>rfl,L2.q_f 1 fun _ _ _ _ _ _ _=>rfl,L2.q_f 2 fun _ _ _ _ _ _ _ _=>rfl,L2.q_f 1 fun _ _ _ _ _ _ _=>rfl,L2.q_f 1 fun _ _ _ _ _ _ _=>rfl,L2.q_f 1 fun _ _ _ _ _ _ _=>rfl,L2.q_f 1 fun _ _ _ _ _ _ _=>rfl,L2.q_f 1 fun _ _ _ _ _ _ _=>rfl,L2.q_f 1 fun _ _ _ _ _ _ _=>rfl,L2.q_f 2 fun _ _ _ _ _ _ _ _=>rfl,L2.q_f 2 fun _ _ _ _ _ _ _ _=>rfl,L2.q_f 2 fun _ _ _ _ _ _ _ _=>rfl,L2.q_f 2 fun _ _ _ _ _ _ _ _=>rfl,L2.q_f 2 fun _ _ _ _ _ _ _ _=>rfl,L2.q_f 2 fun _ _ _ _ _ _ _ _=>rfl,L2.q_f 1 fun _ _ _ _ _ _ _=>rfl,L2.q_f 2 fun _ _ _ _ _ _ _ _=>rfl,L2.q_f 2 fun _ _ _ _ _ _ _ _=>rfl,L2.q_f 2 fun _ _ _ _ _ _ _ _=>rfl,L2.q_f 2 fun _ _ _ _ _ _ _ _=>rfl,L2.q_f 4 fun _ _ _ _ _ _ _ _ _ _=>rfl,L2.q_f 3 fun _ _ _ _ _ _ _ _ _=>rfl,L2.q_f 4 fun _ _ _ _ _ _ _ _ _ _=>rfl,L2.q_f 3 fun _ _ _ _ _ _ _ _ _=>rfl,L2.q_f 3 fun _ _ _ _ _ _ _ _ _=>rfl,L2.q_f 2 fun _ _ _ _ _ _ _ _=>rfl,L2.q_f 2 fun _ _ _ _ _ _ _ _=>rfl,L2.q_f 1 fun _ _ _ _ _ _ _=>rfl,L2.q_f 3 fun _ _ _ _ _ _ _ _ _=>rfl,L2.q_f 2 fun _ _ _ _ _ _ _ _=>rfl,L2.q_f 4 fun _ _ _ _ _ _ _ _ _ _=>rfl,L2.q_f 3 fun _ _ _ _ _ _ _ _ _=>rfl⟩⟩
#print axioms PySem.Challenge.cw_chancehall_k52_goal_rounds_holds
