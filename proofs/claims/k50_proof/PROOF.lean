import PyProof.Rows.All
import Wide.All
import OpenK.AllK
import Wide.FinOn
import Lean
import PyProof.EqAt
import PyProof.EqKinds
import PyProof.TupleCall
import PyProof.EqLayable
import KE.KIntText
import PyProof.EnumMake
import PyProof.EnumStmt
import PyProof.EnumFor
import PyProof.Rows.EnumRows
import PyProof.ExcInit
import PyProof.ExcClass2
import PyProof.InstStoreFacts
import KE.KLam
import KE.KNestM
import PySem.Challenge.RW_chancehall_k50_best_rounds
def aj := @List.getElem?_eq_getElem
def ao := @List.length_map
def aq := @List.getElem?_eq_some_iff
def au := @List.getElem?_map
def aA := @List.getD_eq_getElem?_getD
def aB := @List.length_append
def aC := @List.mem_of_getElem?
def aD := @List.getElem?_append_right
def aF := @List.getElem?_append_left
def aG := @Nat.le_refl
def aH := @PySem.Heap.get?_push_of_some
def aJ := @List.mem_cons_of_mem
def aK := @PySem.Heap.lt_size
def aM := @List.take_of_length_le
def aN := @Nat.le_trans
def aO := @List.length_replicate
def aP := @List.mem_cons_self
def aQ := @List.take_length
def aR := @List.mem_append_right
def aU := @Nat.ne_of_lt
def aV := @Nat.lt_of_lt_of_le
def aW := @List.getElem_mem
def aX := @List.getElem?_of_mem
def aY := @Int.fmod_eq_emod_of_nonneg
def aZ := @PySem.Heap.get?_push_size
def bh := @List.size_toArray
def bw := @List.length_take
def bA := @Nat.zero_le
def bC := @List.map_append
def bD := @Bool.false_ne_true
open PySem.W (Frag)
set_option Elab.async false
set_option linter.all false
set_option maxRecDepth 100000
set_option maxHeartbeats 4000000
namespace L2.Once
open PySem PySem.W
def z:Pos:=⟨0,0,0,0⟩
noncomputable def tE:Obj:=⟨.type "tuple",none,.seq ⟨[]⟩ 0,⟨[]⟩⟩
noncomputable def fE:Obj:=⟨.none,none,.fields ⟨[]⟩,⟨[]⟩⟩
noncomputable def tN (t:Nat) (l:List Str):Obj:=⟨.type "tuple",none,.seq ⟨(l.zipIdx t).map fun x=>.str x.1 x.2⟩ 0,⟨[]⟩⟩
noncomputable def cO (n q:Str) (t:Nat) (l a f:Int) (r u:Nat):Obj:=⟨.type "code",none,.fields ⟨[.str n t,.str q (t + 1),.str "/claim/cut.py" (t + 2),.int l 0,.int a 0,.int 0 0,.int 0 0,.int f 0,.ref r,.bool true,.int 181 0,.ref (r + 1),.none,.ref (r + 2),.ref (r + 3),.ref (r + 4),.int u 0,.int l 0,.str "/claim/cut.py" (u + 1)]⟩,⟨[]⟩⟩
def o11:Obj:={ cls:=.type "tuple",data:=.seq #[] }
def o12:Obj:={ cls:=.none,data:=.fields #[] }
def o13:Obj:={ cls:=.type "code",data:=.fields #[.str "<module>" 182,.str "<module>" 183,.str "/claim/cut.py" 184,.int 1 0,.int 0 0,.int 0 0,.int 0 0,.int 0 0,.ref 11,.bool false,.int 181 0,.ref 12,.none,.none,.none,.none,.int 185 0,.int 1 0,.str "/claim/cut.py" 186] }
def o14:Obj:={ cls:=.type "frame",slots:=#[some (.ref 13),some (.ref 3),some (.ref 3),none,some (.str "__main__" 164),none,some (.ref 0)] }
noncomputable def cP (n q:Str) (t:Nat) (l a f:Int) (r u:Nat):Obj:=⟨.type "code",none,.fields ⟨[.str n t,.str q (t + 1),.str "/claim/cut.py" (t + 2),.int l 0,.int a 0,.int 0 0,.int 0 0,.int f 0,.ref r,.bool true,.int 181 0,.ref (r + 1),.none,.none,.none,.ref (r + 2),.int u 0,.int l 0,.str "/claim/cut.py" (u + 1)]⟩,⟨[]⟩⟩
noncomputable def dE (P:Params) (x:Str) (t:Nat) (v:Value):DictEntry:=⟨PyData.keyHash P x,.str x t,v⟩
abbrev lf (o:Obj):BT:=.node o .nil .nil
noncomputable def tr (P:Params):BT:=.node (boot_o_0 P)
 (.node (boot_o_1 P) (.node (boot_o_3 P) (lf (boot_o_7 P)) (lf o11)) (.node (boot_o_5 P) (lf (boot_o_9 P)) (lf o13)))
 (.node (boot_o_2 P) (.node (boot_o_4 P) (lf (boot_o_8 P)) (lf o12)) (.node (boot_o_6 P) (lf (boot_o_10 P)) (lf o14)))
noncomputable def S0 (w:World) (os:OsState):Shared:=⟨boot_heap w.params,Array.mk [],boot_drawn,boot_toks,os⟩
noncomputable def Sa (w:World) (os:OsState):Shared:=⟨⟨Array.mk [boot_o_0 w.params,boot_o_1 w.params,boot_o_2 w.params,boot_o_3 w.params,boot_o_4 w.params,boot_o_5 w.params,boot_o_6 w.params,boot_o_7 w.params,boot_o_8 w.params,boot_o_9 w.params,boot_o_10 w.params,o11,o12,o13,o14],{}⟩,Array.mk [],{},187,os⟩
noncomputable def Sb (w:World) (os:OsState):SharedT:=⟨tr w.params,15,{},⟨[]⟩,{},187,os⟩
def env (p:Program):Env:={ scope:=p.main.scope,locals:=mainNs,globals:=mainNs,cells:=[],code:=.ref 13,frame:=some 14 }
def cE (p:Program):Code:=.body (behindTheImports p) (env p)
abbrev ann:Option Value:=some (.ref 6)
abbrev B:List Frame:=[topFrame z]
theorem size (w:World):((boot_heap w.params).isNs mainGlobals && (Array.mk [] : Array GenState).size == 0,(boot_heap w.params).objs.size,(boot_heap w.params).nsMap mainGlobals "__annotations__") = (true,11,ann):=by
 rw [Fast.te8920871248978507458]; kernel_rfl
def nA (p:Program) (w:World) (M:Nat) (S:SharedT) (l:List Stmt) (q:Pos) (G:Shared->Prop):Prop:=∃ s,topRun treeTable p w 11 ann M S.abs (restOf l (env p) (cE p) q B) = some s/\G s
theorem nA.cut {p:Program} {w:World} {n M:Nat} {S S':SharedT} {l1 l2:List Stmt} {q q':Pos} {G:Shared->Prop} (h:segRunT treeTable p w 11 ann 1 n S (piecesOf l1 (env p) (cE p) q B) = some (.next,S',cE p,q')) (k:nA p w M S' l2 q' G):nA p w (n + M) S (l1 ++ l2) q G :=
 let ⟨s,a,b⟩:=k
 ⟨s,piece_app (segRun_of h) a,b⟩
theorem nA.cutAt {p:Program} {w:World} {n m M:Nat} {S S':SharedT} {l:List Stmt} {q q':Pos} {G:Shared->Prop} (h:segRunT treeTable p w 11 ann 1 n S (piecesOf (l.take m) (env p) (cE p) q B) = some (.next,S',cE p,q')) (k:nA p w M S' (l.drop m) q' G):nA p w (n + M) S l q G:=by
 have:=nA.cut h k
 rwa [List.take_append_drop] at this
def Good {α:Type} (p q:Program) (loose:List Str) (Xt:Shared->Bool) (Yf:Shared->α) (Ya:World->α) (g0:Bool) (w:World) (s:Shared):Prop :=
 (staticsOk (importedModules p.main.body) (boot_heap w.params) s.heap && namesBound p s.heap && gensDone s && laidKept (boot_heap w.params) s.heap,openSeen q loose (importedModules p.main.body) Xt g0 s,Yf s) = (true,openGood q loose,Ya w)
theorem nA.last {p q:Program} {loose:List Str} {Xt:Shared->Bool} {α:Type} {Yf:Shared->α} {Ya:World->α} {g0:Bool} {w:World} {n k:Nat} {S:SharedT} {l:List Stmt} {q0 e:Pos}
  (big:(segRunT treeTable p w 11 ann 1 n S (piecesOf l (env p) (cE p) q0 B)).map (fun r =>
    (r.1,r.2.2.1,r.2.2.2,(topRun treeTable p w 11 ann k r.2.1.abs ⟨doneF .next,cE p,e,B⟩).map fun s =>
     (staticsOk (importedModules p.main.body) (boot_heap w.params) s.heap && namesBound p s.heap && gensDone s && laidKept (boot_heap w.params) s.heap,openSeen q loose (importedModules p.main.body) Xt g0 s,Yf s))) =
   some (.next,cE p,e,some (true,openGood q loose,Ya w))):nA p w (n + k) S l q0 (Good p q loose Xt Yf Ya g0 w):=by
 obtain ⟨⟨f,sT,c,ps⟩,r1,r2⟩:=Option.map_eq_some_iff.mp big
 obtain ⟨rfl,rfl,rfl,r3⟩ : f = .next/\c = cE p/\ps = e/\_:=by simpa only [Prod.mk.injEq] using r2
 obtain ⟨s,t1,t2⟩:=Option.map_eq_some_iff.mp r3
 have q1:=piece_app (rest:=[]) (segRun_of r1) (piece_nil t1)
 rw [List.append_nil] at q1
 exact ⟨s,q1,t2⟩
theorem Ss {p q:Program} {loose:List Str} {Xt:Shared->Bool} {α:Type} {Yf:Shared->α} {Ya:World->α} {N:Nat} {g0:Bool} {a b M:Nat}
  (open_:∀ w:World,(fencedOpening treeTable p w N).map (fun s=>(s.heap,s.gens,s.drawn,s.toks)) = some (boot_heap w.params,Array.mk [],boot_drawn,boot_toks))
  (pre:∀ w:World,(fun os=>topGo treeTable p w 11 ann a (S0 w os) (topStub p)) = fun os=>some (Sa w os,⟨denote treeTable (cE p),cE p,z,B⟩))
  (block:∀ w:World,(fun os=>segRun treeTable p w 11 ann 1 b (Sa w os) (blockOf (behindTheImports p) (env p) (cE p) z B)) = fun os=>some (.next,(Sb w os).abs,cE p,z))
  (ends:∀ (w:World) (os:OsState),nA p w M (Sb w os) (behindTheImports p) z (Good p q loose Xt Yf Ya g0 w))
  (le:Nat.ble (a + (b + M)) N = true):LeftO p q loose Xt Yf Ya N g0:=fun w=>by
 obtain ⟨⟨h,gs,d,ks,os⟩,e1,e2⟩:=Option.map_eq_some_iff.mp (open_ w)
 obtain ⟨rfl,rfl,rfl,rfl⟩ : h = boot_heap w.params/\gs = Array.mk []/\d = boot_drawn/\ks = boot_toks:=by simpa using e2
 obtain ⟨z1,z2,z3⟩ : _/\_/\_:=by simpa only [Prod.mk.injEq] using size w
 obtain ⟨s,q1,t2⟩:=ends w os
 obtain ⟨l1,l2,l3⟩ : _/\_/\_:=by simpa only [Good,Prod.mk.injEq] using t2
 have q2:=go_top (congrFun (pre w) os) (piece_block (congrFun (block w) os) q1)
 have q3:=topRun_mono (N - (a + (b + M))) _ _ _ _ q2
 rw [show a + (b + M) + (N - (a + (b + M))) = N by have:=Nat.le_of_ble_eq_true le; omega] at q3
 have t:topFrom treeTable p w N ⟨boot_heap w.params,Array.mk [],boot_drawn,boot_toks,os⟩ = some s:=by
  unfold topFrom
  dsimp only
  rw [z1,z2,z3,show topRun treeTable p w 11 ann N ⟨boot_heap w.params,Array.mk [],boot_drawn,boot_toks,os⟩ (topStub p) = some s from q3]
  show (match staticsOk (importedModules p.main.body) (boot_heap w.params) s.heap && namesBound p s.heap && gensDone s && laidKept (boot_heap w.params) s.heap with | true=>_ | false=>_) = _
  rw [l1]
 unfold openEnds
 rw [e1]
 show (topFrom treeTable p w N _).map _ = _
 rw [t]
 exact congrArg some (Prod.ext l2 l3)
end L2.Once
namespace L2
open PySem
def gA (s:Stmt):Arguments:=match s with
 | .FunctionDef _ a _ _ _ _ _ _ _ _=>a
 | _=>{ posonlyargs:=[],args:=[],vararg:=none,kwonlyargs:=[],kw_defaults:=[],kwarg:=none,defaults:=[] }
def eE (s:Stmt):List Stmt:=match s with
 | .FunctionDef _ _ b _ _ _ _ _ _ _=>b
 | _=>[]
def bN (s:Stmt):Scope:=match s with
 | .FunctionDef _ _ _ _ _ _ sc _ _ _=>sc
 | _=>{ kind:=.function,names:=[],isGenerator:=false,isCoroutine:=false }
end L2
namespace K50
open PySem L2
def top (i:Nat):Stmt:=PySem.Challenge.pw_chancehall_k50_best_rounds.main.body.getD i (.Pass ⟨0,0,0,0⟩)
def eN (i j:Nat):Stmt:=match top i with | .ClassDef _ _ _ b _ _ _ _ _ _ _=>b.getD j (.Pass ⟨0,0,0,0⟩) | _=>.Pass ⟨0,0,0,0⟩
end K50
namespace H50
open PySem PySem.W L2 L2.Once K50
abbrev p:Program:=PySem.Challenge.pw_chancehall_k50_best_rounds
noncomputable section
noncomputable def fO (n q:Str) (s:Stmt) (m:Value) (c:Nat):Obj:=⟨.type "function",none,.func (fnOf n q (gA s) (eE s) (bN s) .none .none .none m none (.ref c) .none),⟨[]⟩⟩
noncomputable def fT (n q:Str) (s:Stmt):Obj:=⟨.none,none,.func { fnOf n q (gA s) (eE s) (bN s) .none .none .none .none none .none .none with globals:=0,builtins:=0 },⟨[]⟩⟩
def af2 (P:Params):Obj:=⟨(.type "dict"),none,(.dict ⟨dE P "__name__" 165 (.str "law_chancehall_k50_best_rounds" 879) :: dE P "__doc__" 166 .none :: dE P "__package__" 167 .none :: dE P "__loader__" 168 (.builtin "__main__.__loader__#opaque") :: dE P "__spec__" 169 .none :: dE P "__annotations__" 170 (.ref 6) :: dE P "__builtins__" 171 (.ref 4) :: dE P "__file__" 173 (.str "/claim/cut.py" 172) :: dE P "__cached__" 174 .none :: dE P "_wall" 193 (.ref 21) :: dE P "HallError" 213 (.ref 31) :: dE P "NoNumber" 229 (.ref 44) :: dE P "NoName" 245 (.ref 56) :: dE P "NoChance" 261 (.ref 68) :: dE P "NoShare" 277 (.ref 80) :: dE P "NoText" 293 (.ref 92) :: dE P "NoRow" 318 (.ref 111) :: dE P "NoRoom" 343 (.ref 130) :: dE P "NoDoor" 368 (.ref 149) :: dE P "NoPlan" 393 (.ref 168) :: dE P "is_whole" 402 (.ref 177) :: dE P "divisor" 413 (.ref 184) :: dE P "NOUGHT" 418 (.ref 185) :: dE P "ONE" 421 (.ref 186) :: dE P "ratio" 430 (.ref 193) :: dE P "is_ratio" 439 (.ref 200) :: dE P "plus" 447 (.ref 207) :: dE P "minus" 455 (.ref 214) :: dE P "times" 463 (.ref 221) :: dE P "over" 471 (.ref 228) :: dE P "under" 479 (.ref 235) :: dE P "level" 487 (.ref 240) :: dE P "total" 495 (.ref 247) :: dE P "greatest" 504 (.ref 254) :: dE P "behind_door" 512 (.ref 259) :: dE P "raised_look" 522 (.ref 266) :: dE P "MOST" 526 (.int 40 525) :: dE P "check_many" 533 (.ref 273) :: dE P "lowered" 541 (.ref 280) :: dE P "best_round" 547 (.ref 285) :: dE P "rounds_behind" 557 (.ref 292) :: dE P "best_rounds" 566 (.ref 299) :: dE P "LONGEST_WORD" 570 (.int 8 569) :: dE P "is_word" 576 (.ref 304) :: dE P "check_head" 586 (.ref 311) :: dE P "check_room_name" 593 (.ref 318) :: dE P "check_chance" 600 (.ref 325) :: dE P "check_pairs" 606 (.ref 330) :: dE P "joined_ways" 612 (.ref 335) :: dE P "Door" 659 (.ref 366) :: dE P "Sure" 686 (.ref 387) :: dE P "Mixed" 713 (.ref 406) :: dE P "Toss" 741 (.ref 425) :: dE P "Even" 763 (.ref 442) :: dE P "check_share" 772 (.ref 451) :: dE P "numbers_of" 782 (.ref 458) :: dE P "numbered_ways" 793 (.ref 465) :: dE P "offers_of" 804 (.ref 472) :: dE P "Hall" 878 (.ref 527) :: dE P "_law_cell" 888 (.ref 538) :: dE P "_law_stream" 900 (.ref 545) :: dE P "_law_gcd" 910 (.ref 552) :: dE P "_law_ratio" 919 (.ref 559) :: dE P "_law_is_ratio" 927 (.ref 566) :: dE P "_law_are_ratios" 933 (.ref 571) :: dE P "_law_same" 941 (.ref 578) :: dE P "_law_names" 947 (.ref 583) :: dE P "_law_share" 957 (.ref 590) :: dE P "_law_pay" 967 (.ref 597) :: dE P "_law_door" 973 (.ref 602) :: dE P "_law_doors" 979 (.ref 607) :: dE P "_law_built" 985 (.ref 612) :: dE P "_law_hall" 991 (.ref 617) :: dE P "_law_chosen" 1002 (.ref 624) :: dE P "_law_look" 1016 (.ref 631) :: dE P "_law_below" 1024 (.ref 638) :: dE P "_law_sizes" 1032 (.ref 645) :: dE P "_law_are_rounds" 1038 (.ref 650) :: dE P "_law_right" 1044 (.ref 655) :: []⟩ 79),⟨[]⟩⟩
noncomputable def acK:Obj:=⟨.none,none,(.fields ⟨(.int 1 0) :: (.int 0 0) :: (.ref 20) :: (.int 5 0) :: (.int 0 0) :: (.ref 27) :: (.int 7 0) :: (.int 0 0) :: (.ref 40) :: (.int 9 0) :: (.int 0 0) :: (.ref 52) :: (.int 11 0) :: (.int 0 0) :: (.ref 64) :: (.int 13 0) :: (.int 0 0) :: (.ref 76) :: (.int 15 0) :: (.int 0 0) :: (.ref 88) :: (.int 17 0) :: (.int 0 0) :: (.ref 100) :: (.int 22 0) :: (.int 0 0) :: (.ref 119) :: (.int 27 0) :: (.int 0 0) :: (.ref 138) :: (.int 32 0) :: (.int 0 0) :: (.ref 157) :: (.int 38 0) :: (.int 0 0) :: (.ref 176) :: (.int 40 0) :: (.int 0 0) :: (.ref 183) :: (.int 51 0) :: (.int 0 0) :: (.ref 192) :: (.int 60 0) :: (.int 0 0) :: (.ref 199) :: (.int 68 0) :: (.int 0 0) :: (.ref 206) :: (.int 70 0) :: (.int 0 0) :: (.ref 213) :: (.int 72 0) :: (.int 0 0) :: (.ref 220) :: (.int 74 0) :: (.int 0 0) :: (.ref 227) :: (.int 76 0) :: (.int 0 0) :: (.ref 234) :: (.int 79 0) :: (.int 0 0) :: (.ref 239) :: (.int 84 0) :: (.int 0 0) :: (.ref 246) :: (.int 87 0) :: (.int 0 0) :: (.ref 253) :: (.int 94 0) :: (.int 0 0) :: (.ref 258) :: (.int 97 0) :: (.int 0 0) :: (.ref 265) :: (.int 102 0) :: (.int 0 0) :: (.ref 272) :: (.int 105 0) :: (.int 0 0) :: (.ref 279) :: (.int 107 0) :: (.int 0 0) :: (.ref 284) :: (.int 114 0) :: (.int 0 0) :: (.ref 291) :: (.int 119 0) :: (.int 0 0) :: (.ref 298) :: (.int 124 0) :: (.int 0 0) :: (.ref 303) :: (.int 129 0) :: (.int 0 0) :: (.ref 310) :: (.int 134 0) :: (.int 0 0) :: (.ref 317) :: (.int 137 0) :: (.int 0 0) :: (.ref 324) :: (.int 140 0) :: (.int 0 0) :: (.ref 329) :: (.int 146 0) :: (.int 0 0) :: (.ref 334) :: (.int 151 0) :: (.int 0 0) :: (.ref 341) :: (.int 164 0) :: (.int 0 0) :: (.ref 376) :: (.int 170 0) :: (.int 0 0) :: (.ref 395) :: (.int 176 0) :: (.int 0 0) :: (.ref 414) :: (.int 182 0) :: (.int 0 0) :: (.ref 433) :: (.int 187 0) :: (.int 0 0) :: (.ref 450) :: (.int 190 0) :: (.int 0 0) :: (.ref 457) :: (.int 198 0) :: (.int 0 0) :: (.ref 464) :: (.int 205 0) :: (.int 0 0) :: (.ref 471) :: (.int 214 0) :: (.int 0 0) :: (.ref 478) :: (.int 244 0) :: (.int 0 0) :: (.ref 537) :: (.int 246 0) :: (.int 0 0) :: (.ref 544) :: (.int 257 0) :: (.int 0 0) :: (.ref 551) :: (.int 262 0) :: (.int 0 0) :: (.ref 558) :: (.int 265 0) :: (.int 0 0) :: (.ref 565) :: (.int 272 0) :: (.int 0 0) :: (.ref 570) :: (.int 276 0) :: (.int 0 0) :: (.ref 577) :: (.int 278 0) :: (.int 0 0) :: (.ref 582) :: (.int 287 0) :: (.int 0 0) :: (.ref 589) :: (.int 291 0) :: (.int 0 0) :: (.ref 596) :: (.int 299 0) :: (.int 0 0) :: (.ref 601) :: (.int 316 0) :: (.int 0 0) :: (.ref 606) :: (.int 326 0) :: (.int 0 0) :: (.ref 611) :: (.int 336 0) :: (.int 0 0) :: (.ref 616) :: (.int 343 0) :: (.int 0 0) :: (.ref 623) :: (.int 352 0) :: (.int 0 0) :: (.ref 630) :: (.int 362 0) :: (.int 0 0) :: (.ref 637) :: (.int 364 0) :: (.int 0 0) :: (.ref 644) :: (.int 375 0) :: (.int 0 0) :: (.ref 649) :: (.int 379 0) :: (.int 0 0) :: (.ref 654) :: []⟩),⟨[]⟩⟩
def q21:Obj:=(fO "_wall" "_wall" (top 0) (.str "__main__" 164) 20)
noncomputable def q22:Obj:=⟨(.type "tuple"),none,(.seq ⟨(.type "ValueError") :: []⟩ 0),⟨[]⟩⟩
noncomputable def q23:Obj:=⟨(.type "builtin_function_or_method"),none,(.fields ⟨(.builtin "type.__prepare__") :: (.type "type") :: []⟩),⟨[]⟩⟩
def q24 (P:Params):Obj:=⟨(.type "dict"),none,(.dict ⟨dE P "__module__" 203 (.str "chancehall.errors" 194) :: dE P "__qualname__" 205 (.str "HallError" 204) :: dE P "__firstlineno__" 207 (.int 5 206) :: dE P "__static_attributes__" 208 (.ref 29) :: []⟩ 4),⟨[]⟩⟩
noncomputable def q27:Obj:=⟨(.type "code"),none,(.fields ⟨(.str "HallError" 198) :: (.str "HallError" 199) :: (.str "/claim/cut.py" 200) :: (.int 5 0) :: (.int 0 0) :: (.int 0 0) :: (.int 0 0) :: (.int 0 0) :: (.ref 25) :: (.bool false) :: (.int 181 0) :: (.ref 26) :: .none :: .none :: .none :: .none :: (.int 201 0) :: (.int 5 0) :: (.str "/claim/cut.py" 202) :: []⟩),⟨[]⟩⟩
noncomputable def q28:Obj:=⟨(.type "frame"),none,.plain,⟨(some (.ref 27)) :: (some (.ref 3)) :: (some (.ref 24)) :: none :: (some (.str "chancehall.errors" 194)) :: none :: (some (.ref 0)) :: []⟩⟩
def q30 (P:Params):Obj:=⟨(.type "dict"),none,(.dict ⟨dE P "__module__" 203 (.str "chancehall.errors" 194) :: dE P "__firstlineno__" 207 (.int 5 206) :: dE P "__static_attributes__" 208 (.ref 29) :: dE P "__weakref__" 210 (.ref 32) :: dE P "__doc__" 211 .none :: []⟩ 3),⟨[]⟩⟩
noncomputable def q31:Obj:=⟨(.type "type"),none,(.cls ⟨"HallError",[(.type "ValueError")],[(.ref 31),(.type "ValueError"),(.type "Exception"),(.type "BaseException"),(.type "object")],30, "HallError",true,[],[(.ref 44),(.ref 56),(.ref 68),(.ref 80),(.ref 92),(.ref 111),(.ref 130),(.ref 149),(.ref 168)],false,none,false⟩),⟨(some (.ref 22)) :: none :: (some (.str "HallError" 196)) :: (some (.str "HallError" 204)) :: (some (.builtin "ValueError.__new__")) :: (some (.bool true)) :: []⟩⟩
noncomputable def q32:Obj:=⟨(.type "getset_descriptor"),none,(.fields ⟨(.str "__weakref__" 209) :: (.ref 31) :: (.builtin "ExceptionGroup.__weakref__") :: .none :: []⟩),⟨[]⟩⟩
noncomputable def q33:Obj:=⟨(.type "super"),none,(.fields ⟨(.ref 31) :: (.ref 31) :: (.ref 31) :: []⟩),⟨[]⟩⟩
noncomputable def q34:Obj:=⟨(.type "builtin_function_or_method"),none,(.fields ⟨(.builtin "object.__init_subclass__") :: (.ref 31) :: []⟩),⟨[]⟩⟩
noncomputable def q35:Obj:=⟨(.type "tuple"),none,(.seq ⟨(.ref 31) :: []⟩ 0),⟨[]⟩⟩
noncomputable def q36:Obj:=⟨(.type "builtin_function_or_method"),none,(.fields ⟨(.builtin "type.__prepare__") :: (.type "type") :: []⟩),⟨[]⟩⟩
def q37 (P:Params):Obj:=⟨(.type "dict"),none,(.dict ⟨dE P "__module__" 221 (.str "chancehall.errors" 194) :: dE P "__qualname__" 223 (.str "NoNumber" 222) :: dE P "__firstlineno__" 225 (.int 7 224) :: dE P "__static_attributes__" 226 (.ref 42) :: []⟩ 4),⟨[]⟩⟩
noncomputable def q40:Obj:=⟨(.type "code"),none,(.fields ⟨(.str "NoNumber" 216) :: (.str "NoNumber" 217) :: (.str "/claim/cut.py" 218) :: (.int 7 0) :: (.int 0 0) :: (.int 0 0) :: (.int 0 0) :: (.int 0 0) :: (.ref 38) :: (.bool false) :: (.int 181 0) :: (.ref 39) :: .none :: .none :: .none :: .none :: (.int 219 0) :: (.int 7 0) :: (.str "/claim/cut.py" 220) :: []⟩),⟨[]⟩⟩
noncomputable def q41:Obj:=⟨(.type "frame"),none,.plain,⟨(some (.ref 40)) :: (some (.ref 3)) :: (some (.ref 37)) :: none :: (some (.str "chancehall.errors" 194)) :: none :: (some (.ref 0)) :: []⟩⟩
def q43 (P:Params):Obj:=⟨(.type "dict"),none,(.dict ⟨dE P "__module__" 221 (.str "chancehall.errors" 194) :: dE P "__firstlineno__" 225 (.int 7 224) :: dE P "__static_attributes__" 226 (.ref 42) :: dE P "__doc__" 227 .none :: []⟩ 2),⟨[]⟩⟩
noncomputable def q44:Obj:=⟨(.type "type"),none,(.cls ⟨"NoNumber",[(.ref 31)],[(.ref 44),(.ref 31),(.type "ValueError"),(.type "Exception"),(.type "BaseException"),(.type "object")],43, "NoNumber",true,[],[],false,none,false⟩),⟨(some (.ref 35)) :: none :: (some (.str "NoNumber" 214)) :: (some (.str "NoNumber" 222)) :: (some (.builtin "ValueError.__new__")) :: (some (.bool true)) :: []⟩⟩
noncomputable def q45:Obj:=⟨(.type "super"),none,(.fields ⟨(.ref 44) :: (.ref 44) :: (.ref 44) :: []⟩),⟨[]⟩⟩
noncomputable def q46:Obj:=⟨(.type "builtin_function_or_method"),none,(.fields ⟨(.builtin "object.__init_subclass__") :: (.ref 44) :: []⟩),⟨[]⟩⟩
noncomputable def q47:Obj:=⟨(.type "tuple"),none,(.seq ⟨(.ref 31) :: []⟩ 0),⟨[]⟩⟩
noncomputable def q48:Obj:=⟨(.type "builtin_function_or_method"),none,(.fields ⟨(.builtin "type.__prepare__") :: (.type "type") :: []⟩),⟨[]⟩⟩
def q49 (P:Params):Obj:=⟨(.type "dict"),none,(.dict ⟨dE P "__module__" 237 (.str "chancehall.errors" 194) :: dE P "__qualname__" 239 (.str "NoName" 238) :: dE P "__firstlineno__" 241 (.int 9 240) :: dE P "__static_attributes__" 242 (.ref 54) :: []⟩ 4),⟨[]⟩⟩
noncomputable def q52:Obj:=⟨(.type "code"),none,(.fields ⟨(.str "NoName" 232) :: (.str "NoName" 233) :: (.str "/claim/cut.py" 234) :: (.int 9 0) :: (.int 0 0) :: (.int 0 0) :: (.int 0 0) :: (.int 0 0) :: (.ref 50) :: (.bool false) :: (.int 181 0) :: (.ref 51) :: .none :: .none :: .none :: .none :: (.int 235 0) :: (.int 9 0) :: (.str "/claim/cut.py" 236) :: []⟩),⟨[]⟩⟩
noncomputable def q53:Obj:=⟨(.type "frame"),none,.plain,⟨(some (.ref 52)) :: (some (.ref 3)) :: (some (.ref 49)) :: none :: (some (.str "chancehall.errors" 194)) :: none :: (some (.ref 0)) :: []⟩⟩
def q55 (P:Params):Obj:=⟨(.type "dict"),none,(.dict ⟨dE P "__module__" 237 (.str "chancehall.errors" 194) :: dE P "__firstlineno__" 241 (.int 9 240) :: dE P "__static_attributes__" 242 (.ref 54) :: dE P "__doc__" 243 .none :: []⟩ 2),⟨[]⟩⟩
noncomputable def q56:Obj:=⟨(.type "type"),none,(.cls ⟨"NoName",[(.ref 31)],[(.ref 56),(.ref 31),(.type "ValueError"),(.type "Exception"),(.type "BaseException"),(.type "object")],55, "NoName",true,[],[],false,none,false⟩),⟨(some (.ref 47)) :: none :: (some (.str "NoName" 230)) :: (some (.str "NoName" 238)) :: (some (.builtin "ValueError.__new__")) :: (some (.bool true)) :: []⟩⟩
noncomputable def q57:Obj:=⟨(.type "super"),none,(.fields ⟨(.ref 56) :: (.ref 56) :: (.ref 56) :: []⟩),⟨[]⟩⟩
noncomputable def q58:Obj:=⟨(.type "builtin_function_or_method"),none,(.fields ⟨(.builtin "object.__init_subclass__") :: (.ref 56) :: []⟩),⟨[]⟩⟩
noncomputable def q59:Obj:=⟨(.type "tuple"),none,(.seq ⟨(.ref 31) :: []⟩ 0),⟨[]⟩⟩
noncomputable def q60:Obj:=⟨(.type "builtin_function_or_method"),none,(.fields ⟨(.builtin "type.__prepare__") :: (.type "type") :: []⟩),⟨[]⟩⟩
def q61 (P:Params):Obj:=⟨(.type "dict"),none,(.dict ⟨dE P "__module__" 253 (.str "chancehall.errors" 194) :: dE P "__qualname__" 255 (.str "NoChance" 254) :: dE P "__firstlineno__" 257 (.int 11 256) :: dE P "__static_attributes__" 258 (.ref 66) :: []⟩ 4),⟨[]⟩⟩
noncomputable def q64:Obj:=⟨(.type "code"),none,(.fields ⟨(.str "NoChance" 248) :: (.str "NoChance" 249) :: (.str "/claim/cut.py" 250) :: (.int 11 0) :: (.int 0 0) :: (.int 0 0) :: (.int 0 0) :: (.int 0 0) :: (.ref 62) :: (.bool false) :: (.int 181 0) :: (.ref 63) :: .none :: .none :: .none :: .none :: (.int 251 0) :: (.int 11 0) :: (.str "/claim/cut.py" 252) :: []⟩),⟨[]⟩⟩
noncomputable def q65:Obj:=⟨(.type "frame"),none,.plain,⟨(some (.ref 64)) :: (some (.ref 3)) :: (some (.ref 61)) :: none :: (some (.str "chancehall.errors" 194)) :: none :: (some (.ref 0)) :: []⟩⟩
def q67 (P:Params):Obj:=⟨(.type "dict"),none,(.dict ⟨dE P "__module__" 253 (.str "chancehall.errors" 194) :: dE P "__firstlineno__" 257 (.int 11 256) :: dE P "__static_attributes__" 258 (.ref 66) :: dE P "__doc__" 259 .none :: []⟩ 2),⟨[]⟩⟩
noncomputable def q68:Obj:=⟨(.type "type"),none,(.cls ⟨"NoChance",[(.ref 31)],[(.ref 68),(.ref 31),(.type "ValueError"),(.type "Exception"),(.type "BaseException"),(.type "object")],67, "NoChance",true,[],[],false,none,false⟩),⟨(some (.ref 59)) :: none :: (some (.str "NoChance" 246)) :: (some (.str "NoChance" 254)) :: (some (.builtin "ValueError.__new__")) :: (some (.bool true)) :: []⟩⟩
noncomputable def q69:Obj:=⟨(.type "super"),none,(.fields ⟨(.ref 68) :: (.ref 68) :: (.ref 68) :: []⟩),⟨[]⟩⟩
noncomputable def q70:Obj:=⟨(.type "builtin_function_or_method"),none,(.fields ⟨(.builtin "object.__init_subclass__") :: (.ref 68) :: []⟩),⟨[]⟩⟩
noncomputable def q71:Obj:=⟨(.type "tuple"),none,(.seq ⟨(.ref 31) :: []⟩ 0),⟨[]⟩⟩
noncomputable def q72:Obj:=⟨(.type "builtin_function_or_method"),none,(.fields ⟨(.builtin "type.__prepare__") :: (.type "type") :: []⟩),⟨[]⟩⟩
def q73 (P:Params):Obj:=⟨(.type "dict"),none,(.dict ⟨dE P "__module__" 269 (.str "chancehall.errors" 194) :: dE P "__qualname__" 271 (.str "NoShare" 270) :: dE P "__firstlineno__" 273 (.int 13 272) :: dE P "__static_attributes__" 274 (.ref 78) :: []⟩ 4),⟨[]⟩⟩
noncomputable def q76:Obj:=⟨(.type "code"),none,(.fields ⟨(.str "NoShare" 264) :: (.str "NoShare" 265) :: (.str "/claim/cut.py" 266) :: (.int 13 0) :: (.int 0 0) :: (.int 0 0) :: (.int 0 0) :: (.int 0 0) :: (.ref 74) :: (.bool false) :: (.int 181 0) :: (.ref 75) :: .none :: .none :: .none :: .none :: (.int 267 0) :: (.int 13 0) :: (.str "/claim/cut.py" 268) :: []⟩),⟨[]⟩⟩
noncomputable def q77:Obj:=⟨(.type "frame"),none,.plain,⟨(some (.ref 76)) :: (some (.ref 3)) :: (some (.ref 73)) :: none :: (some (.str "chancehall.errors" 194)) :: none :: (some (.ref 0)) :: []⟩⟩
def q79 (P:Params):Obj:=⟨(.type "dict"),none,(.dict ⟨dE P "__module__" 269 (.str "chancehall.errors" 194) :: dE P "__firstlineno__" 273 (.int 13 272) :: dE P "__static_attributes__" 274 (.ref 78) :: dE P "__doc__" 275 .none :: []⟩ 2),⟨[]⟩⟩
noncomputable def q80:Obj:=⟨(.type "type"),none,(.cls ⟨"NoShare",[(.ref 31)],[(.ref 80),(.ref 31),(.type "ValueError"),(.type "Exception"),(.type "BaseException"),(.type "object")],79, "NoShare",true,[],[],false,none,false⟩),⟨(some (.ref 71)) :: none :: (some (.str "NoShare" 262)) :: (some (.str "NoShare" 270)) :: (some (.builtin "ValueError.__new__")) :: (some (.bool true)) :: []⟩⟩
noncomputable def q81:Obj:=⟨(.type "super"),none,(.fields ⟨(.ref 80) :: (.ref 80) :: (.ref 80) :: []⟩),⟨[]⟩⟩
noncomputable def q82:Obj:=⟨(.type "builtin_function_or_method"),none,(.fields ⟨(.builtin "object.__init_subclass__") :: (.ref 80) :: []⟩),⟨[]⟩⟩
noncomputable def q83:Obj:=⟨(.type "tuple"),none,(.seq ⟨(.ref 31) :: []⟩ 0),⟨[]⟩⟩
noncomputable def q84:Obj:=⟨(.type "builtin_function_or_method"),none,(.fields ⟨(.builtin "type.__prepare__") :: (.type "type") :: []⟩),⟨[]⟩⟩
def q85 (P:Params):Obj:=⟨(.type "dict"),none,(.dict ⟨dE P "__module__" 285 (.str "chancehall.errors" 194) :: dE P "__qualname__" 287 (.str "NoText" 286) :: dE P "__firstlineno__" 289 (.int 15 288) :: dE P "__static_attributes__" 290 (.ref 90) :: []⟩ 4),⟨[]⟩⟩
noncomputable def q88:Obj:=⟨(.type "code"),none,(.fields ⟨(.str "NoText" 280) :: (.str "NoText" 281) :: (.str "/claim/cut.py" 282) :: (.int 15 0) :: (.int 0 0) :: (.int 0 0) :: (.int 0 0) :: (.int 0 0) :: (.ref 86) :: (.bool false) :: (.int 181 0) :: (.ref 87) :: .none :: .none :: .none :: .none :: (.int 283 0) :: (.int 15 0) :: (.str "/claim/cut.py" 284) :: []⟩),⟨[]⟩⟩
noncomputable def q89:Obj:=⟨(.type "frame"),none,.plain,⟨(some (.ref 88)) :: (some (.ref 3)) :: (some (.ref 85)) :: none :: (some (.str "chancehall.errors" 194)) :: none :: (some (.ref 0)) :: []⟩⟩
def q91 (P:Params):Obj:=⟨(.type "dict"),none,(.dict ⟨dE P "__module__" 285 (.str "chancehall.errors" 194) :: dE P "__firstlineno__" 289 (.int 15 288) :: dE P "__static_attributes__" 290 (.ref 90) :: dE P "__doc__" 291 .none :: []⟩ 2),⟨[]⟩⟩
noncomputable def q92:Obj:=⟨(.type "type"),none,(.cls ⟨"NoText",[(.ref 31)],[(.ref 92),(.ref 31),(.type "ValueError"),(.type "Exception"),(.type "BaseException"),(.type "object")],91, "NoText",true,[],[],false,none,false⟩),⟨(some (.ref 83)) :: none :: (some (.str "NoText" 278)) :: (some (.str "NoText" 286)) :: (some (.builtin "ValueError.__new__")) :: (some (.bool true)) :: []⟩⟩
noncomputable def q93:Obj:=⟨(.type "super"),none,(.fields ⟨(.ref 92) :: (.ref 92) :: (.ref 92) :: []⟩),⟨[]⟩⟩
noncomputable def q94:Obj:=⟨(.type "builtin_function_or_method"),none,(.fields ⟨(.builtin "object.__init_subclass__") :: (.ref 92) :: []⟩),⟨[]⟩⟩
noncomputable def q95:Obj:=⟨(.type "tuple"),none,(.seq ⟨(.ref 31) :: []⟩ 0),⟨[]⟩⟩
noncomputable def q96:Obj:=⟨(.type "builtin_function_or_method"),none,(.fields ⟨(.builtin "type.__prepare__") :: (.type "type") :: []⟩),⟨[]⟩⟩
def q97 (P:Params):Obj:=⟨(.type "dict"),none,(.dict ⟨dE P "__module__" 301 (.str "chancehall.errors" 194) :: dE P "__qualname__" 303 (.str "NoRow" 302) :: dE P "__firstlineno__" 305 (.int 17 304) :: dE P "__init__" 313 (.ref 108) :: dE P "__static_attributes__" 315 (.ref 109) :: []⟩ 5),⟨[]⟩⟩
noncomputable def q99:Obj:=⟨.none,none,(.fields ⟨(.int 19 0) :: (.int 4 0) :: (.ref 107) :: []⟩),⟨[]⟩⟩
noncomputable def ahl:Obj:=⟨(.type "code"),none,(.fields ⟨(.str "NoRow" 296) :: (.str "NoRow" 297) :: (.str "/claim/cut.py" 298) :: (.int 17 0) :: (.int 0 0) :: (.int 0 0) :: (.int 0 0) :: (.int 0 0) :: (.ref 98) :: (.bool false) :: (.int 181 0) :: (.ref 99) :: .none :: .none :: .none :: .none :: (.int 299 0) :: (.int 17 0) :: (.str "/claim/cut.py" 300) :: []⟩),⟨[]⟩⟩
noncomputable def agF:Obj:=⟨(.type "frame"),none,.plain,⟨(some (.ref 100)) :: (some (.ref 3)) :: (some (.ref 97)) :: none :: (some (.str "chancehall.errors" 194)) :: none :: (some (.ref 0)) :: []⟩⟩
def aed:Obj:=(cO "__init__" "NoRow.__init__" 306 19 2 3 102 311)
def adq:Obj:=(fO "__init__" "NoRow.__init__" (eN 8 0) (.str "chancehall.errors" 194) 107)
def adp (P:Params):Obj:=⟨(.type "dict"),none,(.dict ⟨dE P "__module__" 301 (.str "chancehall.errors" 194) :: dE P "__firstlineno__" 305 (.int 17 304) :: dE P "__init__" 313 (.ref 108) :: dE P "__static_attributes__" 315 (.ref 109) :: dE P "__doc__" 316 .none :: []⟩ 2),⟨[]⟩⟩
noncomputable def adA:Obj:=⟨(.type "type"),none,(.cls ⟨"NoRow",[(.ref 31)],[(.ref 111),(.ref 31),(.type "ValueError"),(.type "Exception"),(.type "BaseException"),(.type "object")],110, "NoRow",true,[],[],false,none,false⟩),⟨(some (.ref 95)) :: none :: (some (.str "NoRow" 294)) :: (some (.str "NoRow" 302)) :: (some (.builtin "ValueError.__new__")) :: (some (.bool true)) :: []⟩⟩
noncomputable def agA:Obj:=⟨(.type "super"),none,(.fields ⟨(.ref 111) :: (.ref 111) :: (.ref 111) :: []⟩),⟨[]⟩⟩
noncomputable def ahk:Obj:=⟨(.type "builtin_function_or_method"),none,(.fields ⟨(.builtin "object.__init_subclass__") :: (.ref 111) :: []⟩),⟨[]⟩⟩
noncomputable def afj:Obj:=⟨(.type "tuple"),none,(.seq ⟨(.ref 31) :: []⟩ 0),⟨[]⟩⟩
noncomputable def ags:Obj:=⟨(.type "builtin_function_or_method"),none,(.fields ⟨(.builtin "type.__prepare__") :: (.type "type") :: []⟩),⟨[]⟩⟩
def agy (P:Params):Obj:=⟨(.type "dict"),none,(.dict ⟨dE P "__module__" 326 (.str "chancehall.errors" 194) :: dE P "__qualname__" 328 (.str "NoRoom" 327) :: dE P "__firstlineno__" 330 (.int 22 329) :: dE P "__init__" 338 (.ref 127) :: dE P "__static_attributes__" 340 (.ref 128) :: []⟩ 5),⟨[]⟩⟩
noncomputable def agB:Obj:=⟨.none,none,(.fields ⟨(.int 24 0) :: (.int 4 0) :: (.ref 126) :: []⟩),⟨[]⟩⟩
noncomputable def agp:Obj:=⟨(.type "code"),none,(.fields ⟨(.str "NoRoom" 321) :: (.str "NoRoom" 322) :: (.str "/claim/cut.py" 323) :: (.int 22 0) :: (.int 0 0) :: (.int 0 0) :: (.int 0 0) :: (.int 0 0) :: (.ref 117) :: (.bool false) :: (.int 181 0) :: (.ref 118) :: .none :: .none :: .none :: .none :: (.int 324 0) :: (.int 22 0) :: (.str "/claim/cut.py" 325) :: []⟩),⟨[]⟩⟩
noncomputable def agR:Obj:=⟨(.type "frame"),none,.plain,⟨(some (.ref 119)) :: (some (.ref 3)) :: (some (.ref 116)) :: none :: (some (.str "chancehall.errors" 194)) :: none :: (some (.ref 0)) :: []⟩⟩
def aej:Obj:=(cO "__init__" "NoRoom.__init__" 331 24 2 3 121 336)
def adf:Obj:=(fO "__init__" "NoRoom.__init__" (eN 9 0) (.str "chancehall.errors" 194) 126)
def aeK (P:Params):Obj:=⟨(.type "dict"),none,(.dict ⟨dE P "__module__" 326 (.str "chancehall.errors" 194) :: dE P "__firstlineno__" 330 (.int 22 329) :: dE P "__init__" 338 (.ref 127) :: dE P "__static_attributes__" 340 (.ref 128) :: dE P "__doc__" 341 .none :: []⟩ 2),⟨[]⟩⟩
noncomputable def afi:Obj:=⟨(.type "type"),none,(.cls ⟨"NoRoom",[(.ref 31)],[(.ref 130),(.ref 31),(.type "ValueError"),(.type "Exception"),(.type "BaseException"),(.type "object")],129, "NoRoom",true,[],[],false,none,false⟩),⟨(some (.ref 114)) :: none :: (some (.str "NoRoom" 319)) :: (some (.str "NoRoom" 327)) :: (some (.builtin "ValueError.__new__")) :: (some (.bool true)) :: []⟩⟩
noncomputable def agv:Obj:=⟨(.type "super"),none,(.fields ⟨(.ref 130) :: (.ref 130) :: (.ref 130) :: []⟩),⟨[]⟩⟩
noncomputable def agi:Obj:=⟨(.type "builtin_function_or_method"),none,(.fields ⟨(.builtin "object.__init_subclass__") :: (.ref 130) :: []⟩),⟨[]⟩⟩
noncomputable def aft:Obj:=⟨(.type "tuple"),none,(.seq ⟨(.ref 31) :: []⟩ 0),⟨[]⟩⟩
noncomputable def agl:Obj:=⟨(.type "builtin_function_or_method"),none,(.fields ⟨(.builtin "type.__prepare__") :: (.type "type") :: []⟩),⟨[]⟩⟩
def agr (P:Params):Obj:=⟨(.type "dict"),none,(.dict ⟨dE P "__module__" 351 (.str "chancehall.errors" 194) :: dE P "__qualname__" 353 (.str "NoDoor" 352) :: dE P "__firstlineno__" 355 (.int 27 354) :: dE P "__init__" 363 (.ref 146) :: dE P "__static_attributes__" 365 (.ref 147) :: []⟩ 5),⟨[]⟩⟩
noncomputable def ahd:Obj:=⟨.none,none,(.fields ⟨(.int 29 0) :: (.int 4 0) :: (.ref 145) :: []⟩),⟨[]⟩⟩
noncomputable def afY:Obj:=⟨(.type "code"),none,(.fields ⟨(.str "NoDoor" 346) :: (.str "NoDoor" 347) :: (.str "/claim/cut.py" 348) :: (.int 27 0) :: (.int 0 0) :: (.int 0 0) :: (.int 0 0) :: (.int 0 0) :: (.ref 136) :: (.bool false) :: (.int 181 0) :: (.ref 137) :: .none :: .none :: .none :: .none :: (.int 349 0) :: (.int 27 0) :: (.str "/claim/cut.py" 350) :: []⟩),⟨[]⟩⟩
noncomputable def aho:Obj:=⟨(.type "frame"),none,.plain,⟨(some (.ref 138)) :: (some (.ref 3)) :: (some (.ref 135)) :: none :: (some (.str "chancehall.errors" 194)) :: none :: (some (.ref 0)) :: []⟩⟩
def aea:Obj:=(cO "__init__" "NoDoor.__init__" 356 29 2 3 140 361)
def adh:Obj:=(fO "__init__" "NoDoor.__init__" (eN 10 0) (.str "chancehall.errors" 194) 145)
def ad4 (P:Params):Obj:=⟨(.type "dict"),none,(.dict ⟨dE P "__module__" 351 (.str "chancehall.errors" 194) :: dE P "__firstlineno__" 355 (.int 27 354) :: dE P "__init__" 363 (.ref 146) :: dE P "__static_attributes__" 365 (.ref 147) :: dE P "__doc__" 366 .none :: []⟩ 2),⟨[]⟩⟩
noncomputable def adk:Obj:=⟨(.type "type"),none,(.cls ⟨"NoDoor",[(.ref 31)],[(.ref 149),(.ref 31),(.type "ValueError"),(.type "Exception"),(.type "BaseException"),(.type "object")],148, "NoDoor",true,[],[],false,none,false⟩),⟨(some (.ref 133)) :: none :: (some (.str "NoDoor" 344)) :: (some (.str "NoDoor" 352)) :: (some (.builtin "ValueError.__new__")) :: (some (.bool true)) :: []⟩⟩
noncomputable def agf:Obj:=⟨(.type "super"),none,(.fields ⟨(.ref 149) :: (.ref 149) :: (.ref 149) :: []⟩),⟨[]⟩⟩
noncomputable def agN:Obj:=⟨(.type "builtin_function_or_method"),none,(.fields ⟨(.builtin "object.__init_subclass__") :: (.ref 149) :: []⟩),⟨[]⟩⟩
noncomputable def afG:Obj:=⟨(.type "tuple"),none,(.seq ⟨(.ref 31) :: []⟩ 0),⟨[]⟩⟩
noncomputable def ahc:Obj:=⟨(.type "builtin_function_or_method"),none,(.fields ⟨(.builtin "type.__prepare__") :: (.type "type") :: []⟩),⟨[]⟩⟩
def ahe (P:Params):Obj:=⟨(.type "dict"),none,(.dict ⟨dE P "__module__" 376 (.str "chancehall.errors" 194) :: dE P "__qualname__" 378 (.str "NoPlan" 377) :: dE P "__firstlineno__" 380 (.int 32 379) :: dE P "__init__" 388 (.ref 165) :: dE P "__static_attributes__" 390 (.ref 166) :: []⟩ 5),⟨[]⟩⟩
noncomputable def ahj:Obj:=⟨.none,none,(.fields ⟨(.int 34 0) :: (.int 4 0) :: (.ref 164) :: []⟩),⟨[]⟩⟩
noncomputable def agK:Obj:=⟨(.type "code"),none,(.fields ⟨(.str "NoPlan" 371) :: (.str "NoPlan" 372) :: (.str "/claim/cut.py" 373) :: (.int 32 0) :: (.int 0 0) :: (.int 0 0) :: (.int 0 0) :: (.int 0 0) :: (.ref 155) :: (.bool false) :: (.int 181 0) :: (.ref 156) :: .none :: .none :: .none :: .none :: (.int 374 0) :: (.int 32 0) :: (.str "/claim/cut.py" 375) :: []⟩),⟨[]⟩⟩
noncomputable def afX:Obj:=⟨(.type "frame"),none,.plain,⟨(some (.ref 157)) :: (some (.ref 3)) :: (some (.ref 154)) :: none :: (some (.str "chancehall.errors" 194)) :: none :: (some (.ref 0)) :: []⟩⟩
def ac5:Obj:=(cO "__init__" "NoPlan.__init__" 381 34 2 3 159 386)
def ae7:Obj:=(fO "__init__" "NoPlan.__init__" (eN 11 0) (.str "chancehall.errors" 194) 164)
def acN (P:Params):Obj:=⟨(.type "dict"),none,(.dict ⟨dE P "__module__" 376 (.str "chancehall.errors" 194) :: dE P "__firstlineno__" 380 (.int 32 379) :: dE P "__init__" 388 (.ref 165) :: dE P "__static_attributes__" 390 (.ref 166) :: dE P "__doc__" 391 .none :: []⟩ 2),⟨[]⟩⟩
noncomputable def ad6:Obj:=⟨(.type "type"),none,(.cls ⟨"NoPlan",[(.ref 31)],[(.ref 168),(.ref 31),(.type "ValueError"),(.type "Exception"),(.type "BaseException"),(.type "object")],167, "NoPlan",true,[],[],false,none,false⟩),⟨(some (.ref 152)) :: none :: (some (.str "NoPlan" 369)) :: (some (.str "NoPlan" 377)) :: (some (.builtin "ValueError.__new__")) :: (some (.bool true)) :: []⟩⟩
noncomputable def ahf:Obj:=⟨(.type "super"),none,(.fields ⟨(.ref 168) :: (.ref 168) :: (.ref 168) :: []⟩),⟨[]⟩⟩
noncomputable def agc:Obj:=⟨(.type "builtin_function_or_method"),none,(.fields ⟨(.builtin "object.__init_subclass__") :: (.ref 168) :: []⟩),⟨[]⟩⟩
def ad9:Obj:=(fO "is_whole" "is_whole" (top 13) (.str "chancehall.wholes" 394) 176)
def afL:Obj:=(tN 406 ["one", "other", "left", "right", "rest"])
def ac9:Obj:=(fO "divisor" "divisor" (top 14) (.str "chancehall.wholes" 394) 183)
noncomputable def aec:Obj:=⟨(.type "tuple"),none,(.seq ⟨(.int 0 416) :: (.int 1 417) :: []⟩ 0),⟨[]⟩⟩
noncomputable def aeQ:Obj:=⟨(.type "tuple"),none,(.seq ⟨(.int 1 419) :: (.int 1 420) :: []⟩ 0),⟨[]⟩⟩
def afy:Obj:=(fO "ratio" "ratio" (top 18) (.str "chancehall.ratios" 414) 192)
def adL:Obj:=(fO "is_ratio" "is_ratio" (top 19) (.str "chancehall.ratios" 414) 199)
def acT:Obj:=(fO "plus" "plus" (top 20) (.str "chancehall.ratios" 414) 206)
def aeN:Obj:=(fO "minus" "minus" (top 21) (.str "chancehall.ratios" 414) 213)
def adF:Obj:=(fO "times" "times" (top 22) (.str "chancehall.ratios" 414) 220)
def acL:Obj:=(fO "over" "over" (top 23) (.str "chancehall.ratios" 414) 227)
def afN:Obj:=(fO "under" "under" (top 24) (.str "chancehall.ratios" 414) 234)
def acR:Obj:=(fO "level" "level" (top 26) (.str "chancehall.levels" 480) 239)
def afa:Obj:=(fO "total" "total" (top 27) (.str "chancehall.levels" 480) 246)
def acG:Obj:=(fO "greatest" "greatest" (top 28) (.str "chancehall.levels" 480) 253)
def afq:Obj:=(cP "behind_door" "behind_door" 507 94 2 3 255 510)
def adg:Obj:=(fO "behind_door" "behind_door" (top 30) (.str "chancehall.plans" 505) 258)
def aeH:Obj:=(tN 516 ["hall", "offer", "leveled", "behind"])
def afD:Obj:=(cO "raised_look" "raised_look" 513 97 3 3 260 520)
def aeM:Obj:=(fO "raised_look" "raised_look" (top 31) (.str "chancehall.plans" 505) 265)
def acO:Obj:=(cO "check_many" "check_many" 527 102 1 3 267 531)
def adv:Obj:=(fO "check_many" "check_many" (top 34) (.str "chancehall.rounds" 523) 272)
def aee:Obj:=(fO "lowered" "lowered" (top 35) (.str "chancehall.rounds" 523) 279)
def ad8:Obj:=(cP "best_round" "best_round" 542 107 2 3 281 545)
def acY:Obj:=(fO "best_round" "best_round" (top 36) (.str "chancehall.rounds" 523) 284)
def adQ:Obj:=(cO "rounds_behind" "rounds_behind" 548 114 3 3 286 555)
def acI:Obj:=(fO "rounds_behind" "rounds_behind" (top 37) (.str "chancehall.rounds" 523) 291)
def adl:Obj:=(cO "best_rounds" "best_rounds" 558 119 2 3 293 564)
def adT:Obj:=(fO "best_rounds" "best_rounds" (top 38) (.str "chancehall.rounds" 523) 298)
def afh:Obj:=(fO "is_word" "is_word" (top 41) (.str "chancehall.words" 567) 303)
def afI:Obj:=(cO "check_head" "check_head" 579 129 2 3 305 584)
def afb:Obj:=(fO "check_head" "check_head" (top 43) (.str "chancehall.doors" 577) 310)
def ago:Obj:=(fT "check_room_name" "check_room_name" (top 44))
def ad2:Obj:=(cO "check_room_name" "check_room_name" 587 134 1 3 312 591)
def adD:Obj:=(fO "check_room_name" "check_room_name" (top 44) (.str "chancehall.doors" 577) 317)
def aeU:Obj:=(cO "check_chance" "check_chance" 594 137 1 3 319 598)
def aeT:Obj:=(fO "check_chance" "check_chance" (top 45) (.str "chancehall.doors" 577) 324)
def aeO:Obj:=(cP "check_pairs" "check_pairs" 601 140 1 3 326 604)
def aeh:Obj:=(fO "check_pairs" "check_pairs" (top 46) (.str "chancehall.doors" 577) 329)
def aeS:Obj:=(cP "joined_ways" "joined_ways" 607 146 1 3 331 610)
def afx:Obj:=(fO "joined_ways" "joined_ways" (top 47) (.str "chancehall.doors" 577) 334)
noncomputable def ag9:Obj:=⟨(.type "builtin_function_or_method"),none,(.fields ⟨(.builtin "type.__prepare__") :: (.type "type") :: []⟩),⟨[]⟩⟩
def agW (P:Params):Obj:=⟨(.type "dict"),none,(.dict ⟨dE P "__module__" 620 (.str "chancehall.doors" 577) :: dE P "__qualname__" 622 (.str "Door" 621) :: dE P "__firstlineno__" 624 (.int 151 623) :: dE P "__init__" 633 (.ref 349) :: dE P "ways" 640 (.ref 356) :: dE P "chance_to" 648 (.ref 363) :: dE P "__static_attributes__" 652 (.ref 364) :: []⟩ 7),⟨[]⟩⟩
noncomputable def af9:Obj:=⟨.none,none,(.fields ⟨(.int 153 0) :: (.int 4 0) :: (.ref 348) :: (.int 159 0) :: (.int 4 0) :: (.ref 355) :: (.int 162 0) :: (.int 4 0) :: (.ref 362) :: []⟩),⟨[]⟩⟩
noncomputable def agm:Obj:=⟨(.type "code"),none,(.fields ⟨(.str "Door" 615) :: (.str "Door" 616) :: (.str "/claim/cut.py" 617) :: (.int 151 0) :: (.int 0 0) :: (.int 0 0) :: (.int 0 0) :: (.int 0 0) :: (.ref 339) :: (.bool false) :: (.int 181 0) :: (.ref 340) :: .none :: .none :: .none :: .none :: (.int 618 0) :: (.int 151 0) :: (.str "/claim/cut.py" 619) :: []⟩),⟨[]⟩⟩
noncomputable def agS:Obj:=⟨(.type "frame"),none,.plain,⟨(some (.ref 341)) :: (some (.ref 3)) :: (some (.ref 338)) :: none :: (some (.str "chancehall.doors" 577)) :: none :: (some (.ref 0)) :: []⟩⟩
def aeD:Obj:=(cO "__init__" "Door.__init__" 625 153 3 3 343 631)
def adC:Obj:=(fO "__init__" "Door.__init__" (eN 48 0) (.str "chancehall.doors" 577) 348)
def adB:Obj:=(fO "ways" "Door.ways" (eN 48 1) (.str "chancehall.doors" 577) 355)
def ad5:Obj:=(cO "chance_to" "Door.chance_to" 641 162 2 3 357 646)
def aeY:Obj:=(fO "chance_to" "Door.chance_to" (eN 48 2) (.str "chancehall.doors" 577) 362)
def ae6 (P:Params):Obj:=⟨(.type "dict"),none,(.dict ⟨dE P "__module__" 620 (.str "chancehall.doors" 577) :: dE P "__firstlineno__" 624 (.int 151 623) :: dE P "__init__" 633 (.ref 349) :: dE P "ways" 640 (.ref 356) :: dE P "chance_to" 648 (.ref 363) :: dE P "__static_attributes__" 652 (.ref 364) :: dE P "__dict__" 654 (.ref 367) :: dE P "__weakref__" 656 (.ref 368) :: dE P "__doc__" 657 .none :: []⟩ 4),⟨[]⟩⟩
noncomputable def ad7:Obj:=⟨(.type "type"),none,(.cls ⟨"Door",[(.type "object")],[(.ref 366),(.type "object")],365, "Door",true,[],[(.ref 387),(.ref 406)],false,none,false⟩),⟨none :: none :: (some (.str "Door" 613)) :: (some (.str "Door" 621)) :: (some (.builtin "object.__new__")) :: (some (.bool true)) :: []⟩⟩
noncomputable def ada:Obj:=⟨(.type "getset_descriptor"),none,(.fields ⟨(.str "__dict__" 653) :: (.ref 366) :: (.builtin "function.__dict__") :: (.builtin "function.__dict__#set") :: []⟩),⟨[]⟩⟩
noncomputable def afM:Obj:=⟨(.type "getset_descriptor"),none,(.fields ⟨(.str "__weakref__" 655) :: (.ref 366) :: (.builtin "ExceptionGroup.__weakref__") :: .none :: []⟩),⟨[]⟩⟩
noncomputable def agh:Obj:=⟨(.type "super"),none,(.fields ⟨(.ref 366) :: (.ref 366) :: (.ref 366) :: []⟩),⟨[]⟩⟩
noncomputable def agY:Obj:=⟨(.type "builtin_function_or_method"),none,(.fields ⟨(.builtin "object.__init_subclass__") :: (.ref 366) :: []⟩),⟨[]⟩⟩
noncomputable def aeX:Obj:=⟨(.type "tuple"),none,(.seq ⟨(.ref 366) :: []⟩ 0),⟨[]⟩⟩
noncomputable def ahi:Obj:=⟨(.type "builtin_function_or_method"),none,(.fields ⟨(.builtin "type.__prepare__") :: (.type "type") :: []⟩),⟨[]⟩⟩
def agJ (P:Params):Obj:=⟨(.type "dict"),none,(.dict ⟨dE P "__module__" 667 (.str "chancehall.doors" 577) :: dE P "__qualname__" 669 (.str "Sure" 668) :: dE P "__firstlineno__" 671 (.int 164 670) :: dE P "__init__" 681 (.ref 384) :: dE P "__static_attributes__" 683 (.ref 385) :: []⟩ 5),⟨[]⟩⟩
noncomputable def ahg:Obj:=⟨.none,none,(.fields ⟨(.int 166 0) :: (.int 4 0) :: (.ref 383) :: []⟩),⟨[]⟩⟩
noncomputable def ag7:Obj:=⟨(.type "code"),none,(.fields ⟨(.str "Sure" 662) :: (.str "Sure" 663) :: (.str "/claim/cut.py" 664) :: (.int 164 0) :: (.int 0 0) :: (.int 0 0) :: (.int 0 0) :: (.int 0 0) :: (.ref 374) :: (.bool false) :: (.int 181 0) :: (.ref 375) :: .none :: .none :: .none :: .none :: (.int 665 0) :: (.int 164 0) :: (.str "/claim/cut.py" 666) :: []⟩),⟨[]⟩⟩
noncomputable def agx:Obj:=⟨(.type "frame"),none,.plain,⟨(some (.ref 376)) :: (some (.ref 3)) :: (some (.ref 373)) :: none :: (some (.str "chancehall.doors" 577)) :: none :: (some (.ref 0)) :: []⟩⟩
def afw:Obj:=(cO "__init__" "Sure.__init__" 672 166 4 3 378 679)
def aei:Obj:=(fO "__init__" "Sure.__init__" (eN 49 0) (.str "chancehall.doors" 577) 383)
def adG (P:Params):Obj:=⟨(.type "dict"),none,(.dict ⟨dE P "__module__" 667 (.str "chancehall.doors" 577) :: dE P "__firstlineno__" 671 (.int 164 670) :: dE P "__init__" 681 (.ref 384) :: dE P "__static_attributes__" 683 (.ref 385) :: dE P "__doc__" 684 .none :: []⟩ 2),⟨[]⟩⟩
noncomputable def adz:Obj:=⟨(.type "type"),none,(.cls ⟨"Sure",[(.ref 366)],[(.ref 387),(.ref 366),(.type "object")],386, "Sure",true,[],[],false,none,false⟩),⟨(some (.ref 371)) :: none :: (some (.str "Sure" 660)) :: (some (.str "Sure" 668)) :: (some (.builtin "object.__new__")) :: (some (.bool true)) :: []⟩⟩
noncomputable def agH:Obj:=⟨(.type "super"),none,(.fields ⟨(.ref 387) :: (.ref 387) :: (.ref 387) :: []⟩),⟨[]⟩⟩
noncomputable def af0:Obj:=⟨(.type "builtin_function_or_method"),none,(.fields ⟨(.builtin "object.__init_subclass__") :: (.ref 387) :: []⟩),⟨[]⟩⟩
noncomputable def aeB:Obj:=⟨(.type "tuple"),none,(.seq ⟨(.ref 366) :: []⟩ 0),⟨[]⟩⟩
noncomputable def ag2:Obj:=⟨(.type "builtin_function_or_method"),none,(.fields ⟨(.builtin "type.__prepare__") :: (.type "type") :: []⟩),⟨[]⟩⟩
def agu (P:Params):Obj:=⟨(.type "dict"),none,(.dict ⟨dE P "__module__" 694 (.str "chancehall.doors" 577) :: dE P "__qualname__" 696 (.str "Mixed" 695) :: dE P "__firstlineno__" 698 (.int 170 697) :: dE P "__init__" 708 (.ref 403) :: dE P "__static_attributes__" 710 (.ref 404) :: []⟩ 5),⟨[]⟩⟩
noncomputable def agO:Obj:=⟨.none,none,(.fields ⟨(.int 172 0) :: (.int 4 0) :: (.ref 402) :: []⟩),⟨[]⟩⟩
noncomputable def agL:Obj:=⟨(.type "code"),none,(.fields ⟨(.str "Mixed" 689) :: (.str "Mixed" 690) :: (.str "/claim/cut.py" 691) :: (.int 170 0) :: (.int 0 0) :: (.int 0 0) :: (.int 0 0) :: (.int 0 0) :: (.ref 393) :: (.bool false) :: (.int 181 0) :: (.ref 394) :: .none :: .none :: .none :: .none :: (.int 692 0) :: (.int 170 0) :: (.str "/claim/cut.py" 693) :: []⟩),⟨[]⟩⟩
noncomputable def agG:Obj:=⟨(.type "frame"),none,.plain,⟨(some (.ref 395)) :: (some (.ref 3)) :: (some (.ref 392)) :: none :: (some (.str "chancehall.doors" 577)) :: none :: (some (.ref 0)) :: []⟩⟩
def ae5:Obj:=(cO "__init__" "Mixed.__init__" 699 172 4 3 397 706)
def ac2:Obj:=(fO "__init__" "Mixed.__init__" (eN 50 0) (.str "chancehall.doors" 577) 402)
def adV (P:Params):Obj:=⟨(.type "dict"),none,(.dict ⟨dE P "__module__" 694 (.str "chancehall.doors" 577) :: dE P "__firstlineno__" 698 (.int 170 697) :: dE P "__init__" 708 (.ref 403) :: dE P "__static_attributes__" 710 (.ref 404) :: dE P "__doc__" 711 .none :: []⟩ 2),⟨[]⟩⟩
noncomputable def aev:Obj:=⟨(.type "type"),none,(.cls ⟨"Mixed",[(.ref 366)],[(.ref 406),(.ref 366),(.type "object")],405, "Mixed",true,[],[(.ref 425),(.ref 442)],false,none,false⟩),⟨(some (.ref 390)) :: none :: (some (.str "Mixed" 687)) :: (some (.str "Mixed" 695)) :: (some (.builtin "object.__new__")) :: (some (.bool true)) :: []⟩⟩
noncomputable def agU:Obj:=⟨(.type "super"),none,(.fields ⟨(.ref 406) :: (.ref 406) :: (.ref 406) :: []⟩),⟨[]⟩⟩
noncomputable def agX:Obj:=⟨(.type "builtin_function_or_method"),none,(.fields ⟨(.builtin "object.__init_subclass__") :: (.ref 406) :: []⟩),⟨[]⟩⟩
noncomputable def ac1:Obj:=⟨(.type "tuple"),none,(.seq ⟨(.ref 406) :: []⟩ 0),⟨[]⟩⟩
noncomputable def af5:Obj:=⟨(.type "builtin_function_or_method"),none,(.fields ⟨(.builtin "type.__prepare__") :: (.type "type") :: []⟩),⟨[]⟩⟩
def agD (P:Params):Obj:=⟨(.type "dict"),none,(.dict ⟨dE P "__module__" 721 (.str "chancehall.doors" 577) :: dE P "__qualname__" 723 (.str "Toss" 722) :: dE P "__firstlineno__" 725 (.int 176 724) :: dE P "__init__" 737 (.ref 422) :: dE P "__static_attributes__" 738 (.ref 423) :: []⟩ 5),⟨[]⟩⟩
noncomputable def ag8:Obj:=⟨.none,none,(.fields ⟨(.int 178 0) :: (.int 4 0) :: (.ref 421) :: []⟩),⟨[]⟩⟩
noncomputable def af3:Obj:=⟨(.type "code"),none,(.fields ⟨(.str "Toss" 716) :: (.str "Toss" 717) :: (.str "/claim/cut.py" 718) :: (.int 176 0) :: (.int 0 0) :: (.int 0 0) :: (.int 0 0) :: (.int 0 0) :: (.ref 412) :: (.bool false) :: (.int 181 0) :: (.ref 413) :: .none :: .none :: .none :: .none :: (.int 719 0) :: (.int 176 0) :: (.str "/claim/cut.py" 720) :: []⟩),⟨[]⟩⟩
noncomputable def ahb:Obj:=⟨(.type "frame"),none,.plain,⟨(some (.ref 414)) :: (some (.ref 3)) :: (some (.ref 411)) :: none :: (some (.str "chancehall.doors" 577)) :: none :: (some (.ref 0)) :: []⟩⟩
def adu:Obj:=(tN 729 ["self", "name", "pay", "chance", "room", "other"])
def ac8:Obj:=(cO "__init__" "Toss.__init__" 726 178 6 3 416 735)
def adR:Obj:=(fO "__init__" "Toss.__init__" (eN 51 0) (.str "chancehall.doors" 577) 421)
def aem (P:Params):Obj:=⟨(.type "dict"),none,(.dict ⟨dE P "__module__" 721 (.str "chancehall.doors" 577) :: dE P "__firstlineno__" 725 (.int 176 724) :: dE P "__init__" 737 (.ref 422) :: dE P "__static_attributes__" 738 (.ref 423) :: dE P "__doc__" 739 .none :: []⟩ 2),⟨[]⟩⟩
noncomputable def aey:Obj:=⟨(.type "type"),none,(.cls ⟨"Toss",[(.ref 406)],[(.ref 425),(.ref 406),(.ref 366),(.type "object")],424, "Toss",true,[],[],false,none,false⟩),⟨(some (.ref 409)) :: none :: (some (.str "Toss" 714)) :: (some (.str "Toss" 722)) :: (some (.builtin "object.__new__")) :: (some (.bool true)) :: []⟩⟩
noncomputable def agj:Obj:=⟨(.type "super"),none,(.fields ⟨(.ref 425) :: (.ref 425) :: (.ref 425) :: []⟩),⟨[]⟩⟩
noncomputable def agT:Obj:=⟨(.type "builtin_function_or_method"),none,(.fields ⟨(.builtin "object.__init_subclass__") :: (.ref 425) :: []⟩),⟨[]⟩⟩
noncomputable def adW:Obj:=⟨(.type "tuple"),none,(.seq ⟨(.ref 406) :: []⟩ 0),⟨[]⟩⟩
noncomputable def agw:Obj:=⟨(.type "builtin_function_or_method"),none,(.fields ⟨(.builtin "type.__prepare__") :: (.type "type") :: []⟩),⟨[]⟩⟩
def afZ (P:Params):Obj:=⟨(.type "dict"),none,(.dict ⟨dE P "__module__" 749 (.str "chancehall.doors" 577) :: dE P "__qualname__" 751 (.str "Even" 750) :: dE P "__firstlineno__" 753 (.int 182 752) :: dE P "__init__" 759 (.ref 439) :: dE P "__static_attributes__" 760 (.ref 440) :: []⟩ 5),⟨[]⟩⟩
noncomputable def agq:Obj:=⟨.none,none,(.fields ⟨(.int 184 0) :: (.int 4 0) :: (.ref 438) :: []⟩),⟨[]⟩⟩
noncomputable def agz:Obj:=⟨(.type "code"),none,(.fields ⟨(.str "Even" 744) :: (.str "Even" 745) :: (.str "/claim/cut.py" 746) :: (.int 182 0) :: (.int 0 0) :: (.int 0 0) :: (.int 0 0) :: (.int 0 0) :: (.ref 431) :: (.bool false) :: (.int 181 0) :: (.ref 432) :: .none :: .none :: .none :: .none :: (.int 747 0) :: (.int 182 0) :: (.str "/claim/cut.py" 748) :: []⟩),⟨[]⟩⟩
noncomputable def ag6:Obj:=⟨(.type "frame"),none,.plain,⟨(some (.ref 433)) :: (some (.ref 3)) :: (some (.ref 430)) :: none :: (some (.str "chancehall.doors" 577)) :: none :: (some (.ref 0)) :: []⟩⟩
def aeE:Obj:=(cP "__init__" "Even.__init__" 754 184 4 3 435 757)
def afp:Obj:=(fO "__init__" "Even.__init__" (eN 52 0) (.str "chancehall.doors" 577) 438)
def aeP (P:Params):Obj:=⟨(.type "dict"),none,(.dict ⟨dE P "__module__" 749 (.str "chancehall.doors" 577) :: dE P "__firstlineno__" 753 (.int 182 752) :: dE P "__init__" 759 (.ref 439) :: dE P "__static_attributes__" 760 (.ref 440) :: dE P "__doc__" 761 .none :: []⟩ 2),⟨[]⟩⟩
noncomputable def ad0:Obj:=⟨(.type "type"),none,(.cls ⟨"Even",[(.ref 406)],[(.ref 442),(.ref 406),(.ref 366),(.type "object")],441, "Even",true,[],[],false,none,false⟩),⟨(some (.ref 428)) :: none :: (some (.str "Even" 742)) :: (some (.str "Even" 750)) :: (some (.builtin "object.__new__")) :: (some (.bool true)) :: []⟩⟩
noncomputable def ag4:Obj:=⟨(.type "super"),none,(.fields ⟨(.ref 442) :: (.ref 442) :: (.ref 442) :: []⟩),⟨[]⟩⟩
noncomputable def agk:Obj:=⟨(.type "builtin_function_or_method"),none,(.fields ⟨(.builtin "object.__init_subclass__") :: (.ref 442) :: []⟩),⟨[]⟩⟩
def aeF:Obj:=(cO "check_share" "check_share" 766 187 1 3 445 770)
def aeG:Obj:=(fO "check_share" "check_share" (top 54) (.str "chancehall.halls" 764) 450)
def adJ:Obj:=(cO "numbers_of" "numbers_of" 773 190 1 3 452 780)
def adM:Obj:=(fO "numbers_of" "numbers_of" (top 55) (.str "chancehall.halls" 764) 457)
def adb:Obj:=(tN 786 ["door", "numbers", "numbered", "name", "chance"])
def aes:Obj:=(cO "numbered_ways" "numbered_ways" 783 198 2 3 459 791)
def acP:Obj:=(fO "numbered_ways" "numbered_ways" (top 56) (.str "chancehall.halls" 764) 464)
def acZ:Obj:=(tN 797 ["doors", "numbers", "taken", "told", "door"])
def acQ:Obj:=(cO "offers_of" "offers_of" 794 205 2 3 466 802)
def acD:Obj:=(fO "offers_of" "offers_of" (top 57) (.str "chancehall.halls" 764) 471)
noncomputable def agP:Obj:=⟨(.type "builtin_function_or_method"),none,(.fields ⟨(.builtin "type.__prepare__") :: (.type "type") :: []⟩),⟨[]⟩⟩
def ag1 (P:Params):Obj:=⟨(.type "dict"),none,(.dict ⟨dE P "__module__" 812 (.str "chancehall.halls" 764) :: dE P "__qualname__" 814 (.str "Hall" 813) :: dE P "__firstlineno__" 816 (.int 214 815) :: dE P "__init__" 822 (.ref 484) :: dE P "size" 829 (.ref 491) :: dE P "names" 836 (.ref 498) :: dE P "place" 844 (.ref 505) :: dE P "check_room" 852 (.ref 512) :: dE P "door_at" 861 (.ref 519) :: dE P "offers" 867 (.ref 524) :: dE P "__static_attributes__" 871 (.ref 525) :: []⟩ 11),⟨[]⟩⟩
noncomputable def ag3:Obj:=⟨.none,none,(.fields ⟨(.int 216 0) :: (.int 4 0) :: (.ref 483) :: (.int 222 0) :: (.int 4 0) :: (.ref 490) :: (.int 225 0) :: (.int 4 0) :: (.ref 497) :: (.int 228 0) :: (.int 4 0) :: (.ref 504) :: (.int 233 0) :: (.int 4 0) :: (.ref 511) :: (.int 237 0) :: (.int 4 0) :: (.ref 518) :: (.int 240 0) :: (.int 4 0) :: (.ref 523) :: []⟩),⟨[]⟩⟩
noncomputable def af8:Obj:=⟨(.type "code"),none,(.fields ⟨(.str "Hall" 807) :: (.str "Hall" 808) :: (.str "/claim/cut.py" 809) :: (.int 214 0) :: (.int 0 0) :: (.int 0 0) :: (.int 0 0) :: (.int 0 0) :: (.ref 476) :: (.bool false) :: (.int 181 0) :: (.ref 477) :: .none :: .none :: .none :: .none :: (.int 810 0) :: (.int 214 0) :: (.str "/claim/cut.py" 811) :: []⟩),⟨[]⟩⟩
noncomputable def agV:Obj:=⟨(.type "frame"),none,.plain,⟨(some (.ref 478)) :: (some (.ref 3)) :: (some (.ref 475)) :: none :: (some (.str "chancehall.halls" 764)) :: none :: (some (.ref 0)) :: []⟩⟩
def afk:Obj:=(cP "__init__" "Hall.__init__" 817 216 3 3 480 820)
def aef:Obj:=(fO "__init__" "Hall.__init__" (eN 58 0) (.str "chancehall.halls" 764) 483)
def aeV:Obj:=(fO "size" "Hall.size" (eN 58 1) (.str "chancehall.halls" 764) 490)
def acH:Obj:=(fO "names" "Hall.names" (eN 58 2) (.str "chancehall.halls" 764) 497)
def adS:Obj:=(fO "place" "Hall.place" (eN 58 3) (.str "chancehall.halls" 764) 504)
def af6:Obj:=(fT "check_room" "Hall.check_room" (eN 58 4))
def ae8:Obj:=(cO "check_room" "Hall.check_room" 845 233 2 3 506 850)
def acE:Obj:=(fO "check_room" "Hall.check_room" (eN 58 4) (.str "chancehall.halls" 764) 511)
def ade:Obj:=(cO "door_at" "Hall.door_at" 853 237 3 3 513 859)
def afz:Obj:=(fO "door_at" "Hall.door_at" (eN 58 5) (.str "chancehall.halls" 764) 518)
def aeC:Obj:=(cP "offers" "Hall.offers" 862 240 2 3 520 865)
def ac3:Obj:=(fO "offers" "Hall.offers" (eN 58 6) (.str "chancehall.halls" 764) 523)
def adU (P:Params):Obj:=⟨(.type "dict"),none,(.dict ⟨dE P "__module__" 812 (.str "chancehall.halls" 764) :: dE P "__firstlineno__" 816 (.int 214 815) :: dE P "__init__" 822 (.ref 484) :: dE P "size" 829 (.ref 491) :: dE P "names" 836 (.ref 498) :: dE P "place" 844 (.ref 505) :: dE P "check_room" 852 (.ref 512) :: dE P "door_at" 861 (.ref 519) :: dE P "offers" 867 (.ref 524) :: dE P "__static_attributes__" 871 (.ref 525) :: dE P "__dict__" 873 (.ref 528) :: dE P "__weakref__" 875 (.ref 529) :: dE P "__doc__" 876 .none :: []⟩ 4),⟨[]⟩⟩
noncomputable def ac7:Obj:=⟨(.type "type"),none,(.cls ⟨"Hall",[(.type "object")],[(.ref 527),(.type "object")],526, "Hall",true,[],[],false,none,false⟩),⟨none :: none :: (some (.str "Hall" 805)) :: (some (.str "Hall" 813)) :: (some (.builtin "object.__new__")) :: (some (.bool true)) :: []⟩⟩
noncomputable def adX:Obj:=⟨(.type "getset_descriptor"),none,(.fields ⟨(.str "__dict__" 872) :: (.ref 527) :: (.builtin "function.__dict__") :: (.builtin "function.__dict__#set") :: []⟩),⟨[]⟩⟩
noncomputable def adn:Obj:=⟨(.type "getset_descriptor"),none,(.fields ⟨(.str "__weakref__" 874) :: (.ref 527) :: (.builtin "ExceptionGroup.__weakref__") :: .none :: []⟩),⟨[]⟩⟩
noncomputable def agC:Obj:=⟨(.type "super"),none,(.fields ⟨(.ref 527) :: (.ref 527) :: (.ref 527) :: []⟩),⟨[]⟩⟩
noncomputable def agE:Obj:=⟨(.type "builtin_function_or_method"),none,(.fields ⟨(.builtin "object.__init_subclass__") :: (.ref 527) :: []⟩),⟨[]⟩⟩
def aeg:Obj:=(cO "_law_cell" "_law_cell" 881 244 2 3 532 886)
def adw:Obj:=(fO "_law_cell" "_law_cell" (top 60) (.str "law_chancehall_k50_best_rounds" 879) 537)
def aer:Obj:=(tN 892 ["_law_cell_here", "_law_many", "_law_found", "_law_number", "_law_digits", "_law_k"])
def afg:Obj:=(cO "_law_stream" "_law_stream" 889 246 2 3 539 898)
def acX:Obj:=(fO "_law_stream" "_law_stream" (top 61) (.str "law_chancehall_k50_best_rounds" 879) 544)
def afJ:Obj:=(tN 904 ["_law_one", "_law_other", "_law_low", "_law_high"])
def ac4:Obj:=(cO "_law_gcd" "_law_gcd" 901 257 2 3 546 908)
def acM:Obj:=(fO "_law_gcd" "_law_gcd" (top 62) (.str "law_chancehall_k50_best_rounds" 879) 551)
def ad3:Obj:=(tN 914 ["_law_top", "_law_bottom", "_law_common"])
def afd:Obj:=(cO "_law_ratio" "_law_ratio" 911 262 2 3 553 917)
def adE:Obj:=(fO "_law_ratio" "_law_ratio" (top 63) (.str "law_chancehall_k50_best_rounds" 879) 558)
def aek:Obj:=(cO "_law_is_ratio" "_law_is_ratio" 920 265 1 3 560 925)
def ae0:Obj:=(fO "_law_is_ratio" "_law_is_ratio" (top 64) (.str "law_chancehall_k50_best_rounds" 879) 565)
def aga:Obj:=(fT "_law_are_ratios" "_law_are_ratios" (top 65))
def adi:Obj:=(cP "_law_are_ratios" "_law_are_ratios" 928 272 2 3 567 931)
def acF:Obj:=(fO "_law_are_ratios" "_law_are_ratios" (top 65) (.str "law_chancehall_k50_best_rounds" 879) 570)
def afo:Obj:=(cO "_law_same" "_law_same" 934 276 2 3 572 939)
def afs:Obj:=(fO "_law_same" "_law_same" (top 66) (.str "law_chancehall_k50_best_rounds" 879) 577)
def afK:Obj:=(cP "_law_names" "_law_names" 942 278 2 3 579 945)
def ae9:Obj:=(fO "_law_names" "_law_names" (top 67) (.str "law_chancehall_k50_best_rounds" 879) 582)
def adt:Obj:=(tN 951 ["_law_cell_here", "_law_small", "_law_xs", "_law_bottom"])
def afA:Obj:=(cO "_law_share" "_law_share" 948 287 2 3 584 955)
def ae4:Obj:=(fO "_law_share" "_law_share" (top 68) (.str "law_chancehall_k50_best_rounds" 879) 589)
def aew:Obj:=(tN 961 ["_law_cell_here", "_law_x", "_law_y", "_law_small"])
def afH:Obj:=(cO "_law_pay" "_law_pay" 958 291 4 3 591 965)
def aeZ:Obj:=(fO "_law_pay" "_law_pay" (top 69) (.str "law_chancehall_k50_best_rounds" 879) 596)
def aeI:Obj:=(cP "_law_door" "_law_door" 968 299 3 3 598 971)
def afl:Obj:=(fO "_law_door" "_law_door" (top 70) (.str "law_chancehall_k50_best_rounds" 879) 601)
def acJ:Obj:=(cP "_law_doors" "_law_doors" 974 316 4 3 603 977)
def aeu:Obj:=(fO "_law_doors" "_law_doors" (top 71) (.str "law_chancehall_k50_best_rounds" 879) 606)
def ado:Obj:=(cP "_law_built" "_law_built" 980 326 3 3 608 983)
def afB:Obj:=(fO "_law_built" "_law_built" (top 72) (.str "law_chancehall_k50_best_rounds" 879) 611)
def afO:Obj:=(cP "_law_hall" "_law_hall" 986 336 3 3 613 989)
def aez:Obj:=(fO "_law_hall" "_law_hall" (top 73) (.str "law_chancehall_k50_best_rounds" 879) 616)
def agQ:Obj:=(tN 995 ["_law_cell_here", "_law_rooms", "_law_xs", "_law_found", "_law_k"])
def agI:Obj:=(cO "_law_chosen" "_law_chosen" 992 343 2 3 618 1000)
def ahp:Obj:=(fO "_law_chosen" "_law_chosen" (top 74) (.str "law_chancehall_k50_best_rounds" 879) 623)
def aep:Obj:=(tN 1006 ["_law_share_here", "_law_door_here", "_law_worths", "_law_top", "_law_bottom", "_law_room", "_law_chance", "_law_part"])
def afn:Obj:=(cO "_law_look" "_law_look" 1003 352 3 3 625 1014)
def afc:Obj:=(fO "_law_look" "_law_look" (top 75) (.str "law_chancehall_k50_best_rounds" 879) 630)
def acS:Obj:=(cO "_law_below" "_law_below" 1017 362 2 3 632 1022)
def afu:Obj:=(fO "_law_below" "_law_below" (top 76) (.str "law_chancehall_k50_best_rounds" 879) 637)
def aeJ:Obj:=(cO "_law_sizes" "_law_sizes" 1025 364 1 3 639 1030)
def afE:Obj:=(fO "_law_sizes" "_law_sizes" (top 77) (.str "law_chancehall_k50_best_rounds" 879) 644)
def ahm:Obj:=(fT "_law_are_rounds" "_law_are_rounds" (top 78))
def afr:Obj:=(cP "_law_are_rounds" "_law_are_rounds" 1033 375 3 3 646 1036)
def acV:Obj:=(fO "_law_are_rounds" "_law_are_rounds" (top 78) (.str "law_chancehall_k50_best_rounds" 879) 649)
def ae2:Obj:=(cP "_law_right" "_law_right" 1039 379 4 3 651 1042)
def afe:Obj:=(fO "_law_right" "_law_right" (top 79) (.str "law_chancehall_k50_best_rounds" 879) 654)
def tr1 (P:Params):BT:=(.node (boot_o_0 P) (.node (boot_o_1 P) (.node (af2 P) (.node (boot_o_7 P) (.node tE (.node q31 (.node fE (.node adf (.node tE (lf ae8) .nil) (.node afw (lf tE) .nil)) (.node (fT "ratio" "ratio" (top 18)) (.node tE (lf tE) .nil) (lf (tN 769 ["share"])))) (.node q95 (.node tE (.node fE (lf (fT "_law_stream" "_law_stream" (top 61))) .nil) (lf ahb)) (.node fE (.node fE (lf aeu) .nil) (lf agV)))) (.node q47 (.node (q79 P) (.node tE (.node (fT "check_many" "check_many" (top 34)) (lf ac7) .nil) (.node (tN 702 ["self", "name", "pay", "pairs"]) (lf afe) .nil)) (.node acT (.node afx (lf tE) .nil) (lf (fT "numbered_ways" "numbered_ways" (top 56))))) (.node adA (.node (fT "is_whole" "is_whole" (top 13)) (.node (cP "is_word" "is_word" 571 124 1 3 300 574) (lf adE) .nil) (lf tE)) (.node (cP "level" "level" 482 79 1 3 236 485) (.node ada (lf agI) .nil) (lf tE))))) (.node q23 (.node fE (.node q71 (.node (agr P) (.node tE (lf afz) .nil) (.node ag2 (lf fE) .nil)) (.node (cO "is_ratio" "is_ratio" 431 60 1 3 194 437) (.node fE (lf ae9) .nil) (lf tE))) (.node fE (.node (acN P) (.node (tN 561 ["hall", "many"]) (lf ac4) .nil) (lf tE)) (.node (tN 475 ["one", "other"]) (.node (tN 644 ["self", "room"]) (lf (fT "_law_hall" "_law_hall" (top 73))) .nil) (lf (tN 826 ["self"]))))) (.node (q55 P) (.node fE (.node agN (.node (cO "lowered" "lowered" 534 105 2 3 274 539) (lf tE) .nil) (lf agU)) (.node tE (.node tE (lf fE) .nil) (lf acQ))) (.node agp (.node (cO "divisor" "divisor" 403 40 2 3 178 411) (.node afb (lf tE) .nil) (lf afp)) (.node afa (.node ahg (lf afc) .nil) (lf (fT "place" "Hall.place" (eN 58 3)))))))) (.node o11 (.node (fT "_wall" "_wall" (top 0)) (.node q35 (.node (q67 P) (.node agv (.node adg (lf (tN 856 ["self", "room", "name"])) .nil) (.node adz (lf (fT "_law_sizes" "_law_sizes" (top 77))) .nil)) (.node fE (.node (fT "check_chance" "check_chance" (top 45)) (lf tE) .nil) (lf aeG))) (.node q99 (.node (fT "__init__" "NoPlan.__init__" (eN 11 0)) (.node adQ (lf fE) .nil) (lf tE)) (.node (cO "over" "over" 464 74 2 3 222 469) (.node (cO "ways" "Door.ways" 634 159 1 3 350 638) (lf ado) .nil) (lf afk)))) (.node fE (.node q83 (.node (tN 364 ["door"]) (.node fE (lf agE) .nil) (lf ac2)) (.node tE (.node tE (lf (fT "_law_pay" "_law_pay" (top 69))) .nil) (lf fE))) (.node ags (.node fE (.node (tN 582 ["name", "pay"]) (lf tE) .nil) (lf tE)) (.node (tN 491 ["fractions", "leveled"]) (.node aeX (lf aep) .nil) (lf tE))))) (.node q27 (.node (q43 P) (.node fE (.node aho (.node tE (lf aeC) .nil) (.node agL (lf tE) .nil)) (.node (tN 443 ["one", "other"]) (.node tE (lf tE) .nil) (lf tE))) (.node aed (.node tE (.node adT (lf ad3) .nil) (lf agT)) (.node afN (.node aeY (lf fE) .nil) (lf aeV)))) (.node q59 (.node (q91 P) (.node tE (.node (fT "best_round" "best_round" (top 36)) (lf tE) .nil) (lf (agD P))) (.node (fT "times" "times" (top 22)) (.node (fT "__init__" "Door.__init__" (eN 48 0)) (lf tE) .nil) (lf (ag1 P)))) (.node (tN 334 ["self", "room"]) (.node tE (.node tE (lf acF) .nil) (lf ag4)) (.node tE (.node fE (lf tE) .nil) (lf fE))))))) (.node (boot_o_5 P) (.node (boot_o_9 P) (.node (tN 190 ["k"]) (.node q33 (.node q65 (.node (aeK P) (.node (fT "behind_door" "behind_door" (top 30)) (lf tE) .nil) (.node (tN 682 ["leads"]) (lf (tN 1028 ["_law_cell_here", "_law_xs"])) .nil)) (.node afy (.node (tN 597 ["chance"]) (lf afo) .nil) (lf (fT "check_share" "check_share" (top 54))))) (.node (q97 P) (.node (tN 384 ["self", "room"]) (.node tE (lf acX) .nil) (lf fE)) (.node tE (.node tE (lf fE) .nil) (lf fE)))) (.node (q49 P) (.node q81 (.node aea (.node adv (lf adn) .nil) (lf (fT "__init__" "Mixed.__init__" (eN 50 0)))) (.node fE (.node ag9 (lf aew) .nil) (lf acP))) (.node ahk (.node ad9 (.node tE (lf fE) .nil) (lf agz)) (.node tE (.node agh (lf tE) .nil) (lf (cO "names" "Hall.names" 830 225 1 3 492 834)))))) (.node tE (.node q41 (.node (q73 P) (.node ahd (.node afD (lf fE) .nil) (.node tE (lf afr) .nil)) (.node tE (.node aeO (lf fE) .nil) (lf adJ))) (.node tE (.node ahf (.node (fT "best_rounds" "best_rounds" (top 38)) (lf tE) .nil) (lf aey)) (.node (fT "under" "under" (top 24)) (.node (fT "chance_to" "Door.chance_to" (eN 48 2)) (lf aez) .nil) (lf (fT "size" "Hall.size" (eN 58 1)))))) (.node q57 (.node q89 (.node ahc (.node tE (lf aeg) .nil) (lf ac1)) (.node (tN 459 ["one", "other"]) (.node (tN 628 ["self", "name", "pay"]) (lf aeI) .nil) (lf tE))) (.node tE (.node aec (.node fE (lf aga) .nil) (lf (aeP P))) (.node fE (.node agx (lf fE) .nil) (lf adS)))))) (.node o13 (.node q21 (.node (q37 P) (.node q69 (.node aft (.node fE (lf (fT "door_at" "Hall.door_at" (eN 58 5))) .nil) (.node af0 (lf afE) .nil)) (.node tE (.node aeT (lf (fT "_law_names" "_law_names" (top 67))) .nil) (lf fE))) (.node agF (.node ae7 (.node tE (lf tE) .nil) (lf ac8)) (.node tE (.node tE (lf tE) .nil) (lf tE)))) (.node q53 (.node (q85 P) (.node adk (.node tE (lf fE) .nil) (lf (adV P))) (.node (cO "minus" "minus" 448 70 2 3 208 453) (.node agm (lf aeZ) .nil) (lf tE))) (.node tE (.node tE (.node (fT "check_head" "check_head" (top 43)) (lf aek) .nil) (lf (fT "__init__" "Even.__init__" (eN 52 0)))) (.node (fT "total" "total" (top 27)) (.node (agJ P) (lf (fT "_law_look" "_law_look" (top 75))) .nil) (lf (tN 840 ["self", "name"])))))) (.node tE (.node q45 (.node q77 (.node fE (.node (tN 530 ["many"]) (lf (tN 868 ["numbers", "offered", "share"])) .nil) (.node tE (lf (fT "_law_right" "_law_right" (top 79))) .nil)) (.node (fT "plus" "plus" (top 20)) (.node (fT "joined_ways" "joined_ways" (top 47)) (lf afA) .nil) (lf adb))) (.node (tN 314 ["row"]) (.node (tN 399 ["thing"]) (.node fE (lf (fT "_law_ratio" "_law_ratio" (top 63))) .nil) (lf agw)) (.node fE (.node (ae6 P) (lf tE) .nil) (lf fE)))) (.node (q61 P) (.node q93 (.node agK (.node acY (lf aer) .nil) (lf ag8)) (.node adF (.node adC (lf (fT "_law_doors" "_law_doors" (top 71))) .nil) (lf ag3))) (.node (fT "__init__" "NoRoom.__init__" (eN 9 0)) (.node (tN 425 ["top", "bottom", "common"]) (.node ad2 (lf fE) .nil) (lf tE)) (.node (cO "greatest" "greatest" 496 87 1 3 248 502) (.node tE (lf acS) .nil) (lf tE)))))))) (.node (boot_o_2 P) (.node (boot_o_4 P) (.node (boot_o_8 P) (.node fE (.node q32 (.node q64 (.node (tN 339 ["room"]) (.node fE (lf acE) .nil) (.node aei (lf fE) .nil)) (.node (cO "ratio" "ratio" 422 51 2 3 187 428) (.node fE (lf (fT "_law_same" "_law_same" (top 66))) .nil) (lf tE))) (.node q96 (.node fE (.node (tN 551 ["first", "many", "follow", "told"]) (lf afg) .nil) (lf tE)) (.node (tN 467 ["one", "other"]) (.node (tN 637 ["self"]) (lf tE) .nil) (lf tE)))) (.node q48 (.node q80 (.node (fT "__init__" "NoDoor.__init__" (eN 10 0)) (.node acO (lf adX) .nil) (lf tE)) (.node tE (.node tE (lf fE) .nil) (lf aes))) (.node agA (.node (cO "is_whole" "is_whole" 396 38 1 3 171 400) (.node afh (lf tE) .nil) (lf agq)) (.node acR (.node afM (lf ahp) .nil) (lf (fT "names" "Hall.names" (eN 58 2))))))) (.node (q24 P) (.node q40 (.node q72 (.node tE (.node (fT "raised_look" "raised_look" (top 31)) (lf tE) .nil) (.node (agu P) (lf ahm) .nil)) (.node adL (.node (fT "check_pairs" "check_pairs" (top 46)) (lf tE) .nil) (lf (fT "numbers_of" "numbers_of" (top 55))))) (.node (tN 309 ["self", "row"]) (.node ad6 (.node (tN 563 ["hall"]) (lf acM) .nil) (lf (aem P))) (.node tE (.node tE (lf afO) .nil) (lf tE)))) (.node q56 (.node q88 (.node afG (.node aee (lf (fT "_law_cell" "_law_cell" (top 60))) .nil) (lf agX)) (.node fE (.node fE (lf (fT "_law_door" "_law_door" (top 70))) .nil) (lf acD))) (.node agR (.node ac9 (.node tE (lf fE) .nil) (lf tE)) (.node tE (.node ag7 (lf tE) .nil) (lf (cO "place" "Hall.place" 837 228 2 3 499 842))))))) (.node acK (.node (cO "_wall" "_wall" 187 1 1 3 15 191) (.node q36 (.node q68 (.node agi (.node tE (lf tE) .nil) (.node agH (lf aeJ) .nil)) (.node (tN 434 ["thing", "top", "bottom"]) (.node aeU (lf fE) .nil) (lf tE))) (.node ahl (.node ac5 (.node acI (lf afJ) .nil) (lf (fT "__init__" "Toss.__init__" (eN 51 0)))) (.node acL (.node adB (lf afB) .nil) (lf aef)))) (.node q52 (.node q84 (.node (ad4 P) (.node (tN 537 ["raised", "bottom"]) (lf tE) .nil) (lf (tN 709 ["leads"]))) (.node (fT "minus" "minus" (top 21)) (.node af9 (lf afH) .nil) (lf acZ))) (.node (agy P) (.node afL (.node tE (lf (fT "_law_is_ratio" "_law_is_ratio" (top 64))) .nil) (lf fE)) (.node tE (.node ahi (lf tE) .nil) (lf fE))))) (.node q28 (.node q44 (.node q76 (.node tE (.node fE (lf ac3) .nil) (.node agG (lf fE) .nil)) (.node tE (.node fE (lf (fT "_law_share" "_law_share" (top 68))) .nil) (lf fE))) (.node adq (.node fE (.node tE (lf tE) .nil) (lf adW)) (.node tE (.node (tN 649 ["leads", "name", "pay"]) (lf agQ) .nil) (lf tE)))) (.node q60 (.node q92 (.node ahj (.node ad8 (lf fE) .nil) (lf tE)) (.node (cO "times" "times" 456 72 2 3 215 461) (.node aeD (lf fE) .nil) (lf tE))) (.node tE (.node fE (.node ago (lf tE) .nil) (lf agk)) (.node (fT "greatest" "greatest" (top 28)) (.node (tN 675 ["self", "name", "pay", "room"]) (lf (fT "_law_below" "_law_below" (top 76))) .nil) (lf (tN 848 ["self", "room"])))))))) (.node (boot_o_6 P) (.node (boot_o_10 P) (.node tE (.node q34 (.node tE (.node afi (.node afq (lf fE) .nil) (.node (adG P) (lf tE) .nil)) (.node tE (.node tE (lf afs) .nil) (lf aeF))) (.node tE (.node tE (.node (fT "rounds_behind" "rounds_behind" (top 37)) (lf tE) .nil) (lf adu)) (.node (fT "over" "over" (top 23)) (.node (fT "ways" "Door.ways" (eN 48 1)) (lf (fT "_law_built" "_law_built" (top 72))) .nil) (lf (fT "__init__" "Hall.__init__" (eN 58 0)))))) (.node tE (.node q82 (.node adh (.node tE (lf agC) .nil) (lf ae5)) (.node (tN 451 ["one", "other"]) (.node (agW P) (lf tE) .nil) (lf tE))) (.node afj (.node tE (.node fE (lf (tN 923 ["_law_found", "_law_number"])) .nil) (lf ag6)) (.node fE (.node agY (lf fE) .nil) (lf acH))))) (.node fE (.node tE (.node tE (.node afY (.node aeM (lf (fT "offers" "Hall.offers" (eN 58 6))) .nil) (.node agO (lf acV) .nil)) (.node fE (.node aeh (lf adt) .nil) (lf adM))) (.node (fT "__init__" "NoRow.__init__" (eN 8 0)) (.node agc (.node adl (lf fE) .nil) (lf agj)) (.node (cO "under" "under" 472 76 2 3 229 477) (.node ad5 (lf tE) .nil) (lf (cO "size" "Hall.size" 823 222 1 3 485 827))))) (.node q58 (.node tE (.node (ahe P) (.node fE (lf adw) .nil) (lf af5)) (.node tE (.node tE (lf afl) .nil) (lf agP))) (.node fE (.node aeQ (.node (tN 590 ["room"]) (lf adi) .nil) (lf ad0)) (.node (tN 499 ["fractions", "found", "one"]) (.node tE (lf (tN 1020 ["_law_one", "_law_other"])) .nil) (lf tE)))))) (.node o14 (.node q22 (.node tE (.node q70 (.node agl (.node aeH (lf ade) .nil) (.node aeB (lf tE) .nil)) (.node (fT "is_ratio" "is_ratio" (top 19)) (.node tE (lf afK) .nil) (lf (tN 776 ["rooms", "numbers", "room", "name"])))) (.node tE (.node (tN 389 ["room"]) (.node fE (lf (fT "_law_gcd" "_law_gcd" (top 62))) .nil) (lf adR)) (.node fE (.node fE (lf fE) .nil) (lf fE)))) (.node tE (.node tE (.node agf (.node (fT "lowered" "lowered" (top 35)) (lf (tN 884 ["_law_script", "_law_k"])) .nil) (lf aev)) (.node aeN (.node agS (lf tE) .nil) (lf (fT "offers_of" "offers_of" (top 57))))) (.node agB (.node (fT "divisor" "divisor" (top 14)) (.node afI (lf ae0) .nil) (lf aeE)) (.node (cO "total" "total" 488 84 1 3 241 493) (.node tE (lf afn) .nil) (lf tE))))) (.node (q30 P) (.node q46 (.node tE (.node (tN 359 ["self", "door"]) (.node tE (lf (adU P)) .nil) (.node fE (lf ae2) .nil)) (.node (cO "plus" "plus" 440 68 2 3 201 445) (.node aeS (lf ae4) .nil) (lf tE))) (.node (adp P) (.node tE (.node (fT "is_word" "is_word" (top 41)) (lf afd) .nil) (lf (afZ P))) (.node (fT "level" "level" (top 26)) (.node ad7 (lf (fT "_law_chosen" "_law_chosen" (top 74))) .nil) (lf (tN 833 ["self"]))))) (.node tE (.node q94 (.node afX (.node tE (lf tE) .nil) (lf af3)) (.node tE (.node tE (lf acJ) .nil) (lf af8))) (.node aej (.node tE (.node adD (lf (tN 937 ["_law_one", "_law_other"])) .nil) (lf fE)) (.node acG (.node (fT "__init__" "Sure.__init__" (eN 49 0)) (lf afu) .nil) (lf af6)))))))))
noncomputable def S1 (w:World) (os:OsState):SharedT:=⟨tr1 w.params,656,{},⟨[]⟩,{},1045,os⟩
def e1:Pos:=⟨379,0,391,15⟩
noncomputable def KH:Params->Frag:=fun P=>(
 (nat_lit 2,(boot_o_2 P)) ::
 (nat_lit 3,⟨(.type "dict"),none,(.dict ⟨dE P "__name__" 165 (.str "law_chancehall_k50_best_rounds" 879) :: dE P "__doc__" 166 .none :: dE P "__package__" 167 .none :: dE P "__loader__" 168 (.builtin "__main__.__loader__#opaque") :: dE P "__spec__" 169 .none :: dE P "__annotations__" 170 (.ref 6) :: dE P "__builtins__" 171 (.ref 4) :: dE P "__file__" 173 (.str "/claim/cut.py" 172) :: dE P "__cached__" 174 .none :: dE P "_wall" 193 (.ref 21) :: dE P "HallError" 213 (.ref 31) :: dE P "NoNumber" 229 (.ref 44) :: dE P "NoName" 245 (.ref 56) :: dE P "NoChance" 261 (.ref 68) :: dE P "NoShare" 277 (.ref 80) :: dE P "NoText" 293 (.ref 92) :: dE P "NoRow" 318 (.ref 111) :: dE P "NoRoom" 343 (.ref 130) :: dE P "NoDoor" 368 (.ref 149) :: dE P "NoPlan" 393 (.ref 168) :: dE P "is_whole" 402 (.ref 177) :: dE P "divisor" 413 (.ref 184) :: dE P "NOUGHT" 418 (.ref 185) :: dE P "ONE" 421 (.ref 186) :: dE P "ratio" 430 (.ref 193) :: dE P "is_ratio" 439 (.ref 200) :: dE P "plus" 447 (.ref 207) :: dE P "minus" 455 (.ref 214) :: dE P "times" 463 (.ref 221) :: dE P "over" 471 (.ref 228) :: dE P "under" 479 (.ref 235) :: dE P "level" 487 (.ref 240) :: dE P "total" 495 (.ref 247) :: dE P "greatest" 504 (.ref 254) :: dE P "behind_door" 512 (.ref 259) :: dE P "raised_look" 522 (.ref 266) :: dE P "MOST" 526 (.int 40 525) :: dE P "check_many" 533 (.ref 273) :: dE P "lowered" 541 (.ref 280) :: dE P "best_round" 547 (.ref 285) :: dE P "rounds_behind" 557 (.ref 292) :: dE P "best_rounds" 566 (.ref 299) :: dE P "LONGEST_WORD" 570 (.int 8 569) :: dE P "is_word" 576 (.ref 304) :: dE P "check_head" 586 (.ref 311) :: dE P "check_room_name" 593 (.ref 318) :: dE P "check_chance" 600 (.ref 325) :: dE P "check_pairs" 606 (.ref 330) :: dE P "joined_ways" 612 (.ref 335) :: dE P "Door" 659 (.ref 366) :: dE P "Sure" 686 (.ref 387) :: dE P "Mixed" 713 (.ref 406) :: dE P "Toss" 741 (.ref 425) :: dE P "Even" 763 (.ref 442) :: dE P "check_share" 772 (.ref 451) :: dE P "numbers_of" 782 (.ref 458) :: dE P "numbered_ways" 793 (.ref 465) :: dE P "offers_of" 804 (.ref 472) :: dE P "Hall" 878 (.ref 527) :: dE P "_law_cell" 888 (.ref 538) :: dE P "_law_stream" 900 (.ref 545) :: dE P "_law_gcd" 910 (.ref 552) :: dE P "_law_ratio" 919 (.ref 559) :: dE P "_law_is_ratio" 927 (.ref 566) :: dE P "_law_are_ratios" 933 (.ref 571) :: dE P "_law_same" 941 (.ref 578) :: dE P "_law_names" 947 (.ref 583) :: dE P "_law_share" 957 (.ref 590) :: dE P "_law_pay" 967 (.ref 597) :: dE P "_law_door" 973 (.ref 602) :: dE P "_law_doors" 979 (.ref 607) :: dE P "_law_built" 985 (.ref 612) :: dE P "_law_hall" 991 (.ref 617) :: dE P "_law_chosen" 1002 (.ref 624) :: dE P "_law_look" 1016 (.ref 631) :: dE P "_law_below" 1024 (.ref 638) :: dE P "_law_sizes" 1032 (.ref 645) :: dE P "_law_are_rounds" 1038 (.ref 650) :: dE P "_law_right" 1044 (.ref 655) :: dE P "_law_refused" 1054 (.ref 662) :: dE P "law" 1060 (.ref 667) :: []⟩ 81),⟨[]⟩⟩) ::
 (nat_lit 15,tE) ::
 (nat_lit 17,(tN 190 ["k"])) ::
 (nat_lit 18,tE) ::
 (nat_lit 20,(cO "_wall" "_wall" 187 1 1 3 15 191)) ::
 (nat_lit 21,q21) ::
 (nat_lit 22,q22) ::
 (nat_lit 29,tE) ::
 (nat_lit 30,(q30 P)) ::
 (nat_lit 31,q31) ::
 (nat_lit 32,q32) ::
 (nat_lit 35,q35) ::
 (nat_lit 42,tE) ::
 (nat_lit 43,(q43 P)) ::
 (nat_lit 44,q44) ::
 (nat_lit 47,q47) ::
 (nat_lit 54,tE) ::
 (nat_lit 55,(q55 P)) ::
 (nat_lit 56,q56) ::
 (nat_lit 59,q59) ::
 (nat_lit 66,tE) ::
 (nat_lit 67,(q67 P)) ::
 (nat_lit 68,q68) ::
 (nat_lit 71,q71) ::
 (nat_lit 78,tE) ::
 (nat_lit 79,(q79 P)) ::
 (nat_lit 80,q80) ::
 (nat_lit 83,q83) ::
 (nat_lit 90,tE) ::
 (nat_lit 91,(q91 P)) ::
 (nat_lit 92,q92) ::
 (nat_lit 95,q95) ::
 (nat_lit 102,tE) ::
 (nat_lit 104,(tN 309 ["self", "row"])) ::
 (nat_lit 105,tE) ::
 (nat_lit 107,aed) ::
 (nat_lit 108,adq) ::
 (nat_lit 109,(tN 314 ["row"])) ::
 (nat_lit 110,(adp P)) ::
 (nat_lit 111,adA) ::
 (nat_lit 114,afj) ::
 (nat_lit 121,tE) ::
 (nat_lit 123,(tN 334 ["self", "room"])) ::
 (nat_lit 124,tE) ::
 (nat_lit 126,aej) ::
 (nat_lit 127,adf) ::
 (nat_lit 128,(tN 339 ["room"])) ::
 (nat_lit 129,(aeK P)) ::
 (nat_lit 130,afi) ::
 (nat_lit 133,aft) ::
 (nat_lit 140,tE) ::
 (nat_lit 142,(tN 359 ["self", "door"])) ::
 (nat_lit 143,tE) ::
 (nat_lit 145,aea) ::
 (nat_lit 146,adh) ::
 (nat_lit 147,(tN 364 ["door"])) ::
 (nat_lit 148,(ad4 P)) ::
 (nat_lit 149,adk) ::
 (nat_lit 152,afG) ::
 (nat_lit 159,tE) ::
 (nat_lit 161,(tN 384 ["self", "room"])) ::
 (nat_lit 162,tE) ::
 (nat_lit 164,ac5) ::
 (nat_lit 165,ae7) ::
 (nat_lit 166,(tN 389 ["room"])) ::
 (nat_lit 167,(acN P)) ::
 (nat_lit 168,ad6) ::
 (nat_lit 171,tE) ::
 (nat_lit 173,(tN 399 ["thing"])) ::
 (nat_lit 174,tE) ::
 (nat_lit 176,(cO "is_whole" "is_whole" 396 38 1 3 171 400)) ::
 (nat_lit 177,ad9) ::
 (nat_lit 178,tE) ::
 (nat_lit 180,afL) ::
 (nat_lit 181,tE) ::
 (nat_lit 183,(cO "divisor" "divisor" 403 40 2 3 178 411)) ::
 (nat_lit 184,ac9) ::
 (nat_lit 185,aec) ::
 (nat_lit 186,aeQ) ::
 (nat_lit 187,tE) ::
 (nat_lit 189,(tN 425 ["top", "bottom", "common"])) ::
 (nat_lit 190,tE) ::
 (nat_lit 192,(cO "ratio" "ratio" 422 51 2 3 187 428)) ::
 (nat_lit 193,afy) ::
 (nat_lit 194,tE) ::
 (nat_lit 196,(tN 434 ["thing", "top", "bottom"])) ::
 (nat_lit 197,tE) ::
 (nat_lit 199,(cO "is_ratio" "is_ratio" 431 60 1 3 194 437)) ::
 (nat_lit 200,adL) ::
 (nat_lit 201,tE) ::
 (nat_lit 203,(tN 443 ["one", "other"])) ::
 (nat_lit 204,tE) ::
 (nat_lit 206,(cO "plus" "plus" 440 68 2 3 201 445)) ::
 (nat_lit 207,acT) ::
 (nat_lit 208,tE) ::
 (nat_lit 210,(tN 451 ["one", "other"])) ::
 (nat_lit 211,tE) ::
 (nat_lit 213,(cO "minus" "minus" 448 70 2 3 208 453)) ::
 (nat_lit 214,aeN) ::
 (nat_lit 215,tE) ::
 (nat_lit 217,(tN 459 ["one", "other"])) ::
 (nat_lit 218,tE) ::
 (nat_lit 220,(cO "times" "times" 456 72 2 3 215 461)) ::
 (nat_lit 221,adF) ::
 (nat_lit 222,tE) ::
 (nat_lit 224,(tN 467 ["one", "other"])) ::
 (nat_lit 225,tE) ::
 (nat_lit 227,(cO "over" "over" 464 74 2 3 222 469)) ::
 (nat_lit 228,acL) ::
 (nat_lit 229,tE) ::
 (nat_lit 231,(tN 475 ["one", "other"])) ::
 (nat_lit 232,tE) ::
 (nat_lit 234,(cO "under" "under" 472 76 2 3 229 477)) ::
 (nat_lit 235,afN) ::
 (nat_lit 236,tE) ::
 (nat_lit 239,(cP "level" "level" 482 79 1 3 236 485)) ::
 (nat_lit 240,acR) ::
 (nat_lit 241,tE) ::
 (nat_lit 243,(tN 491 ["fractions", "leveled"])) ::
 (nat_lit 244,tE) ::
 (nat_lit 246,(cO "total" "total" 488 84 1 3 241 493)) ::
 (nat_lit 247,afa) ::
 (nat_lit 248,tE) ::
 (nat_lit 250,(tN 499 ["fractions", "found", "one"])) ::
 (nat_lit 251,tE) ::
 (nat_lit 253,(cO "greatest" "greatest" 496 87 1 3 248 502)) ::
 (nat_lit 254,acG) ::
 (nat_lit 255,tE) ::
 (nat_lit 258,afq) ::
 (nat_lit 259,adg) ::
 (nat_lit 260,tE) ::
 (nat_lit 262,aeH) ::
 (nat_lit 263,tE) ::
 (nat_lit 265,afD) ::
 (nat_lit 266,aeM) ::
 (nat_lit 267,tE) ::
 (nat_lit 269,(tN 530 ["many"])) ::
 (nat_lit 270,tE) ::
 (nat_lit 272,acO) ::
 (nat_lit 273,adv) ::
 (nat_lit 274,tE) ::
 (nat_lit 276,(tN 537 ["raised", "bottom"])) ::
 (nat_lit 277,tE) ::
 (nat_lit 279,(cO "lowered" "lowered" 534 105 2 3 274 539)) ::
 (nat_lit 280,aee) ::
 (nat_lit 281,tE) ::
 (nat_lit 284,ad8) ::
 (nat_lit 285,acY) ::
 (nat_lit 286,tE) ::
 (nat_lit 288,(tN 551 ["first", "many", "follow", "told"])) ::
 (nat_lit 289,tE) ::
 (nat_lit 291,adQ) ::
 (nat_lit 292,acI) ::
 (nat_lit 293,tE) ::
 (nat_lit 295,(tN 561 ["hall", "many"])) ::
 (nat_lit 296,(tN 563 ["hall"])) ::
 (nat_lit 298,adl) ::
 (nat_lit 299,adT) ::
 (nat_lit 300,tE) ::
 (nat_lit 303,(cP "is_word" "is_word" 571 124 1 3 300 574)) ::
 (nat_lit 304,afh) ::
 (nat_lit 305,tE) ::
 (nat_lit 307,(tN 582 ["name", "pay"])) ::
 (nat_lit 308,tE) ::
 (nat_lit 310,afI) ::
 (nat_lit 311,afb) ::
 (nat_lit 312,tE) ::
 (nat_lit 314,(tN 590 ["room"])) ::
 (nat_lit 315,tE) ::
 (nat_lit 317,ad2) ::
 (nat_lit 318,adD) ::
 (nat_lit 319,tE) ::
 (nat_lit 321,(tN 597 ["chance"])) ::
 (nat_lit 322,tE) ::
 (nat_lit 324,aeU) ::
 (nat_lit 325,aeT) ::
 (nat_lit 326,tE) ::
 (nat_lit 329,aeO) ::
 (nat_lit 330,aeh) ::
 (nat_lit 331,tE) ::
 (nat_lit 334,aeS) ::
 (nat_lit 335,afx) ::
 (nat_lit 343,tE) ::
 (nat_lit 345,(tN 628 ["self", "name", "pay"])) ::
 (nat_lit 346,tE) ::
 (nat_lit 348,aeD) ::
 (nat_lit 349,adC) ::
 (nat_lit 350,tE) ::
 (nat_lit 352,(tN 637 ["self"])) ::
 (nat_lit 353,tE) ::
 (nat_lit 355,(cO "ways" "Door.ways" 634 159 1 3 350 638)) ::
 (nat_lit 356,adB) ::
 (nat_lit 357,tE) ::
 (nat_lit 359,(tN 644 ["self", "room"])) ::
 (nat_lit 360,tE) ::
 (nat_lit 362,ad5) ::
 (nat_lit 363,aeY) ::
 (nat_lit 364,(tN 649 ["leads", "name", "pay"])) ::
 (nat_lit 365,(ae6 P)) ::
 (nat_lit 366,ad7) ::
 (nat_lit 367,ada) ::
 (nat_lit 368,afM) ::
 (nat_lit 371,aeX) ::
 (nat_lit 378,tE) ::
 (nat_lit 380,(tN 675 ["self", "name", "pay", "room"])) ::
 (nat_lit 381,tE) ::
 (nat_lit 383,afw) ::
 (nat_lit 384,aei) ::
 (nat_lit 385,(tN 682 ["leads"])) ::
 (nat_lit 386,(adG P)) ::
 (nat_lit 387,adz) ::
 (nat_lit 390,aeB) ::
 (nat_lit 397,tE) ::
 (nat_lit 399,(tN 702 ["self", "name", "pay", "pairs"])) ::
 (nat_lit 400,tE) ::
 (nat_lit 402,ae5) ::
 (nat_lit 403,ac2) ::
 (nat_lit 404,(tN 709 ["leads"])) ::
 (nat_lit 405,(adV P)) ::
 (nat_lit 406,aev) ::
 (nat_lit 409,ac1) ::
 (nat_lit 416,tE) ::
 (nat_lit 418,adu) ::
 (nat_lit 419,tE) ::
 (nat_lit 421,ac8) ::
 (nat_lit 422,adR) ::
 (nat_lit 423,tE) ::
 (nat_lit 424,(aem P)) ::
 (nat_lit 425,aey) ::
 (nat_lit 428,adW) ::
 (nat_lit 435,tE) ::
 (nat_lit 438,aeE) ::
 (nat_lit 439,afp) ::
 (nat_lit 440,tE) ::
 (nat_lit 441,(aeP P)) ::
 (nat_lit 442,ad0) ::
 (nat_lit 445,tE) ::
 (nat_lit 447,(tN 769 ["share"])) ::
 (nat_lit 448,tE) ::
 (nat_lit 450,aeF) ::
 (nat_lit 451,aeG) ::
 (nat_lit 452,tE) ::
 (nat_lit 454,(tN 776 ["rooms", "numbers", "room", "name"])) ::
 (nat_lit 455,tE) ::
 (nat_lit 457,adJ) ::
 (nat_lit 458,adM) ::
 (nat_lit 459,tE) ::
 (nat_lit 461,adb) ::
 (nat_lit 462,tE) ::
 (nat_lit 464,aes) ::
 (nat_lit 465,acP) ::
 (nat_lit 466,tE) ::
 (nat_lit 468,acZ) ::
 (nat_lit 469,tE) ::
 (nat_lit 471,acQ) ::
 (nat_lit 472,acD) ::
 (nat_lit 480,tE) ::
 (nat_lit 483,afk) ::
 (nat_lit 484,aef) ::
 (nat_lit 485,tE) ::
 (nat_lit 487,(tN 826 ["self"])) ::
 (nat_lit 488,tE) ::
 (nat_lit 490,(cO "size" "Hall.size" 823 222 1 3 485 827)) ::
 (nat_lit 491,aeV) ::
 (nat_lit 492,tE) ::
 (nat_lit 494,(tN 833 ["self"])) ::
 (nat_lit 495,tE) ::
 (nat_lit 497,(cO "names" "Hall.names" 830 225 1 3 492 834)) ::
 (nat_lit 498,acH) ::
 (nat_lit 499,tE) ::
 (nat_lit 501,(tN 840 ["self", "name"])) ::
 (nat_lit 502,tE) ::
 (nat_lit 504,(cO "place" "Hall.place" 837 228 2 3 499 842)) ::
 (nat_lit 505,adS) ::
 (nat_lit 506,tE) ::
 (nat_lit 508,(tN 848 ["self", "room"])) ::
 (nat_lit 509,tE) ::
 (nat_lit 511,ae8) ::
 (nat_lit 512,acE) ::
 (nat_lit 513,tE) ::
 (nat_lit 515,(tN 856 ["self", "room", "name"])) ::
 (nat_lit 516,tE) ::
 (nat_lit 518,ade) ::
 (nat_lit 519,afz) ::
 (nat_lit 520,tE) ::
 (nat_lit 523,aeC) ::
 (nat_lit 524,ac3) ::
 (nat_lit 525,(tN 868 ["numbers", "offered", "share"])) ::
 (nat_lit 526,(adU P)) ::
 (nat_lit 527,ac7) ::
 (nat_lit 528,adX) ::
 (nat_lit 529,adn) ::
 (nat_lit 532,tE) ::
 (nat_lit 534,(tN 884 ["_law_script", "_law_k"])) ::
 (nat_lit 535,tE) ::
 (nat_lit 537,aeg) ::
 (nat_lit 538,adw) ::
 (nat_lit 539,tE) ::
 (nat_lit 541,aer) ::
 (nat_lit 542,tE) ::
 (nat_lit 544,afg) ::
 (nat_lit 545,acX) ::
 (nat_lit 546,tE) ::
 (nat_lit 548,afJ) ::
 (nat_lit 549,tE) ::
 (nat_lit 551,ac4) ::
 (nat_lit 552,acM) ::
 (nat_lit 553,tE) ::
 (nat_lit 555,ad3) ::
 (nat_lit 556,tE) ::
 (nat_lit 558,afd) ::
 (nat_lit 559,adE) ::
 (nat_lit 560,tE) ::
 (nat_lit 562,(tN 923 ["_law_found", "_law_number"])) ::
 (nat_lit 563,tE) ::
 (nat_lit 565,aek) ::
 (nat_lit 566,ae0) ::
 (nat_lit 567,tE) ::
 (nat_lit 570,adi) ::
 (nat_lit 571,acF) ::
 (nat_lit 572,tE) ::
 (nat_lit 574,(tN 937 ["_law_one", "_law_other"])) ::
 (nat_lit 575,tE) ::
 (nat_lit 577,afo) ::
 (nat_lit 578,afs) ::
 (nat_lit 579,tE) ::
 (nat_lit 582,afK) ::
 (nat_lit 583,ae9) ::
 (nat_lit 584,tE) ::
 (nat_lit 586,adt) ::
 (nat_lit 587,tE) ::
 (nat_lit 589,afA) ::
 (nat_lit 590,ae4) ::
 (nat_lit 591,tE) ::
 (nat_lit 593,aew) ::
 (nat_lit 594,tE) ::
 (nat_lit 596,afH) ::
 (nat_lit 597,aeZ) ::
 (nat_lit 598,tE) ::
 (nat_lit 601,aeI) ::
 (nat_lit 602,afl) ::
 (nat_lit 603,tE) ::
 (nat_lit 606,acJ) ::
 (nat_lit 607,aeu) ::
 (nat_lit 608,tE) ::
 (nat_lit 611,ado) ::
 (nat_lit 612,afB) ::
 (nat_lit 613,tE) ::
 (nat_lit 616,afO) ::
 (nat_lit 617,aez) ::
 (nat_lit 625,tE) ::
 (nat_lit 627,aep) ::
 (nat_lit 628,tE) ::
 (nat_lit 630,afn) ::
 (nat_lit 631,afc) ::
 (nat_lit 632,tE) ::
 (nat_lit 634,(tN 1020 ["_law_one", "_law_other"])) ::
 (nat_lit 635,tE) ::
 (nat_lit 637,acS) ::
 (nat_lit 638,afu) ::
 (nat_lit 639,tE) ::
 (nat_lit 641,(tN 1028 ["_law_cell_here", "_law_xs"])) ::
 (nat_lit 642,tE) ::
 (nat_lit 644,aeJ) ::
 (nat_lit 645,afE) ::
 (nat_lit 646,tE) ::
 (nat_lit 649,afr) ::
 (nat_lit 650,acV) ::
 (nat_lit 651,tE) ::
 (nat_lit 654,ae2) ::
 (nat_lit 655,afe) ::
 (nat_lit 656,tE) ::
 (nat_lit 658,(tN 1048 ["_law_hall_here", "_law_many", "e", "_law_others"])) ::
 (nat_lit 659,tE) ::
 (nat_lit 661,(cO "_law_refused" "_law_refused" 1045 392 2 3 656 1052)) ::
 (nat_lit 662,(fO "_law_refused" "_law_refused" (top 80) (.str "law_chancehall_k50_best_rounds" 879) 661)) ::
 (nat_lit 663,tE) ::
 (nat_lit 666,(cP "law" "law" 1055 400 1 3 663 1058)) ::
 (nat_lit 667,(fO "law" "law" (top 81) (.str "law_chancehall_k50_best_rounds" 879) 666)) ::
 ([] : List (Nat × Obj)))
abbrev asH:List Nat:=[2,3,15,17,18,20,21,22,29,30,31,32,35,42,43,44,47,54,55,56,59,66,67,68,71,78,79,80,83,90,91,92,95,102,104,105,107,108,109,110,111,114,121,123,124,126,127,128,129,130,133,140,142,143,145,146,147,148,149,152,159,161,162,164,165,166,167,168,171,173,174,176,177,178,180,181,183,184,185,186,187,189,190,192,193,194,196,197,199,200,201,203,204,206,207,208,210,211,213,214,215,217,218,220,221,222,224,225,227,228,229,231,232,234,235,236,239,240,241,243,244,246,247,248,250,251,253,254,255,258,259,260,262,263,265,266,267,269,270,272,273,274,276,277,279,280,281,284,285,286,288,289,291,292,293,295,296,298,299,300,303,304,305,307,308,310,311,312,314,315,317,318,319,321,322,324,325,326,329,330,331,334,335,343,345,346,348,349,350,352,353,355,356,357,359,360,362,363,364,365,366,367,368,371,378,380,381,383,384,385,386,387,390,397,399,400,402,403,404,405,406,409,416,418,419,421,422,423,424,425,428,435,438,439,440,441,442,445,447,448,450,451,452,454,455,457,458,459,461,462,464,465,466,468,469,471,472,480,483,484,485,487,488,490,491,492,494,495,497,498,499,501,502,504,505,506,508,509,511,512,513,515,516,518,519,520,523,524,525,526,527,528,529,532,534,535,537,538,539,541,542,544,545,546,548,549,551,552,553,555,556,558,559,560,562,563,565,566,567,570,571,572,574,575,577,578,579,582,583,584,586,587,589,590,591,593,594,596,597,598,601,602,603,606,607,608,611,612,613,616,617,625,627,628,630,631,632,634,635,637,638,639,641,642,644,645,646,649,650,651,654,655,656,658,659,661,662,663,666,667]
def KHT (P:Params):Frag:=KH P ++ [(nat_lit 294,fE)]
abbrev asT:List Nat:=asH ++ [294]
end
noncomputable def qv:Program:=view p [0,2,3,4,5,6,7,8,9,10,11,13,14,16,17,18,19,20,21,22,23,24,26,27,28,30,31,33,34,35,36,37,38,40,41,43,44,45,46,47,48,49,50,51,52,54,55,56,57,58,60,61,62,63,64,65,66,67,68,69,70,71,72,73,74,75,76,77,78,79,80,81]
abbrev R:RowW:=PySem.Challenge.rw_chancehall_k50_best_rounds.row.toRowW
noncomputable def Xt (s:Shared):Bool:=xlAt qv [] s && recOk R.records s
def e:Pos:=⟨400,0,419,101⟩
set_option maxHeartbeats 0
theorem wsd:PySem.Challenge.rw_chancehall_k50_best_rounds.wellSaid = true:=by kernel_rfl
theorem asK:∀ P,asT = (KHT P).map (·.1):=fun _=>by kernel_rfl
theorem pre (w:World):(fun os=>topGo treeTable p w 11 ann 12 (S0 w os) (topStub p)) = fun os=>some (Sa w os,⟨denote treeTable (cE p),cE p,z,B⟩):=by
 rw [Fast.te15667345088766844465,Fast.te14364793385576792824,Fast.te11892475500146522536]; kernel_rfl
theorem block (w:World):(fun os=>segRun treeTable p w 11 ann 1 1 (Sa w os) (blockOf (behindTheImports p) (env p) (cE p) z B)) = fun os=>some (.next,(Sb w os).abs,cE p,z):=by
 rw [Fast.te14374325043358763698,Fast.te14364793385576792824]; kernel_rfl
theorem adI (w:World):(fun os=>segRunT treeTable p w 11 ann 1 30000 (Sb w os) (piecesOf ((behindTheImports p).take 80) (env p) (cE p) z B)) = fun os=>some (.next,S1 w os,cE p,e1):=by
 rw [Fast.te10110043849684766642,Fast.te14364793385576792824]; kernel_rfl
theorem big (w:World):(fun os=>(segRunT treeTable p w 11 ann 1 50000 (S1 w os) (piecesOf ((behindTheImports p).drop 80) (env p) (cE p) e1 B)).map fun r =>
  (r.1,r.2.2.1,r.2.2.2,(topRun treeTable p w 11 ann 2 r.2.1.abs ⟨doneF .next,cE p,e,B⟩).map fun s =>
   (staticsOk (importedModules p.main.body) (boot_heap w.params) s.heap && namesBound p s.heap && gensDone s && laidKept (boot_heap w.params) s.heap,openSeen qv [] (importedModules p.main.body) Xt true s,asT.map s.heap.get?))) =
  fun _=>some (.next,cE p,e,some (true,openGood qv [],(KHT w.params).map fun p=>some p.2)):=by
 rw [Fast.te10110043849684766642,Fast.te14364793385576792824,Fast.te14082659384304107361,Fast.te4187177175401517315,Fast.te5923862056798008813]; kernel_rfl
theorem left:LeftO p qv [] Xt (fun s=>asT.map s.heap.get?) (fun w=>(KHT w.params).map fun p=>some p.2) 200000 :=
 Ss (boot_open rfl rfl fun _=>rfl) pre block (fun w os=>nA.cutAt (congrFun (adI w) os) (nA.last (congrFun (big w) os))) rfl
theorem hX (s:Shared) (h:Xt s = true):XL qv [] (s.heap.nsMap mainGlobals) s.heap:=xl_of s (Bool.and_eq_true_iff.mp h).1
theorem hR (s:Shared) (h:Xt s = true):RecFacts R.records s.heap:=recFacts_of (Bool.and_eq_true_iff.mp h).2
end H50
namespace L2
open PySem PySem.Spec PyProof.Rows
abbrev Key:=Sum Int Str
def xX:Key->Value->Bool
 | .inl k,v=>Value.isInt k v
 | .inr x,v=>Value.isStrOf x v
def agg (w:World):Key->Int
 | .inl k=>hashInt k
 | .inr x=>hashStr w x
theorem fL:∀ {k:Key} {v:Value},xX k v = true->(∃ i t,k = Sum.inl i/\v = Value.int i t)\/(∃ x t,k = Sum.inr x/\v = Value.str x t)
 | .inl i,v,h=>by
  obtain ⟨t,e⟩:=Value.isInt_shape (k:=i) (v:=v) h
  exact .inl ⟨i,t,rfl,e⟩
 | .inr x,v,h=>by
  obtain ⟨t,e⟩:=Value.isStrOf_shape (x:=x) (v:=v) h
  exact .inr ⟨x,t,rfl,e⟩
theorem RG (i:Int) (t:Tok):xX (.inl i) (.int i t) = true:=by simp [xX,Value.isInt]
theorem RV (x:Str) (t:Tok):xX (.inr x) (.str x t) = true:=by simp [xX,Value.isStrOf]
theorem abA (a b:Int):decide ((Sum.inl a:Key) = Sum.inl b) = (a == b):=by
 by_cases e:a = b
 .subst e; simp
 .have h:¬ (Sum.inl a:Key) = Sum.inl b:=fun q=>e (Sum.inl.inj q)
  rw [decide_eq_false h]
  exact (beq_eq_false_iff_ne.mpr e).symm
theorem acA (a b:Str):decide ((Sum.inr a:Key) = Sum.inr b) = decide (a = b):=by
 by_cases e:a = b
 .subst e; simp
 .have h:¬ (Sum.inr a:Key) = Sum.inr b:=fun q=>e (Sum.inr.inj q)
  rw [decide_eq_false h,decide_eq_false e]
theorem abT (a:Int) (b:Str):decide ((Sum.inl a:Key) = Sum.inr b) = false:=decide_eq_false (fun q=>nomatch q)
theorem abv (a:Str) (b:Int):decide ((Sum.inr a:Key) = Sum.inl b) = false:=decide_eq_false (fun q=>nomatch q)
def jW (prog:Program) (w:World):PySem.KeyKind prog w Key where
 is:=xX
 hash:=agg w
 inj:=fun v a b ha hb=>by
  rcases fL ha with ⟨i,t,rfl,rfl⟩ | ⟨x,t,rfl,rfl⟩
  .rcases fL hb with ⟨j,u,rfl,e⟩ | ⟨y,u,rfl,e⟩
   .injection e with e1 _; rw [e1]
   .exact nomatch e
  .rcases fL hb with ⟨j,u,rfl,e⟩ | ⟨y,u,rfl,e⟩
   .exact nomatch e
   .injection e with e1 _; rw [e1]
 byValue:=fun k v h=>by
  rcases fL h with ⟨i,t,rfl,rfl⟩ | ⟨x,t,rfl,rfl⟩ <;> rfl
 pyHash:=fun hv h=>by
  rcases fL hv with ⟨i,t,rfl,rfl⟩ | ⟨x,t,rfl,rfl⟩
  .exact wpAny_pyHash_int h
  .exact wpAny_pyHash_str h
 eqBool:=fun hu hv h=>by
  rcases fL hu with ⟨i,t,rfl,rfl⟩ | ⟨x,t,rfl,rfl⟩
  .rcases fL hv with ⟨j,u,rfl,rfl⟩ | ⟨y,u,rfl,rfl⟩
   .rw [abA] at h; exact wpAny_eqBool_int h
   .rw [abT] at h; exact SeqAt.EqAt.int_str i t y u _ _ _ _ h
  .rcases fL hv with ⟨j,u,rfl,rfl⟩ | ⟨y,u,rfl,rfl⟩
   .rw [abv] at h; exact SeqAt.EqAt.str_int x t j u _ _ _ _ h
   .rw [acA] at h; exact wpAny_eqBool_str h
 «strs»:=fun k x t v h=>by
  rcases fL h with ⟨i,u,rfl,e⟩ | ⟨y,u,rfl,e⟩
  .exact nomatch e
  .injection e with e1 _
   subst e1
   cases v <;> rfl
theorem Mq (prog:Program) (w:World) (i:Int) (t:Tok):(jW prog w).is (.inl i) (.int i t) = true:=RG i t
theorem K_ (prog:Program) (w:World) (x:Str) (t:Tok):(jW prog w).is (.inr x) (.str x t) = true:=RV x t
inductive V where
 | non | bl (b:Bool) | int (i:Int) | str (x:Str) | byt (b:Array UInt8) | flt (b:UInt64) | ref (a:Addr) | ty (n:String)
 deriving DecidableEq
def RelV:V->Value->Prop
 | .non,u=>u = Value.none
 | .bl b,u=>u = Value.bool b
 | .int i,u=>∃ t,u = Value.int i t
 | .str x,u=>∃ t,u = Value.str x t
 | .byt b,u=>∃ t,u = Value.bytes b t
 | .flt b,u=>∃ t,u = Value.float b t
 | .ref a,u=>u = Value.ref a
 | .ty n,u=>u = Value.type n
abbrev Vals:List V->List Value->Prop:=Paired RelV
theorem Vals.length {xs:List V} {us:List Value} (r:Vals xs us):xs.length = us.length:=Paired.length r
theorem Vals.get:∀ {xs:List V} {us:List Value} {i:Nat} {x:V},Vals xs us->xs[i]? = some x->∃ u,us[i]? = some u/\RelV x u
 | _,_,_,_,.nil,e=>by simp at e
 | _,_,0,_,.cons r _,e=>by simp at e; subst e; exact ⟨_,rfl,r⟩
 | _,_,i + 1,x,.cons _ t,e=>by
  obtain ⟨u,h1,h2⟩:=Vals.get (i:=i) (x:=x) t (by simpa using e)
  exact ⟨u,by simpa using h1,h2⟩
theorem Vals.set {x:V} {u:Value} (r:RelV x u):∀ {xs:List V} {us:List Value} (i:Nat),Vals xs us->Vals (xs.set i x) (us.set i u)
 | _,_,_,.nil=>.nil
 | _,_,0,.cons _ t=>.cons r t
 | _,_,i + 1,.cons q t=>.cons q (Vals.set r i t)
theorem Vals.append:∀ {xs ys:List V} {us ws:List Value},Vals xs us->Vals ys ws->Vals (xs ++ ys) (us ++ ws)
 | _,_,_,_,.nil,s=>s
 | _,_,_,_,.cons r t,s=>.cons r (Vals.append t s)
theorem Vals.take:∀ {xs:List V} {us:List Value} (n:Nat),Vals xs us->Vals (xs.take n) (us.take n)
 | _,_,0,_=>.nil
 | _,_,_ + 1,.nil=>.nil
 | _,_,n + 1,.cons r t=>.cons r (Vals.take n t)
theorem Vals.drop:∀ {xs:List V} {us:List Value} (n:Nat),Vals xs us->Vals (xs.drop n) (us.drop n)
 | _,_,0,r=>r
 | _,_,_ + 1,.nil=>.nil
 | _,_,n + 1,.cons _ t=>Vals.drop n t
def vA:Option V->Option Value->Prop
 | some v,some u=>RelV v u
 | none,none=>True
 | _,_=>False
def KV {κ:Type} : List (κ × V)->List (κ × Value)->Prop:=Paired fun (p:κ × V) (q:κ × Value)=>p.1 = q.1/\RelV p.2 q.2
def kV:Key->V
 | .inl i=>.int i
 | .inr x=>.str x
inductive HO where
  | lst (xs:List V)
  | tup (xs:List V)
  | dK (kvs:List (Key × V))
  | set (S:Int->Bool) (n:Nat)
  | ins (C dx:Addr) (fs:List (Str × V))
  | own (x:Addr)
  | xd (fs:List (Str × V))
  | met (f x:Addr)
  | rng (lo hi:Int)
  | frz (o:Obj) (u:HO)
  | tbl (ps:Array Value)
  | ext (φ:Heap->Prop)
abbrev Hp:=Addr->Option HO
def upd (H:Hp) (a:Addr) (o:HO):Hp:=fun b=>if b = a then some o else H b
theorem bK {H:Hp} {a:Addr} {o:HO} : upd H a o a = some o:=by unfold upd; rw [if_pos rfl]
theorem bL {H:Hp} {a b:Addr} {o:HO} (h:b ≠ a):upd H a o b = H b:=by unfold upd; rw [if_neg h]
theorem uW {H:Hp} {a:Addr} {o u:HO} : upd (upd H a o) a u = upd H a u:=by
 funext b; unfold upd; split <;> rfl
theorem f9 {H:Hp} {a b:Addr} {o u:HO} (h:H a = some o) (h':H b = some u) (d:o ≠ u):a ≠ b:=by
 intro e; subst e; rw [h] at h'; exact d (Option.some.inj h')
theorem bI {H:Hp} {a b:Addr} {o:HO} (h:H a = some o) (h':H b = none):a ≠ b:=by
 intro e; subst e; rw [h] at h'; cases h'
section
variable (P:Program) (w:World)
def dM (H:Hp) (h:Heap) (a:Addr):HO->Prop
 | .lst xs=>xs.length <= sizeLine/\∃ (its:List Value) (n:Nat),Vals xs its/\h.get? a = some { cls:=.type "list",data:=.seq its.toArray n }
 | .tup xs=>xs.length <= sizeLine/\∃ its:List Value,Vals xs its/\IsTup h a its.toArray
 | .dK kvs=>kvs.length <= sizeLine/\(a == sysModules) = false/\∃ vs,KV kvs vs/\h.DictOf (jW P w) a vs
 | .set S n=>h.SetOf (intKind P w) a S n
 | .ins C dx fs=>H dx = some (.own a)/\fs.length <= 1000/\dx ≠ a/\h.get? a = some (PySem.W.instObj C dx) /\
   ∃ mA,h.Ns1 dx mA/\(∀ f,vA (fs.lookup f) (mA f))/\PySem.Within mA (fs.map (·.1))
 | .own _=>∃ o,h.get? a = some o
 | .xd fs=>∃ mA,h.Ns1 a mA/\∀ f,vA (fs.lookup f) (mA f)
 | .rng lo hi=>∃ t u v,h.get? a = some { cls:=.type "range",data:=.fields #[.int lo t,.int hi u,.int 1 v] }
 | .frz o u=>h.get? a = some o/\dM H h a u
 | .tbl ps=>h.get? a = some { cls:=.none,data:=.fields ps }
 | .met f x=>h.get? a = some (PySem.W.methodObj (.ref f) (.ref x))
 | .ext φ=>φ h/\(∃ o,h.get? a = some o)/\∀ h1 h2:Heap,φ h1->(∀ o,h1.get? a = some o->h2.get? a = some o)->φ h2
def HOk (H:Hp) (h:Heap):Prop:=∀ a o,H a = some o->dM P w H h a o
end
section
variable {P:Program} {w:World} {H H':Hp} {h h':Heap} {a:Addr} {o:HO}
theorem dM.lt (x:dM P w H h a o):a < h.objs.size:=by
 cases o with
 | lst xs=>obtain ⟨_,_,_,_,e⟩:=x; exact aK e
 | tup xs=>obtain ⟨_,_,_,p⟩:=x; exact p.lt
 | dK kvs=>obtain ⟨_,_,_,_,o,_,_,e,_⟩:=x; exact aK e
 | set S n=>obtain ⟨o,_,_,_,e,_⟩:=x; exact aK e
 | ins C dx fs=>obtain ⟨_,_,_,e,_⟩:=x; exact aK e
 | own y=>obtain ⟨_,e⟩:=x; exact aK e
 | xd fs=>obtain ⟨_,⟨_,_,_,e,_⟩,_⟩:=x; exact aK e
 | rng lo hi=>obtain ⟨_,_,_,e⟩:=x; exact aK e
 | frz ob u=>obtain ⟨e,_⟩:=x; exact aK e
 | tbl ps=>exact aK (show h.get? a = some _ from x)
 | met f y=>exact aK (show h.get? a = some _ from x)
 | ext φ=>obtain ⟨_,⟨_,e⟩,_⟩:=x; exact aK e
theorem dM.stay (x:dM P w H h a o) (k:∀ b u,(b = a\/H b = some (.own a))->h.get? b = some u->h'.get? b = some u)
  (ho:∀ b,H b = some (.own a)->H' b = some (.own a)) (ht:∀ b xs,H b = some (.tup xs)->H' b = some (.tup xs)):dM P w H' h' a o:=by
 induction o with
 | lst xs=>obtain ⟨z,its,n,r,e⟩:=x; exact ⟨z,its,n,r,k _ _ (.inl rfl) e⟩
 | tup xs=>obtain ⟨z,its,r,ob,e,c⟩:=x; exact ⟨z,its,r,ob,k _ _ (.inl rfl) e,c⟩
 | dK kvs=>obtain ⟨z,y,vs,r,ob,es,ep,e,c⟩:=x; exact ⟨z,y,vs,r,ob,es,ep,k _ _ (.inl rfl) e,c⟩
 | set S n=>obtain ⟨ob,es,ep,t,e,c⟩:=x; exact ⟨ob,es,ep,t,k _ _ (.inl rfl) e,c⟩
 | ins C dx fs =>
  obtain ⟨d,z,ne,e,mA,⟨od,es,ep,e2,c⟩,r⟩:=x
  exact ⟨ho _ d,z,ne,k _ _ (.inl rfl) e,mA,⟨od,es,ep,k _ _ (.inr d) e2,c⟩,r⟩
 | own y=>obtain ⟨ob,e⟩:=x; exact ⟨ob,k _ _ (.inl rfl) e⟩
 | xd fs=>obtain ⟨mA,⟨od,es,ep,e,c⟩,r⟩:=x; exact ⟨mA,⟨od,es,ep,k _ _ (.inl rfl) e,c⟩,r⟩
 | rng lo hi=>obtain ⟨t,u,v,e⟩:=x; exact ⟨t,u,v,k _ _ (.inl rfl) e⟩
 | frz ob u ih=>obtain ⟨e,q⟩:=x; exact ⟨k _ _ (.inl rfl) e,ih q⟩
 | tbl ps =>
  have e:h.get? a = some { cls:=.none,data:=.fields ps }:=x
  show h'.get? a = some { cls:=.none,data:=.fields ps }
  exact k a _ (.inl rfl) e
 | met f y =>
  have e:h.get? a = some (PySem.W.methodObj (.ref f) (.ref y)):=x
  show h'.get? a = some (PySem.W.methodObj (.ref f) (.ref y))
  exact k a _ (.inl rfl) e
 | ext φ=>obtain ⟨p,⟨o,e⟩,st⟩:=x; exact ⟨st _ _ p fun o q=>k _ _ (.inl rfl) q,⟨o,k _ _ (.inl rfl) e⟩,st⟩
theorem HOk.lt (x:HOk P w H h) (e:H a = some o):a < h.objs.size:=(x a o e).lt
theorem HOk.fresh (x:HOk P w H h) (e:h.objs.size <= a):H a = none:=by
 cases q:H a with
 | none=>rfl
 | some u=>exact absurd (aV (x.lt q) e) (Nat.lt_irrefl _)
theorem HOk.kept (x:HOk P w H h) (k:∀ b u,h.get? b = some u->h'.get? b = some u):HOk P w H h':=fun a o e =>
 (x a o e).stay (fun b u _ q=>k b u q) (fun _ q=>q) fun _ _ q=>q
theorem HOk.laid (x:HOk P w H h) (k:∀ b u,h.get? b = some u->h'.get? b = some u) (hp:h.objs.size <= a) (new:dM P w (upd H a o) h' a o):HOk P w (upd H a o) h':=fun b u e=>by
 have hn:=x.fresh hp
 by_cases hb:b = a
 .subst hb; rw [bK] at e; cases e; exact new
 .rw [bL hb] at e
  exact (x b u e).stay (fun c v _ q=>k c v q) (fun c q=>by rw [bL (bI q hn)]; exact q) fun c xs q=>by rw [bL (bI q hn)]; exact q
end
def Rd (H:Hp) (a:Addr) (u:HO):Prop:=H a = some u\/∃ o,H a = some (.frz o u)
theorem Rd.ok {P:Program} {w:World} {H:Hp} {h:Heap} {a:Addr} {u:HO} (r:Rd H a u) (x:HOk P w H h):dM P w H h a u:=by
 rcases r with r | ⟨o,r⟩
 .exact x a u r
 .obtain ⟨_,q⟩:=x a _ r
  exact q
def Mut:Option HO->Prop
 | some (.lst _)=>True
 | some (.dK _)=>True
 | some (.set _ _)=>True
 | some (.ins _ _ _)=>True
 | some (.ext _)=>True
 | _=>False
section
variable {P:Program} {w:World} {H:Hp} {h h':Heap} {x e:Addr} {o':HO}
theorem HOk.write (ok:HOk P w H h) (mu:Mut (H x)) (he:e = x\/H e = some (.own x)) (k:∀ b u,b ≠ e->h.get? b = some u->h'.get? b = some u) (heo:∃ u,h'.get? e = some u)
  (new:dM P w (upd H x o') h' x o'):HOk P w (upd H x o') h':=fun b u q=>by
 have nown:∀ c y,H c = some (.own y)->c ≠ x:=fun c y r z=>by subst z; rw [r] at mu; exact mu
 have ntup:∀ c xs,H c = some (.tup xs)->c ≠ x:=fun c xs r z=>by subst z; rw [r] at mu; exact mu
 by_cases hb:b = x
 .subst hb; rw [bK] at q; cases q; exact new
 .rw [bL hb] at q
  by_cases hbe:b = e
  .have q':H b = some (.own x):=by
    rcases he with z | z
    .exact absurd (hbe.trans z) hb
    .rw [hbe]; exact z
   rw [q] at q'; cases q'
   obtain ⟨v,hv⟩:=heo
   exact ⟨v,by rw [hbe]; exact hv⟩
  .refine (ok b u q).stay (fun c v hc r=>k c v ?_ r) (fun c r=>by rw [bL (nown c b r)]; exact r) fun c xs r=>by rw [bL (ntup c xs r)]; exact r
   rcases hc with rfl | hc
   .exact hbe
   .rintro rfl
    rcases he with z | z
    .exact nown c b hc z
    .rw [hc] at z; cases z; exact hb rfl
end
structure Un (fs ex:List Addr) (H H':Hp) (h h':Heap):Prop where
 keep:∀ b o,h.get? b = some o->H b = none->b ∉ fs->b ∉ ex->h'.get? b = some o
 slot:∀ b o,h.get? b = some o->H b = none->b ∈ fs->b ∉ ex->∃ sl,h'.get? b = some { o with slots:=sl }
 free:∀ b o,h.get? b = some o->H b = none->b ∉ ex->H' b = none
 there:∀ b o,h.get? b = some o->b ∉ ex->∃ o',h'.get? b = some o'
 tups:∀ b xs,H b = some (.tup xs)->H' b = some (.tup xs)
 frzs:∀ b o u,H b = some (.frz o u)->H' b = some (.frz o u)
 tbls:∀ b ps,H b = some (.tbl ps)->∃ more,H' b = some (.tbl (ps ++ more))
section
variable {fs fs' ex ex':List Addr} {H H1 H2:Hp} {h h1 h2 h':Heap} {a x e:Addr} {o:HO}
theorem Un.any (u:Un fs ex H H1 h h1) {b:Addr} {ob:Obj} (q:h.get? b = some ob) (n:H b = none) (hx:b ∉ ex):∃ sl,h1.get? b = some { ob with slots:=sl }:=by
 by_cases hb:b ∈ fs
 .exact u.slot b ob q n hb hx
 .exact ⟨ob.slots,u.keep b ob q n hb hx⟩
theorem Un.kept (k:∀ b u,h.get? b = some u->h'.get? b = some u):Un fs ex H H h h' :=
 ⟨fun b ob q _ _ _=>k b ob q,fun b ob q _ _ _=>⟨ob.slots,k b ob q⟩,fun _ _ _ n _=>n,fun b ob q _=>⟨ob,k b ob q⟩,fun _ _ q=>q,fun _ _ _ q=>q,fun _ ps q=>⟨#[],by rw [q]; simp⟩⟩
theorem Un.refl:Un fs ex H H h h:=Un.kept fun _ _ q=>q
theorem Un.laid (k:∀ b u,h.get? b = some u->h'.get? b = some u) (hp:h.objs.size <= a) (hn:H a = none):Un fs ex H (upd H a o) h h' where
 keep:=fun b u q _ _ _=>k b u q
 slot:=fun b u q _ _ _=>⟨u.slots,k b u q⟩
 free:=fun b u q n _=>by rw [bL (aU (aV (aK q) hp))]; exact n
 there:=fun b u q _=>⟨u,k b u q⟩
 tups:=fun b xs q=>by rw [bL (bI q hn)]; exact q
 frzs:=fun b u xs q=>by rw [bL (bI q hn)]; exact q
 tbls:=fun b ps q=>⟨#[],by rw [bL (bI q hn),q]; simp⟩
theorem Un.write (mu:Mut (H x)) (he:e = x\/H e = some (.own x)) (k:∀ b u,b ≠ e->h.get? b = some u->h'.get? b = some u) (heo:∃ u,h'.get? e = some u):Un fs ex H (upd H x o) h h':=by
 have hx:∀ b,H b = none->b ≠ x:=fun b n z=>by subst z; rw [n] at mu; exact mu
 have hb:∀ b,H b = none->b ≠ e:=fun b n z=>by
  subst z
  rcases he with r | r
  .exact hx b n r
  .rw [n] at r; cases r
 have hm:∀ b u,H b = some u->¬ Mut (some u)->b ≠ x:=fun b u q nm z=>by subst z; rw [q] at mu; exact nm mu
 refine ⟨fun b u q n _ _=>k b u (hb b n) q,fun b u q n _ _=>⟨u.slots,k b u (hb b n) q⟩,fun b u q n _=>by rw [bL (hx b n)]; exact n,fun b u q _=>?_,
  fun b xs q=>by rw [bL (hm b _ q fun z=>z)]; exact q,fun b u xs q=>by rw [bL (hm b _ q fun z=>z)]; exact q,fun b ps q=>⟨#[],by rw [bL (hm b _ q fun z=>z),q]; simp⟩⟩
 by_cases hbe:b = e
 .subst hbe; exact heo
 .exact ⟨u,k b u hbe q⟩
end
def trk (h:Heap) (H:Hp):List Addr:=(List.range h.objs.size).filter fun a=>(H a).isSome
def v9 (h:Heap) (H:Hp):Heap:=PySem.W.hideAll h (trk h H)
theorem Gk (h:Heap) (H:Hp):(v9 h H).objs.size = h.objs.size:=PySem.W.hideAll_size _ _
theorem La {h:Heap} {H:Hp} {b:Addr} {o:Obj} (e:h.get? b = some o) (n:H b = none):(v9 h H).get? b = some o :=
 PySem.W.hideAll_get _ e fun hm=>by
  have q:(H b).isSome = true:=(List.mem_filter.mp hm).2
  rw [n] at q; simp at q
theorem Rm {h:Heap} {H:Hp} {b:Addr} {o:Obj} (e:(v9 h H).get? b = some o):h.get? b = some o/\H b = none:=by
 have e':h.get? b = some o:=PySem.W.of_hideAll (trk h H) e
 refine ⟨e',?_⟩
 cases q:H b with
 | none=>rfl
 | some x =>
  have hm:b ∈ trk h H:=List.mem_filter.mpr ⟨List.mem_range.mpr (aK e'),by simp [q]⟩
  have z:(v9 h H).get? b = none:=PySem.W.hideAll_none (trk h H) hm
  rw [z] at e; cases e
def Ys (g h:Heap) (L:Addr):List (Addr × Obj):=(List.range h.objs.size).filterMap fun a=>if a = L\/(g.get? a).isSome = true then none else (h.get? a).map fun o=>(a,o)
def rest (g h:Heap) (L d:Addr):List (Addr × Obj):=(Ys g h L).filter fun p=>decide (p.1 ≠ d)
structure Mod (K:Frag) (mg:Str->Option Value) (base:Heap):Prop where
 kin:K.In base
 glob:base.Ns mainGlobals mg
 blt:∃ mb,base.Ns builtinsNs mb/\∀ x:Str,x ≠ "__name__" -> mb x = bootBuiltins x
 nolimit:base.NoLimit
structure Cx where
 prog:Program
 w:World
 K:Frag
 mg:Str->Option Value
 base:Heap
 A:Around
 N:List Str
 s₀:Shared
 H₀:Hp
 env:Env
 outer:List Env
 stack:List Env
 ex:List Addr
 fn:Str->Bool
 calm:Bool
 pn:List (Addr × Obj)
 xe:Value->Shared->Prop
def frs (l:List Env):List Addr:=l.filterMap (·.frame)
abbrev Cx.fs (X:Cx):List Addr:=frs X.outer
def Vis (sc:Scope) (x:Str):Prop:=sc.names.lookup x = some .local\/sc.names.lookup x = some .cell\/sc.names.lookup x = some .free
def Loc (sc:Scope) (x:Str):Prop:=sc.names.lookup x = some .local\/sc.names.lookup x = some .cell
def Look (env:Env) (h:Heap) (m:Str->Option Value) (x:Str) (u:Value):Prop :=
 (env.kindOf x = some .local/\m x = some u)\/((env.kindOf x = some .cell\/env.kindOf x = some .free)/\∃ c,env.cells.lookup x = some c/\h.IsCell c (some u))
structure Cx.Ok (X:Cx):Prop where
 mod:Mod X.K X.mg X.base
 kind:X.env.scope.kind = .function
 glob:X.env.globals = mainGlobals
 blt:X.env.builtins = builtinsNs
 above:X.s₀.heap.objs.size <= X.env.locals
 inj:∀ x y c,X.env.cells.lookup x = some c->X.env.cells.lookup y = some c->x = y
 has:∀ x,(X.env.kindOf x = some .cell\/X.env.kindOf x = some .free)->∃ c,X.env.cells.lookup x = some c
 cab:∀ x c,X.fn x = true->X.env.cells.lookup x = some c->X.s₀.heap.objs.size <= c
 hd:X.calm = true->X.A.handled = none
 frames:X.A.frames = some X.stack
 stk:X.stack = X.outer\/(X.stack = X.env :: X.outer/\X.env.frame = some X.env.locals)
 exf:∀ b ∈ X.ex,b ≠ X.env.locals/\∀ x c,X.env.cells.lookup x = some c->c ≠ b
 bs:∀ b o,X.base.get? b = some o->X.s₀.heap.get? b = some o/\X.H₀ b = none
 bsz:X.base.objs.size <= X.s₀.heap.objs.size
 noex:∀ b o,X.base.get? b = some o->b ∉ X.ex
 exfs:∀ b ∈ X.ex,b ∉ X.fs
 funs:X.s₀.heap.FunFrames X.base X.outer
 frf:∀ b ∈ X.fs,X.H₀ b = none
structure Inv (X:Cx) (pins:List (Addr × Obj)) (σ:List (Option V)) (H:Hp) (s:Shared):Prop where
 ok:X.Ok
 os:s.os = X.s₀.os
 bare:AllBare s.gens
 base:Un X.fs X.ex X.H₀ H X.s₀.heap s.heap
 loc:∃ m,s.heap.Ns X.env.locals m/\∀ (i:Nat) (x:Str) (v:V),X.N[i]? = some x->σ[i]? = some (some v)->Vis X.env.scope x->∃ u,RelV v u/\Look X.env s.heap m x u
 cell:∀ x c,X.env.cells.lookup x = some c->∃ v,s.heap.IsCell c v
 free:H X.env.locals = none
 freeC:∀ x c,X.env.cells.lookup x = some c->H c = none
 pin:∀ p ∈ X.pn ++ pins,s.heap.get? p.1 = some p.2/\H p.1 = none/\p.1 ≠ X.env.locals/\p.1 ∉ X.fs/\∀ v,p.2.data ≠ .cell v
 hok:HOk X.prog X.w H s.heap
 len:σ.length = X.N.length
section
variable {X:Cx} {pins:List (Addr × Obj)} {σ:List (Option V)} {H H':Hp} {s:Shared} {h':Heap}
theorem Cx.Ok.nofr (ok:X.Ok) {b:Addr} {o:Obj} (e:X.base.get? b = some o):b ∉ X.fs:=fun hb=>by
 have:=(ok.funs.mem hb).1
 rw [e] at this; cases this
theorem Inv.bs (I:Inv X pins σ H s):∀ b o,X.base.get? b = some o->s.heap.get? b = some o/\H b = none:=fun b o e =>
 ⟨I.base.keep b o (I.ok.bs b o e).1 (I.ok.bs b o e).2 (I.ok.nofr e) (I.ok.noex b o e),I.base.free b o (I.ok.bs b o e).1 (I.ok.bs b o e).2 (I.ok.noex b o e)⟩
theorem Inv.bk (I:Inv X pins σ H s):∀ b o,X.base.get? b = some o->s.heap.get? b = some o:=fun b o e=>(I.bs b o e).1
theorem Inv.mod (I:Inv X pins σ H s):Mod X.K X.mg X.base:=I.ok.mod
theorem Inv.kIn (I:Inv X pins σ H s):X.K.In s.heap:=I.ok.mod.kin.keeps I.bk
theorem Inv.fr (I:Inv X pins σ H s):∃ m,Fr X.base X.env.locals s.heap m :=
 let ⟨m,hn,_⟩:=I.loc
 ⟨m,hn,I.bk,aN I.ok.bsz I.ok.above⟩
theorem Inv.lt (I:Inv X pins σ H s):X.env.locals < s.heap.objs.size:=let ⟨_,hn,_⟩:=I.loc; hn.lt
theorem Inv.sz (I:Inv X pins σ H s):X.s₀.heap.objs.size <= s.heap.objs.size:=aN I.ok.above (Nat.le_of_lt I.lt)
theorem Inv.nofs (I:Inv X pins σ H s) {a:Addr} (h:s.heap.objs.size <= a):a ∉ X.fs:=fun hb=>by
 obtain ⟨_,o,ho,_⟩:=I.ok.funs.mem hb
 exact absurd (aV (aK ho) (aN I.sz h)) (Nat.lt_irrefl _)
theorem Inv.cne (I:Inv X pins σ H s):∀ x c,X.env.cells.lookup x = some c->c ≠ X.env.locals:=fun x c e z=>by
 obtain ⟨v,o,ho,hd⟩:=I.cell x c e
 obtain ⟨m,⟨o',es,ep,ho',hd',_⟩,_⟩:=I.loc
 rw [z,ho'] at ho; cases ho; rw [hd'] at hd; cases hd
theorem Inv.funs (I:Inv X pins σ H s):s.heap.FunFrames X.base X.outer:=by
 have all:∀ (l:List Env),(∀ b ∈ frs l,b ∈ X.fs)->X.s₀.heap.FunFrames X.base l->s.heap.FunFrames X.base l:=by
  intro l
  induction l with
  | nil=>intro _ _; trivial
  | cons env r ih =>
   intro hs hl
   obtain ⟨hk,⟨L,o,hf,hn,ho,hd⟩,hr⟩:=hl
   have hL:L ∈ X.fs:=hs L (by unfold frs; rw [List.filterMap_cons,hf]; exact aP)
   obtain ⟨sl,e⟩:=I.base.slot L o ho (I.ok.frf L hL) hL fun z=>I.ok.exfs L z hL
   exact ⟨hk,⟨L,_,hf,hn,e,hd⟩,ih (fun b hb=>hs b (by unfold frs; rw [List.filterMap_cons,hf]; exact aJ _ hb)) hr⟩
 exact all X.outer (fun _ hb=>hb) I.ok.funs
theorem Inv.stack (I:Inv X pins σ H s):s.heap.FunFrames X.base X.stack:=by
 rcases I.ok.stk with e | ⟨e,hf⟩
 .rw [e]; exact I.funs
 .rw [e]
  obtain ⟨m,hn,_⟩:=I.loc
  refine .cons (by rw [I.ok.kind]; decide) hf hn ?_ I.funs
  exact Heap.get?_none_of_le (aN I.ok.bsz I.ok.above)
theorem Inv.stkSub (I:Inv X pins σ H s):∀ b ∈ frs X.stack,b ∈ X.env.locals :: X.fs:=fun b hb=>by
 rcases I.ok.stk with e | ⟨e,hf⟩
 .rw [e] at hb; exact aJ _ hb
 .rw [e] at hb
  unfold frs at hb
  rw [List.filterMap_cons,hf] at hb
  exact hb
theorem Inv.stkFree (I:Inv X pins σ H s):∀ b ∈ frs X.stack,H b = none:=fun b hb=>by
 rcases List.mem_cons.mp (I.stkSub b hb) with e | hb
 .rw [e]; exact I.free
 .obtain ⟨_,o,ho,_⟩:=I.ok.funs.mem hb
  exact I.base.free b o ho (I.ok.frf b hb) fun z=>I.ok.exfs b z hb
theorem Inv.step {g':Array GenState} {t':Nat} {d':Drawn} {ch:List Addr} (I:Inv X pins σ H s)
  (hch:∀ b ∈ ch,(b ∈ X.ex\/X.s₀.heap.objs.size <= b)/\b ≠ X.env.locals/\(∀ x c,X.env.cells.lookup x = some c->c ≠ b)/\∀ p ∈ X.pn ++ pins,p.1 ≠ b)
  (keep:∀ b o,b ≠ X.env.locals->b ∉ X.fs->b ∉ ch->s.heap.get? b = some o->H b = none->h'.get? b = some o)
  (slot:∀ b o,b ≠ X.env.locals->b ∈ X.fs->b ∉ ch->s.heap.get? b = some o->H b = none->∃ sl,h'.get? b = some { o with slots:=sl }) (free:∀ b o,b ∉ ch->s.heap.get? b = some o->H b = none->H' b = none)
  (there:∀ b o,b ∉ ch->s.heap.get? b = some o->∃ o',h'.get? b = some o')
  (tups:∀ b xs,H b = some (.tup xs)->H' b = some (.tup xs)) (frzs:∀ b o u,H b = some (.frz o u)->H' b = some (.frz o u)) (tbls:∀ b ps,H b = some (.tbl ps)->∃ more,H' b = some (.tbl (ps ++ more)))
  (ns:∀ m,s.heap.Ns X.env.locals m->h'.Ns X.env.locals m) (hok:HOk X.prog X.w H' h') (hg:AllBare g') :
  Inv X pins σ H' { s with heap:=h',gens:=g',drawn:=d',toks:=t' }:=by
 have neL:∀ b o,X.s₀.heap.get? b = some o->b ≠ X.env.locals:=fun b o e=>aU (aV (aK e) I.ok.above)
 have neC:∀ b o,X.s₀.heap.get? b = some o->b ∉ X.ex->b ∉ ch:=fun b o e hx hb=>by
  rcases (hch b hb).1 with z | z
  .exact hx z
  .exact absurd (aV (aK e) z) (Nat.lt_irrefl _)
 have cellK:∀ x c,X.env.cells.lookup x = some c->∀ v,s.heap.IsCell c v->h'.IsCell c v:=fun x c e v ⟨o,ho,hd⟩=>by
  have nch:c ∉ ch:=fun z=>(hch c z).2.2.1 x c e rfl
  by_cases hc:c ∈ X.fs
  .obtain ⟨sl,q⟩:=slot c o (I.cne x c e) hc nch ho (I.freeC x c e)
   exact ⟨_,q,hd⟩
  .exact ⟨o,keep c o (I.cne x c e) hc nch ho (I.freeC x c e),hd⟩
 refine ⟨I.ok,I.os,hg,⟨fun b o e n hb hx=>?_,fun b o e n hb hx=>?_,fun b o e n hx=>?_,fun b o e hx=>?_,fun b xs e=>tups b xs (I.base.tups b xs e),fun b o xs e=>frzs b o xs (I.base.frzs b o xs e),fun b ps e=>?_⟩,?_,fun x c e=>?_,?_,fun x c e=>?_,fun p hp=>?_,hok,I.len⟩
 .exact keep b o (neL b o e) hb (neC b o e hx) (I.base.keep b o e n hb hx) (I.base.free b o e n hx)
 .obtain ⟨sl,e1⟩:=I.base.slot b o e n hb hx
  obtain ⟨sl',e2⟩:=slot b _ (neL b o e) hb (neC b o e hx) e1 (I.base.free b o e n hx)
  exact ⟨sl',e2⟩
 .obtain ⟨o',e1⟩:=I.base.there b o e hx
  exact free b o' (neC b o e hx) e1 (I.base.free b o e n hx)
 .obtain ⟨o',e1⟩:=I.base.there b o e hx
  exact there b o' (neC b o e hx) e1
 .obtain ⟨m1,e1⟩:=I.base.tbls b ps e
  obtain ⟨m2,e2⟩:=tbls b _ e1
  exact ⟨m1 ++ m2,by rw [e2,Array.append_assoc]⟩
 .obtain ⟨m,hn,hl⟩:=I.loc
  refine ⟨m,ns m hn,fun i x v e1 e2 e3=>?_⟩
  obtain ⟨u,r,l⟩:=hl i x v e1 e2 e3
  refine ⟨u,r,?_⟩
  rcases l with l | ⟨k,c,e,z⟩
  .exact .inl l
  .exact .inr ⟨k,c,e,cellK x c e _ z⟩
 .obtain ⟨v,z⟩:=I.cell x c e
  exact ⟨v,cellK x c e v z⟩
 .obtain ⟨m,⟨o,_,_,ho,_⟩,_⟩:=I.loc
  exact free _ o (fun z=>(hch _ z).2.1 rfl) ho I.free
 .obtain ⟨v,o,ho,hd⟩:=I.cell x c e
  exact free c o (fun z=>(hch c z).2.2.1 x c e rfl) ho (I.freeC x c e)
 .obtain ⟨e,n,ne,nf,d⟩:=I.pin p hp
  have nch:p.1 ∉ ch:=fun z=>(hch p.1 z).2.2.2 p hp rfl
  exact ⟨keep p.1 p.2 ne nf nch e n,free p.1 p.2 nch e n,ne,nf,d⟩
theorem Inv.un {t':Nat} (I:Inv X pins σ H s) (u:Un X.fs [] H H' s.heap h') (hok:HOk X.prog X.w H' h'):Inv X pins σ H' { s with heap:=h',toks:=t' }:=by
 obtain ⟨m,⟨o,es,ep,ho,r⟩,_⟩:=id I.loc
 obtain ⟨sl,hL⟩:=u.any ho I.free (by simp)
 exact I.step (g':=s.gens) (d':=s.drawn) (ch:=[]) (fun _ z=>nomatch z) (fun b o _ hb _ e n=>u.keep b o e n hb (by simp)) (fun b o _ hb _ e n=>u.slot b o e n hb (by simp)) (fun b o _ e n=>u.free b o e n (by simp)) (fun b o _ e=>u.there b o e (by simp)) u.tups u.frzs u.tbls (fun m' hm=>by
  obtain ⟨o',es',ep',ho',r'⟩:=hm
  rw [ho] at ho'; cases ho'
  exact ⟨_,es',ep',hL,r'⟩) hok I.bare
theorem Inv.call {g':Array GenState} {t':Nat} {d':Drawn} {ch:List Addr} (I:Inv X pins σ H s) (u:Un (frs X.stack) ch H H' s.heap h') (hok:HOk X.prog X.w H' h') (hg:AllBare g')
  (hch:∀ b ∈ ch,(b ∈ X.ex\/X.s₀.heap.objs.size <= b)/\b ≠ X.env.locals/\(∀ x c,X.env.cells.lookup x = some c->c ≠ b)/\∀ p ∈ X.pn ++ pins,p.1 ≠ b) :
  Inv X pins σ H' { s with heap:=h',gens:=g',drawn:=d',toks:=t' }:=by
 obtain ⟨m,⟨o,es,ep,ho,r⟩,_⟩:=id I.loc
 obtain ⟨sl,hL⟩:=u.any ho I.free fun z=>(hch _ z).2.1 rfl
 exact I.step (ch:=ch) hch (fun b o hL hb hc e n=>u.keep b o e n (fun z=>(List.mem_cons.mp (I.stkSub b z)).elim hL hb) hc) (fun b o _ _ hc e n=>u.any e n hc) (fun b o hc e n=>u.free b o e n hc) (fun b o hc e=>u.there b o e hc) u.tups u.frzs u.tbls (fun m' hm=>by
  obtain ⟨o',es',ep',ho',r'⟩:=hm
  rw [ho] at ho'; cases ho'
  exact ⟨_,es',ep',hL,r'⟩) hok hg
theorem Inv.turned {t':Nat} {it:Addr} (I:Inv X pins σ H s) (k:∀ b o,b ≠ it->s.heap.get? b = some o->h'.get? b = some o) (hn:H it = none) (hL:it ≠ X.env.locals)
  (h1:it ∈ X.ex\/X.s₀.heap.objs.size <= it) (h2:∀ x c,X.env.cells.lookup x = some c->c ≠ it) (h3:∀ p ∈ X.pn ++ pins,p.1 ≠ it):Inv X pins σ H { s with heap:=h',toks:=t' }:=by
 have nit:∀ b u,H b = some u->b ≠ it:=fun b u e z=>by rw [z,hn] at e; cases e
 refine I.step (g':=s.gens) (d':=s.drawn) (ch:=[it]) (fun b hb=>?_) (fun b o _ _ hc e _=>k b o (fun z=>hc (by simp [z])) e) (fun b o _ _ hc e _=>⟨o.slots,k b o (fun z=>hc (by simp [z])) e⟩) (fun _ _ _ _ n=>n)
  (fun b o hc e=>⟨o,k b o (fun z=>hc (by simp [z])) e⟩) (fun _ _ e=>e) (fun _ _ _ e=>e) (fun b ps e=>⟨#[],by rw [e]; simp⟩) (fun m hm=>?_) (fun b u e=>?_) I.bare
 .have e:b = it:=by simpa using hb
  subst e
  exact ⟨h1,hL,h2,h3⟩
 .obtain ⟨o,es,ep,ho,r⟩:=hm
  exact ⟨o,es,ep,k _ o (Ne.symm hL) ho,r⟩
 .refine (I.hok b u e).stay (fun c v hc q=>k c v ?_ q) (fun _ q=>q) fun _ _ q=>q
  rcases hc with z | z
  .rw [z]; exact nit b u e
  .exact nit c _ z
theorem Inv.tok (I:Inv X pins σ H s) (t:Nat):Inv X pins σ H { s with toks:=t }:=I.un (h':=s.heap) (t':=t) Un.refl I.hok
theorem Inv.kept {t':Nat} (I:Inv X pins σ H s) (k:∀ b u,s.heap.get? b = some u->h'.get? b = some u):Inv X pins σ H { s with heap:=h',toks:=t' }:=I.un (Un.kept k) (I.hok.kept k)
theorem Inv.laid {a:Addr} {o:HO} {t':Nat} (I:Inv X pins σ H s) (k:∀ b u,s.heap.get? b = some u->h'.get? b = some u) (hp:s.heap.objs.size <= a) (new:dM X.prog X.w (upd H a o) h' a o) :
  Inv X pins σ (upd H a o) { s with heap:=h',toks:=t' }:=I.un (Un.laid k hp (I.hok.fresh hp)) (I.hok.laid k hp new)
theorem Inv.write {x e:Addr} {o:HO} {t':Nat} (I:Inv X pins σ H s) (mu:Mut (H x)) (he:e = x\/H e = some (.own x)) (k:∀ b u,b ≠ e->s.heap.get? b = some u->h'.get? b = some u) (heo:∃ u,h'.get? e = some u)
  (new:dM X.prog X.w (upd H x o) h' x o):Inv X pins σ (upd H x o) { s with heap:=h',toks:=t' }:=I.un (Un.write mu he k heo) (I.hok.write mu he k heo new)
theorem Inv.pins_of {pins':List (Addr × Obj)} (I:Inv X pins σ H s) (h:∀ p ∈ pins',s.heap.get? p.1 = some p.2/\H p.1 = none/\p.1 ≠ X.env.locals/\p.1 ∉ X.fs/\∀ v,p.2.data ≠ .cell v):Inv X pins' σ H s :=
 ⟨I.ok,I.os,I.bare,I.base,I.loc,I.cell,I.free,I.freeC,fun p hp=>(List.mem_append.mp hp).elim (fun z=>I.pin p (List.mem_append_left _ z)) (h p),I.hok,I.len⟩
theorem qm {N:List Str} (hN:N.Nodup) {i j:Nat} {x:Str} (a:N[i]? = some x) (b:N[j]? = some x):i = j:=by
 obtain ⟨h1,e1⟩:=aq.mp a
 obtain ⟨h2,e2⟩:=aq.mp b
 exact (List.getElem_inj hN).mp (e1.trans e2.symm)
theorem RM {M:Model} {A:Around} {E:Value->Shared->Prop} {i:Nat} {x:Str} {v:V} {u:Value} {Q:Unit->Shared->Prop} (I:Inv X pins σ H s) (hN:X.N.Nodup) (hi:X.N[i]? = some x) (hx:Loc X.env.scope x) (r:RelV v u)
  (h:∀ s',Inv X pins (σ.set i (some v)) H s'->(∃ a,Heap.SameBut a s.heap s'.heap/\(a = X.env.locals\/X.env.cells.lookup x = some a))->Q () s') (hf:X.fn x = true\/X.env.scope.names.lookup x = some .local):wpAny M A (storeName X.env x u) Q E s:=by
 obtain ⟨m,hn,hl⟩:=id I.loc
 have hcls:(X.env.scope.kind == .class || (X.env.scope.kind == .module && X.env.locals != X.env.globals)) = false:=by rw [I.ok.kind]; rfl
 have hiσ:i < σ.length:=by rw [I.len]; exact (aq.mp hi).1
 have cne:=I.cne
 have tracked:∀ {a:Addr} {h':Heap},(∃ o,s.heap.get? a = some o/\H a = none)->Heap.SameBut a s.heap h'->HOk X.prog X.w H h':=fun {a h'} ha hs b ob e=>by
  obtain ⟨_,_,hfree⟩:=ha
  refine (I.hok b ob e).stay (fun c w' hc q=>(hs.2 c ?_).trans q) (fun _ q=>q) fun _ _ q=>q
  rintro rfl
  rcases hc with rfl | hc
  .rw [hfree] at e; cases e
  .rw [hfree] at hc; cases hc
 rcases hx with hk | hk
 .refine wpAny_storeName_local hk hn (fun h' hn' hs=>?_) hcls
  obtain ⟨oL,_,_,hoL,_⟩:=id hn
  refine h _ ⟨I.ok,I.os,I.bare,⟨fun b o e n hb hx=>?_,fun b o e n hb hx=>?_,I.base.free,fun b o e hx=>?_,I.base.tups,I.base.frzs,I.base.tbls⟩,⟨_,hn',fun j y v' e1 e2 e3=>?_⟩,fun y c e=>?_,I.free,I.freeC,fun p hp=>?_,tracked ⟨oL,hoL,I.free⟩ hs,by simpa using I.len⟩ ⟨_,hs,.inl rfl⟩
  .exact (hs.2 b (aU (aV (aK e) I.ok.above))).trans (I.base.keep b o e n hb hx)
  .obtain ⟨sl,e1⟩:=I.base.slot b o e n hb hx
   exact ⟨sl,(hs.2 b (aU (aV (aK e) I.ok.above))).trans e1⟩
  .obtain ⟨o',e1⟩:=I.base.there b o e hx
   exact ⟨o',(hs.2 b (aU (aV (aK e) I.ok.above))).trans e1⟩
  .by_cases hj:j = i
   .subst hj
    rw [hi] at e1; cases e1
    rw [List.getElem?_set_self hiσ] at e2
    cases e2
    exact ⟨u,r,.inl ⟨hk,by simp⟩⟩
   .rw [List.getElem?_set_ne (Ne.symm hj)] at e2
    obtain ⟨u',r',q⟩:=hl j y v' e1 e2 e3
    refine ⟨u',r',?_⟩
    rcases q with ⟨k,e⟩ | ⟨k,c,e,z⟩
    .refine .inl ⟨k,?_⟩
     have:y ≠ x:=fun e=>hj (qm hN e1 (e ▸ hi))
     simp [this,e]
    .exact .inr ⟨k,c,e,z.sameBut hs (cne y c e)⟩
  .obtain ⟨w',z⟩:=I.cell y c e
   exact ⟨w',z.sameBut hs (cne y c e)⟩
  .obtain ⟨e,n,ne,nf,d⟩:=I.pin p hp
   exact ⟨(hs.2 p.1 ne).trans e,n,ne,nf,d⟩
 .have hfn:X.fn x = true:=by
   rcases hf with z | z
   .exact z
   .rw [z] at hk; cases hk
  obtain ⟨c,hc⟩:=I.ok.has x (.inl hk)
  obtain ⟨w',z⟩:=I.cell x c hc
  refine wpAny_storeName_cell I.ok.kind hk hc z (fun h' hc' hs=>?_)
  obtain ⟨oc,hoc,hocd⟩:=id z
  refine h { s with heap:=h' } ⟨I.ok,I.os,I.bare,⟨fun b o e n hb hx=>?_,fun b o e n hb hx=>?_,I.base.free,fun b o e hx=>?_,I.base.tups,I.base.frzs,I.base.tbls⟩,⟨m,hn.sameBut hs (Ne.symm (cne x c hc)),fun j y v' e1 e2 e3=>?_⟩,fun y c' e=>?_,I.free,I.freeC,fun p hp=>?_,tracked ⟨oc,hoc,I.freeC x c hc⟩ hs,by simpa using I.len⟩ ⟨c,hs,.inr hc⟩
  .exact (hs.2 b (aU (aV (aK e) (I.ok.cab x c hfn hc)))).trans (I.base.keep b o e n hb hx)
  .obtain ⟨sl,e1⟩:=I.base.slot b o e n hb hx
   exact ⟨sl,(hs.2 b (aU (aV (aK e) (I.ok.cab x c hfn hc)))).trans e1⟩
  .obtain ⟨o',e1⟩:=I.base.there b o e hx
   exact ⟨o',(hs.2 b (aU (aV (aK e) (I.ok.cab x c hfn hc)))).trans e1⟩
  .by_cases hj:j = i
   .subst hj
    rw [hi] at e1; cases e1
    rw [List.getElem?_set_self hiσ] at e2
    cases e2
    exact ⟨u,r,.inr ⟨.inl hk,c,hc,hc'⟩⟩
   .rw [List.getElem?_set_ne (Ne.symm hj)] at e2
    obtain ⟨u',r',q⟩:=hl j y v' e1 e2 e3
    refine ⟨u',r',?_⟩
    rcases q with q | ⟨k,c',e,z'⟩
    .exact .inl q
    .refine .inr ⟨k,c',e,z'.sameBut hs ?_⟩
     rintro rfl
     exact hj (qm hN e1 (I.ok.inj _ _ _ e hc ▸ hi))
  .by_cases hcc:c' = c
   .subst hcc; exact ⟨_,hc'⟩
   .obtain ⟨w2,z2⟩:=I.cell y c' e
    exact ⟨w2,z2.sameBut hs hcc⟩
  .obtain ⟨e,n,ne,nf,d⟩:=I.pin p hp
   refine ⟨(hs.2 p.1 ?_).trans e,n,ne,nf,d⟩
   intro q
   rw [q,hoc] at e
   have q':oc = p.2:=Option.some.inj e
   exact d w' (by rw [<- q']; exact hocd)
theorem uL {M:Model} {A:Around} {E:Value->Shared->Prop} {i:Nat} {x:Str} {v:V} {u:Value} {Q:Unit->Shared->Prop} (I:Inv X pins σ H s) (hN:X.N.Nodup) (hi:X.N[i]? = some x) (hx:Loc X.env.scope x) (r:RelV v u)
  (h:∀ s',Inv X pins (σ.set i (some v)) H s'->Q () s') (hf:X.fn x = true\/X.env.scope.names.lookup x = some .local:=by first | exact .inl rfl | exact .inr rfl | assumption):wpAny M A (storeName X.env x u) Q E s :=
 RM I hN hi hx r (fun s' I' _=>h s' I') hf
theorem Inv.call' {s':Shared} {ch:List Addr} (I:Inv X pins σ H s) (ho:s'.os = s.os) (u:Un (frs X.stack) ch H H' s.heap s'.heap) (hok:HOk X.prog X.w H' s'.heap) (hg:AllBare s'.gens)
  (hch:∀ b ∈ ch,(b ∈ X.ex\/X.s₀.heap.objs.size <= b)/\b ≠ X.env.locals/\(∀ x c,X.env.cells.lookup x = some c->c ≠ b)/\∀ p ∈ X.pn ++ pins,p.1 ≠ b):Inv X pins σ H' s':=by
 obtain ⟨h',g',d',t',o'⟩:=s'
 have e:o' = s.os:=ho
 subst e
 exact I.call (g':=g') (t':=t') (d':=d') u hok hg hch
end
abbrev XK:=Value->Option Addr->Hp->Prop
abbrev St:=List (Option V)
abbrev VK:=V->Hp->Prop
abbrev TE:=St->Hp->VK->Prop
abbrev TT:=St->Hp->(Bool->Hp->Prop)->Prop
abbrev TA:=St->Hp->(List V->Hp->Prop)->Prop
structure Ends where
 nx:St->Hp->Prop
 rt:VK
 bk:St->Hp->Prop:=fun _ _=>False
 ct:St->Hp->Prop:=fun _ _=>False
abbrev TS:=Ends->St->Hp->Prop
def EP (X:Cx) (pins:List (Addr × Obj)) (σ:St) (Q:VK) (u:Value) (s':Shared):Prop:=∃ v H',Inv X pins σ H' s'/\RelV v u/\Q v H'
def TP (X:Cx) (pins:List (Addr × Obj)) (σ:St) (Q:Bool->Hp->Prop) (b:Bool) (s':Shared):Prop:=∃ H',Inv X pins σ H' s'/\Q b H'
def AP (X:Cx) (pins:List (Addr × Obj)) (σ:St) (Q:List V->Hp->Prop) (us:List Value) (s':Shared):Prop:=∃ vs H',Inv X pins σ H' s'/\Vals vs us/\Q vs H'
def SP (X:Cx) (pins:List (Addr × Obj)) (D:Ends) (f:Flow) (s':Shared):Prop :=
 match f with
 | .next=>∃ σ' H',Inv X pins σ' H' s'/\D.nx σ' H'
 | .brk=>∃ σ' H',Inv X pins σ' H' s'/\D.bk σ' H'
 | .cont=>∃ σ' H',Inv X pins σ' H' s'/\D.ct σ' H'
 | .ret u=>∃ v σ' H',Inv X pins σ' H' s'/\RelV v u/\D.rt v H'
def PE (X:Cx) (e:Expr) (t:TE):Prop :=
 ∀ (pins:List (Addr × Obj)) (s:Shared) (σ:St) (H:Hp) (Q:VK),Inv X pins σ H s->t σ H Q->wpAny (model X.prog X.w) X.A (eval e X.env) (EP X pins σ Q) X.xe s
def PT (X:Cx) (e:Expr) (t:TT):Prop :=
 ∀ (pins:List (Addr × Obj)) (s:Shared) (σ:St) (H:Hp) (Q:Bool->Hp->Prop),Inv X pins σ H s->t σ H Q->wpAny (model X.prog X.w) X.A (isTrue e X.env (eval e X.env)) (TP X pins σ Q) X.xe s
def PW (X:Cx) (e:Expr) (t:TT):Prop :=
 ∀ (whole:Sem Value) (pins:List (Addr × Obj)) (s:Shared) (σ:St) (H:Hp) (Q:Bool->Hp->Prop),Inv X pins σ H s->t σ H Q->wpAny (model X.prog X.w) X.A (isTrue e X.env whole) (TP X pins σ Q) X.xe s
theorem PW.pt {X:Cx} {e:Expr} {t:TT} (h:PW X e t):PT X e t:=h _
def PA (X:Cx) (es:List Expr) (t:TA):Prop :=
 ∀ (pos:Pos) (pins:List (Addr × Obj)) (s:Shared) (σ:St) (H:Hp) (Q:List V->Hp->Prop),Inv X pins σ H s->t σ H Q->wpAny (model X.prog X.w) X.A (spliced (backTo pos (starEach es X.env))) (AP X pins σ Q) X.xe s
def PS (X:Cx) (st:Stmt) (t:TS):Prop :=
 ∀ (pins:List (Addr × Obj)) (s:Shared) (σ:St) (H:Hp) (D:Ends),Inv X pins σ H s->t D σ H->wpAny (model X.prog X.w) X.A (exec st X.env) (SP X pins D) X.xe s
def PSs (X:Cx) (st:List Stmt) (t:TS):Prop :=
 ∀ (pins:List (Addr × Obj)) (s:Shared) (σ:St) (H:Hp) (D:Ends),Inv X pins σ H s->t D σ H->wpAny (model X.prog X.w) X.A (execs st X.env) (SP X pins D) X.xe s
theorem thn {α:Type} {t:Sem α} {Q Q':α->Shared->Prop} {M:Model} {A:Around} {E:Value->Shared->Prop} {s:Shared} (h:wpAny M A t Q E s) (hQ:∀ a s,Q a s->Q' a s):wpAny M A t Q' E s:=wpAny_mono h hQ fun _ _ x=>x
section
variable {X:Cx}
def FZ (i:Nat):TE:=fun σ H Q=>∃ v,σ[i]? = some (some v)/\Q v H
def tC (v:V):TE:=fun _ H Q=>Q v H
theorem abl {i:Nat} {x:Str} {pos:Pos} (hN:X.N[i]? = some x) (hv:Vis X.env.scope x) (hd:(x == ("__debug__" : Str)) = false:=by decide) (hcd:(x == ("__classdict__" : Str)) = false:=by decide):PE X (.Name x pos) (FZ i):=by
 intro pins s σ H Q I h
 obtain ⟨v,e,h⟩:=h
 obtain ⟨m,hn,hl⟩:=I.loc
 obtain ⟨u,r,l⟩:=hl i x v hN e hv
 have fin:EP X pins σ Q u s:=⟨v,H,I,r,h⟩
 rcases l with ⟨hk,hm⟩ | ⟨hk,c,hc,hcell⟩
 .exact wpAny_Name (wpAny_loadName_local I.ok.kind hk hn hm fin) hd
 .rcases hk with hk | hk
  .exact wpAny_Name (wpAny_loadName_cell I.ok.kind hk hc hcell fin) hd
  .exact wpAny_Name (wpAny_loadName_free I.ok.kind hk hc hcell fin hcd) hd
theorem bG {i j pos} : PE X (.Constant (.int i) j pos) (tC (.int i)):=fun _ _ _ H _ I h=>wpAny_Constant_int ⟨.int i,H,I.tok _,⟨_,rfl⟩,h⟩
theorem iC {b j pos} : PE X (.Constant (.bool b) j pos) (tC (.bl b)):=fun _ _ _ H _ I h=>Constant_bool ⟨.bl b,H,I,rfl,h⟩
theorem Iv {j pos} : PE X (.Constant .none j pos) (tC .non):=fun _ _ _ H _ I h=>Constant_none ⟨.non,H,I,rfl,h⟩
theorem oH {x j pos} : PE X (.Constant (.str x) j pos) (tC (.str x)):=fun _ _ _ H _ I h=>Calls.Constant_str ⟨.str x,H,I.tok _,⟨_,rfl⟩,h⟩
def Gl (X:Cx) (x:Str):Prop:=X.env.kindOf x = some .globalImplicit
theorem pC {E:Value->Shared->Prop} {pins:List (Addr × Obj)} {s:Shared} {σ:St} {H:Hp} {x:Str} {u:Value} {pos:Pos} {Q:Value->Shared->Prop} (I:Inv X pins σ H s) (hg:Gl X x) (hm:X.mg x = some u) (h:Q u s)
  (hd:(x == ("__debug__" : Str)) = false:=by decide):wpAny (model X.prog X.w) X.A (eval (.Name x pos) X.env) Q E s :=
 Calls.Name_function_global I.ok.kind hg (Calls.loadGlobal_global (by rw [I.ok.glob]; exact I.mod.glob.keeps I.bk) hm h) hd
theorem Br {E:Value->Shared->Prop} {pins:List (Addr × Obj)} {s:Shared} {σ:St} {H:Hp} {x:Str} {u:Value} {pos:Pos} {Q:Value->Shared->Prop} (I:Inv X pins σ H s) (hg:Gl X x) (hm:X.mg x = none) (hv:bootBuiltins x = some u) (h:Q u s)
  (hn:x ≠ "__name__" := by decide) (hd:(x == ("__debug__" : Str)) = false:=by decide):wpAny (model X.prog X.w) X.A (eval (.Name x pos) X.env) Q E s:=by
 obtain ⟨mb,h1,h2⟩:=I.mod.blt
 exact Calls.Name_function_global I.ok.kind hg (Calls.loadGlobal_builtin (by rw [I.ok.glob]; exact I.mod.glob.keeps I.bk) hm (by rw [I.ok.blt]; exact h1.keeps I.bk) ((h2 x hn).trans hv) h) hd
theorem Jb {x:Str} {v:V} {u:Value} {pos:Pos} (hg:Gl X x) (hm:X.mg x = some u) (r:RelV v u) (hd:(x == ("__debug__" : Str)) = false:=by decide):PE X (.Name x pos) (tC v) :=
 fun _ _ _ H _ I h=>pC I hg hm ⟨v,H,I,r,h⟩ hd
theorem mY {x:Str} {v:V} {u:Value} {pos:Pos} (hg:Gl X x) (hm:X.mg x = none) (hv:bootBuiltins x = some u) (r:RelV v u) (hn:x ≠ "__name__" := by decide) (hd:(x == ("__debug__" : Str)) = false:=by decide):PE X (.Name x pos) (tC v) :=
 fun _ _ _ H _ I h=>Br I hg hm hv ⟨v,H,I,r,h⟩ hn hd
variable {a b:Expr} {ta tb:TE} {pos:Pos}
def PC (X:Cx) (op:CmpOp) (a b:Expr) (t:TE):Prop :=
 ∀ (pins:List (Addr × Obj)) (s:Shared) (σ:St) (H:Hp) (Q:VK),Inv X pins σ H s->t σ H Q ->
  wpAny (model X.prog X.w) X.A (eval a X.env) (fun v s₁=>wpAny (model X.prog X.w) X.A (eval b X.env) (fun u s₂=>wpAny (model X.prog X.w) X.A (compareOp op v u) (EP X pins σ Q) X.xe s₂) X.xe s₁) X.xe s
def tB (t:TE):TT:=fun σ H Q=>t σ H fun x H1=>∃ c,x = .bl c/\Q c H1
theorem Nr {op:CmpOp} {t:TE} (h:PC X op a b t) (h1:behindInMarks op b = false:=by rfl):PT X (.Compare a [op] [b] pos) (tB t):=by
 intro pins s σ H Q I hw
 refine wpAny_isTrue_Compare1 (thn (h pins s σ H _ I hw) fun v s1 h1=>thn h1 fun u s2 h2=>thn h2 fun c s3 ⟨x,H1,I1,r1,q1⟩=>?_) h1
 obtain ⟨d,rfl,q⟩:=q1
 cases r1
 exact wpAny_truthy_bool ⟨H1,I1,q⟩
variable {tA tB':TT} {rest:List Expr}
def Xc (t u:TT):TT:=fun σ H Q=>t σ H fun c H1=>if c = true then u σ H1 Q else Q false H1
def tOr (t u:TT):TT:=fun σ H Q=>t σ H fun c H1=>if c = true then Q true H1 else u σ H1 Q
def RB (t:TT):TT:=fun σ H Q=>t σ H fun c H1=>Q (!c) H1
theorem pw_and1 (ha:PT X a tA):PW X (.BoolOp .And [a] pos) tA:=by
 intro wh pins s σ H Q I h
 refine isTrue_and (thn (ha pins s σ H Q I h) fun c s1 e=>?_)
 cases c with
 | true=>exact isTrue_and_nil e
 | false=>exact e
theorem pw_or1 (ha:PT X a tA):PW X (.BoolOp .Or [a] pos) tA:=by
 intro wh pins s σ H Q I h
 refine isTrue_or (thn (ha pins s σ H Q I h) fun c s1 e=>?_)
 cases c with
 | false=>exact isTrue_or_nil e
 | true=>exact e
theorem pw_and (ha:PT X a tA) (hb:PW X (.BoolOp .And (b :: rest) pos) tB'):PW X (.BoolOp .And (a :: b :: rest) pos) (Xc tA tB'):=by
 intro wh pins s σ H Q I h
 refine isTrue_and (thn (ha pins s σ H _ I h) fun c s1 ⟨H1,I1,q1⟩=>?_)
 cases c with
 | true=>exact hb wh pins s1 σ H1 Q I1 q1
 | false=>exact ⟨H1,I1,q1⟩
theorem pw_or (ha:PT X a tA) (hb:PW X (.BoolOp .Or (b :: rest) pos) tB'):PW X (.BoolOp .Or (a :: b :: rest) pos) (tOr tA tB'):=by
 intro wh pins s σ H Q I h
 refine isTrue_or (thn (ha pins s σ H _ I h) fun c s1 ⟨H1,I1,q1⟩=>?_)
 cases c with
 | true=>exact ⟨H1,I1,q1⟩
 | false=>exact hb wh pins s1 σ H1 Q I1 q1
theorem d9 (ha:PT X a tA):PT X (.UnaryOp .Not a pos) (RB tA):=by
 intro pins s σ H Q I h
 exact isTrue_not (ha pins s σ H (fun c H1=>Q (!c) H1) I h)
def QS (ta tb:TE):TE:=fun σ H Q=>ta σ H fun x H1=>∃ c,x = .bl c/\if c = true then tb σ H1 Q else Q (.bl false) H1
def acr (ta tb:TE):TE:=fun σ H Q=>ta σ H fun x H1=>∃ c,x = .bl c/\if c = true then Q (.bl true) H1 else tb σ H1 Q
def Qw (ta:TE):TE:=fun σ H Q=>ta σ H fun x H1=>∃ c,x = .bl c/\Q (.bl (!c)) H1
theorem Hv {op} {t:TE} (h:PE X a t):PE X (.BoolOp op [a] pos) t:=fun pins s σ H Q I hw=>BoolOp_one (h pins s σ H Q I hw)
theorem Bs (ha:PE X a ta) (hb:PE X (.BoolOp .And (b :: rest) pos) tb):PE X (.BoolOp .And (a :: b :: rest) pos) (QS ta tb):=by
 intro pins s σ H Q I h
 refine BoolOp_and (thn (ha pins s σ H _ I h) fun v s1 ⟨x,H1,I1,r1,q1⟩=>?_)
 obtain ⟨c,rfl,q1⟩:=q1
 cases r1
 refine wpAny_truthy_bool ?_
 cases c with
 | true=>exact hb pins s1 σ H1 Q I1 q1
 | false=>exact ⟨.bl false,H1,I1,rfl,q1⟩
theorem O2 (ha:PE X a ta):PE X (.UnaryOp .Not a pos) (Qw ta):=by
 intro pins s σ H Q I h
 refine UnaryOp_ (thn (ha pins s σ H _ I h) fun v s1 ⟨x,H1,I1,r1,q1⟩=>?_)
 obtain ⟨c,rfl,q1⟩:=q1
 cases r1
 exact not_of (wpAny_truthy_bool ⟨.bl (!c),H1,I1,rfl,q1⟩)
def tIf (t:TT) (ta tb:TE):TE:=fun σ H Q=>t σ H fun c H1=>if c = true then ta σ H1 Q else tb σ H1 Q
theorem Vl {c:Expr} (hc:PT X c tA) (ha:PE X a ta) (hb:PE X b tb):PE X (.IfExp c a b pos) (tIf tA ta tb):=by
 intro pins s σ H Q I h
 refine wpAny_IfExp (thn (hc pins s σ H _ I h) fun d s1 ⟨H1,I1,q1⟩=>?_)
 cases d with
 | true=>exact ha pins s1 σ H1 Q I1 q1
 | false=>exact hb pins s1 σ H1 Q I1 q1
end
def SqL (K:Frag) (H:Hp) (a:Addr) (xs:List V):Prop :=
 Rd H a (.lst xs) \/
  ∃ (o:Obj) (its:Array Value) (n:Nat),K.lookup a = some o/\o.cls = .type "list" /\ o.dict = none/\o.data = .seq its n/\its.size <= sizeLine/\Vals xs its.toList
def SqT (K:Frag) (H:Hp) (a:Addr) (xs:List V):Prop :=
 Rd H a (.tup xs) \/
  ∃ (o:Obj) (its:Array Value) (n:Nat),K.lookup a = some o/\o.cls = .type "tuple" /\ o.data = .seq its n/\its.size <= sizeLine/\Vals xs its.toList
def agb:Value->Option V
 | .none=>some .non
 | .bool b=>some (.bl b)
 | .int i _=>some (.int i)
 | .str x _=>some (.str x)
 | .bytes b _=>some (.byt b)
 | .float b _=>some (.flt b)
 | .ref a=>some (.ref a)
 | .type n=>some (.ty n)
 | _=>none
theorem RelV.abs {x:V} {u:Value} (r:RelV x u):agb u = some x:=by
 cases x with
 | non=>cases r; rfl
 | bl _=>cases r; rfl
 | int _=>obtain ⟨t,rfl⟩:=r; rfl
 | str _=>obtain ⟨t,rfl⟩:=r; rfl
 | byt _=>obtain ⟨t,rfl⟩:=r; rfl
 | flt _=>obtain ⟨t,rfl⟩:=r; rfl
 | ref _=>cases r; rfl
 | ty _=>cases r; rfl
theorem RelV.inj {x y:V} {u:Value} (r:RelV x u) (q:RelV y u):x = y:=Option.some.inj (r.abs.symm.trans q.abs)
theorem Vals.inj:∀ {xs ys:List V} {us:List Value},Vals xs us->Vals ys us->xs = ys
 | _,_,_,.nil,.nil=>rfl
 | _,_,_,.cons r t,.cons r' t'=>by rw [r.inj r',Vals.inj t t']
section
variable {X:Cx} {pins:List (Addr × Obj)} {σ:St} {H:Hp} {s:Shared} {a:Addr} {xs ys:List V}
theorem SqL.of {K:Frag} (h:H a = some (.lst xs)):SqL K H a xs:=.inl (.inl h)
theorem SqT.of {K:Frag} (h:H a = some (.tup xs)):SqT K H a xs:=.inl (.inl h)
theorem Inv.list (I:Inv X pins σ H s) (h:SqL X.K H a xs):∃ its:List Value,Vals xs its/\PlainL s.heap a its.toArray/\xs.length <= sizeLine:=by
 rcases h with h | ⟨o,its,n,hk,hc,hd,hs,hz,r⟩
 .obtain ⟨z,its,n,r,e⟩:=h.ok I.hok
  exact ⟨its,r,⟨_,n,e,rfl,rfl,rfl⟩,z⟩
 .refine ⟨its.toList,r,⟨o,n,I.kIn a o hk,hc,hd,by simpa using hs⟩,?_⟩
  have e:=r.length
  simp only [Array.length_toList] at e
  omega
theorem Inv.tuple (I:Inv X pins σ H s) (h:SqT X.K H a xs):∃ its:List Value,Vals xs its/\IsTup s.heap a its.toArray/\xs.length <= sizeLine:=by
 rcases h with h | ⟨o,its,n,hk,hc,hs,hz,r⟩
 .obtain ⟨z,its,r,p⟩:=h.ok I.hok
  exact ⟨its,r,p,z⟩
 .refine ⟨its.toList,r,⟨o,I.kIn a o hk,hc,n,by simpa using hs⟩,?_⟩
  have e:=r.length
  simp only [Array.length_toList] at e
  omega
theorem Inv.list_inj (I:Inv X pins σ H s) (h:SqL X.K H a xs) (h':SqL X.K H a ys):xs = ys:=by
 obtain ⟨its,r,⟨o,n,e,_,_,d⟩,_⟩:=I.list h
 obtain ⟨its',r',⟨o',n',e',_,_,d'⟩,_⟩:=I.list h'
 rw [e] at e'; cases e'
 rw [d] at d'
 injection d' with d1 _
 have:its = its':=by simpa using congrArg Array.toList d1
 subst this
 exact r.inj r'
theorem Inv.tuple_inj (I:Inv X pins σ H s) (h:SqT X.K H a xs) (h':SqT X.K H a ys):xs = ys:=by
 obtain ⟨its,r,⟨o,e,_,n,d⟩,_⟩:=I.tuple h
 obtain ⟨its',r',⟨o',e',_,n',d'⟩,_⟩:=I.tuple h'
 rw [e] at e'; cases e'
 rw [d] at d'
 injection d' with d1 _
 have:its = its':=by simpa using congrArg Array.toList d1
 subst this
 exact r.inj r'
end
abbrev Cx.wish (X:Cx) (E:Value->Shared->Prop):Cx:={ X with xe:=E }
abbrev Cx.nox (X:Cx):Cx:=X.wish fun _ _=>False
theorem Cx.Ok.wish {X:Cx} (ok:X.Ok) (E:Value->Shared->Prop):(X.wish E).Ok :=
 ⟨ok.mod,ok.kind,ok.glob,ok.blt,ok.above,ok.inj,ok.has,ok.cab,ok.hd,ok.frames,ok.stk,ok.exf,ok.bs,ok.bsz,ok.noex,ok.exfs,ok.funs,ok.frf⟩
theorem Cx.Ok.unwish {X:Cx} {E:Value->Shared->Prop} (ok:(X.wish E).Ok):X.Ok :=
 ⟨ok.mod,ok.kind,ok.glob,ok.blt,ok.above,ok.inj,ok.has,ok.cab,ok.hd,ok.frames,ok.stk,ok.exf,ok.bs,ok.bsz,ok.noex,ok.exfs,ok.funs,ok.frf⟩
section
variable {X:Cx} {pins:List (Addr × Obj)} {σ:St} {H:Hp} {s:Shared} {E:Value->Shared->Prop}
theorem Inv.wish (I:Inv X pins σ H s) (E:Value->Shared->Prop):Inv (X.wish E) pins σ H s:=⟨I.ok.wish E,I.os,I.bare,I.base,I.loc,I.cell,I.free,I.freeC,I.pin,I.hok,I.len⟩
theorem Inv.unwish (I:Inv (X.wish E) pins σ H s):Inv X pins σ H s:=⟨I.ok.unwish,I.os,I.bare,I.base,I.loc,I.cell,I.free,I.freeC,I.pin,I.hok,I.len⟩
theorem SP.unwish {D:Ends} {f:Flow} {s':Shared} (h:SP (X.wish E) pins D f s'):SP X pins D f s':=by
 cases f with
 | next=>obtain ⟨σ',H',I,q⟩:=h; exact ⟨σ',H',I.unwish,q⟩
 | brk=>obtain ⟨σ',H',I,q⟩:=h; exact ⟨σ',H',I.unwish,q⟩
 | cont=>obtain ⟨σ',H',I,q⟩:=h; exact ⟨σ',H',I.unwish,q⟩
 | ret u=>obtain ⟨v,σ',H',I,r,q⟩:=h; exact ⟨v,σ',H',I.unwish,r,q⟩
theorem PSs.nox {st:List Stmt} {t:TS} (h:PSs X.nox st t):PSs X st t:=fun pins s σ H D I hw =>
 wpAny_mono (h pins s σ H D (I.wish _) hw) (fun _ _ q=>q.unwish) fun _ _ z=>False.elim z
end
section
variable {X:Cx} {st:Stmt} {rest:List Stmt} {t u:TS} {e:Expr} {te:TE} {pos:Pos}
def yK:TS:=fun D σ H=>D.nx σ H
def qx (t u:TS):TS:=fun D σ H=>t { D with nx:=u D } σ H
theorem cB:PSs X [] yK:=fun _ _ σ H _ I h=>wpAny_execs_nil ⟨σ,H,I,h⟩
theorem bM (h1:PS X st t) (h2:PSs X rest u):PSs X (st :: rest) (qx t u):=by
 intro pins s σ H D I h
 refine wpAny_execs_cons (thn (h1 pins s σ H { D with nx:=u D } I h) fun f s1 q=>?_)
 cases f with
 | next =>
  obtain ⟨σ',H',I',q⟩:=q
  exact h2 pins s1 σ' H' D I' q
 | ret v=>exact q
 | brk=>exact q
 | cont=>exact q
theorem bO (h1:PS X st t):PSs X [st] t:=by
 intro pins s σ H D I h
 refine wpAny_execs_cons (thn (h1 pins s σ H D I h) fun f s1 q=>?_)
 cases f with
 | next=>exact wpAny_execs_nil q
 | ret v=>exact q
 | brk=>exact q
 | cont=>exact q
theorem Inv.quiet {pins:List (Addr × Obj)} {σ:St} {H:Hp} {s:Shared} (I:Inv X pins σ H s):interactive X.env = false:=by simp [interactive,I.ok.kind]
def QX (te:TE):TS:=fun D σ H=>te σ H fun _ H1=>D.nx σ H1
theorem dD (he:PE X e te) (hs:swapsWith e none pos.line X.env = pure false:=by rfl):PS X (.Expr e pos) (QX te):=by
 intro pins s σ H D I h
 exact wpAny_Expr_any (thn (he pins s σ H _ I h) fun v s1 ⟨x,H1,I1,r1,q1⟩=>⟨σ,H1,I1,q1⟩) I.quiet hs
def Tq (te:TE):TS:=fun D σ H=>te σ H D.rt
theorem cu (he:PE X e te):PS X (.Return (some e) pos) (Tq te):=by
 intro pins s σ H D I h
 exact wpAny_Return_some (thn (he pins s σ H _ I h) fun v s1 ⟨x,H1,I1,r1,q1⟩=>⟨x,σ,H1,I1,r1,q1⟩)
def V2:TS:=fun D _ H=>D.rt .non H
def Fw (c:TT) (t u:TS):TS:=fun D σ H=>c σ H fun b H1=>if b = true then t D σ H1 else u D σ H1
theorem cY {c:Expr} {a b:List Stmt} {tc:TT} (hc:PT X c tc) (ha:PSs X a t) (hb:PSs X b u):PS X (.If c a b pos) (Fw tc t u):=by
 intro pins s σ H D I h
 refine wpAny_If (thn (hc pins s σ H _ I h) fun d s1 ⟨H1,I1,q1⟩=>?_)
 cases d with
 | true=>exact ha pins s1 σ H1 D I1 q1
 | false=>exact hb pins s1 σ H1 D I1 q1
def abS:TS:=fun _ _ _=>False
theorem o8:PS X st abS:=fun _ _ _ _ _ _ h=>h.elim
end
abbrev TG:=V->St->Hp->(St->Hp->Prop)->Prop
abbrev TGs:=List V->St->Hp->(St->Hp->Prop)->Prop
def PG (X:Cx) (target:Expr) (t:TG):Prop :=
 ∀ (pins:List (Addr × Obj)) (s:Shared) (σ:St) (H:Hp) (v:V) (u:Value) (Q:St->Hp->Prop),Inv X pins σ H s->RelV v u->t v σ H Q ->
  wpAny (model X.prog X.w) X.A (assign target X.env u) (fun _ s'=>∃ σ' H',Inv X pins σ' H' s'/\Q σ' H') X.xe s
def PGs (X:Cx) (ts:List Expr) (t:TGs):Prop :=
 ∀ (pins:List (Addr × Obj)) (s:Shared) (σ:St) (H:Hp) (vs:List V) (us:List Value) (Q:St->Hp->Prop),Inv X pins σ H s->Vals vs us->t vs σ H Q ->
  wpAny (model X.prog X.w) X.A (assignInOrder ((assignEach ts X.env).map (·.2)) us) (fun _ s'=>∃ σ' H',Inv X pins σ' H' s'/\Q σ' H') X.xe s
abbrev aa9:=V->V->V->Hp->(Hp->Prop)->Prop
def adZ (X:Cx) (t:aa9):Prop :=
 ∀ (pins:List (Addr × Obj)) (s:Shared) (σ:St) (H:Hp) (o i v:V) (ov iv u:Value) (Q:Hp->Prop),Inv X pins σ H s->RelV o ov->RelV i iv->RelV v u->t o i v H Q ->
  wpAny (model X.prog X.w) X.A (setItem ov iv u) (fun _ s'=>∃ H',Inv X pins σ H' s'/\Q H') X.xe s
section
variable {X:Cx} {pos:Pos}
def cU (i:Nat):TG:=fun v σ H Q=>Q (σ.set i (some v)) H
theorem cH {i:Nat} {x:Str} (hN:X.N.Nodup) (hi:X.N[i]? = some x) (hx:Loc X.env.scope x) (hf:X.fn x = true\/X.env.scope.names.lookup x = some .local:=by first | exact .inl rfl | exact .inr rfl | assumption):PG X (.Name x pos) (cU i):=by
 intro pins s σ H v u Q I r h
 exact wpAny_assign_Name (uL I hN hi hx r (fun s' I'=>⟨_,H,I',h⟩) hf)
def Zn:TGs:=fun vs σ H Q=>vs = []/\Q σ H
def QM (t:TG) (u:TGs):TGs:=fun vs σ H Q=>∃ v r,vs = v :: r/\t v σ H fun σ' H'=>u r σ' H' Q
theorem gO:PGs X [] Zn:=by
 intro pins s σ H vs us Q I r h
 obtain ⟨e,h⟩:=h
 subst e
 cases r
 exact assignInOrder_nil ⟨σ,H,I,h⟩
theorem cD {e:Expr} {es:List Expr} {t:TG} {u:TGs} (h1:PG X e t) (h2:PGs X es u)
  (hs:(assignEach (e :: es) X.env).map (·.2) = assign e X.env :: (assignEach es X.env).map (·.2):=by rfl):PGs X (e :: es) (QM t u):=by
 intro pins s σ H vs us Q I r h
 obtain ⟨v,vr,e1,h⟩:=h
 subst e1
 cases r with
 | cons r rr =>
  rw [hs]
  refine assignInOrder_cons (thn (h1 pins s σ H _ _ _ I r h) fun _ s1 ⟨σ1,H1,I1,q1⟩=>?_)
  exact h2 pins s1 σ1 H1 _ _ Q I1 rr q1
def ZK (K:Frag) (n:Nat) (t:TGs):TG:=fun v σ H Q=>∃ a xs,v = .ref a/\SqT K H a xs/\xs.length = n/\t xs σ H Q
theorem abz {es:List Expr} {k:Nat} {t:TGs} {n:Nat} (hc:X.calm = true) (h:PGs X es t)
  (hn:(assignEach es X.env).length = n:=by rfl) (hst:(assignEach es X.env).findIdx? (·.1) = none:=by rfl):PG X (.Tuple es k pos) (ZK X.K n t):=by
 intro pins s σ H v u Q I r hw
 obtain ⟨a,xs,e1,hq,hl,hw⟩:=hw
 subst e1
 cases r
 obtain ⟨its,rv,ht,hz⟩:=I.tuple hq
 refine assign_Tuple_tuple (I.ok.hd hc) ht (by simp [hn,<- hl,rv.length]) hst fun h' hx=>?_
 have I1:Inv X pins σ H { s with heap:=h' }:=I.kept (t':=s.toks) fun b o e=>hx b o (aU (aK e)) e
 exact h pins _ σ H xs _ Q I1 (by simpa using rv) hw
def YX (to ti:TE) (t:aa9):TG:=fun v σ H Q=>to σ H fun o H1=>ti σ H1 fun i H2=>t o i v H2 fun H3=>Q σ H3
theorem acq {o i:Expr} {to ti:TE} {t:aa9} (ho:PE X o to) (hi:PE X i ti) (hs:adZ X t)
  (ha:∀ v,assign (.Subscript o i pos) X.env v = (do
   let ov <- holding [v] (eval o X.env)
   let iv <- holding [v,ov] (eval i X.env)
   standAt pos
   holding [v,ov,iv] (setItem ov iv v)
   release [v,ov,iv] []):=by intro _; rfl):PG X (.Subscript o i pos) (YX to ti t):=by
 intro pins s σ H v u Q I r h
 rw [ha]
 refine wpAny_bind (wpAny_holding (thn (ho pins s σ H _ I h) fun ov s1 ⟨x,H1,I1,r1,q1⟩=>?_))
 refine wpAny_bind (wpAny_holding (thn (hi pins s1 σ H1 _ I1 q1) fun iv s2 ⟨y,H2,I2,r2,q2⟩=>?_))
 refine wpAny_bind (wpAny_standAt (wpAny_bind (wpAny_holding (thn (hs pins s2 σ H2 x y v ov iv u _ I2 r1 r2 r q2) fun _ s3 ⟨H3,I3,q3⟩=>?_))))
 exact wpAny_release ⟨σ,H3,I3,q3⟩
def Ft (te:TE) (g:TG):TS:=fun D σ H=>te σ H fun x H1=>g x σ H1 D.nx
theorem DN {tg e:Expr} {te:TE} {g:TG} (he:PE X e te) (hg:PG X tg g) (hs:swapsWithSole [tg] e pos.line X.env = pure false:=by rfl) (hw:swappedStores [tg] e X.env = pure none:=by rfl)
  (h1:(assignEach [tg] X.env).map (·.2) = [assign tg X.env]:=by rfl):PS X (.Assign [tg] e pos) (Ft te g):=by
 intro pins s σ H D I h
 refine wpAny_Assign_stores (thn (he pins s σ H _ I h) fun v s1 ⟨x,H1,I1,r1,q1⟩=>?_) hs hw
 rw [h1]
 exact thn (hg pins s1 σ H1 x v _ I1 r1 q1) fun _ s2 q=>q
theorem cA {i:Nat} {x:Str} {e:Expr} {te:TE} {pos':Pos} (hN:X.N.Nodup) (hi:X.N[i]? = some x) (hx:Loc X.env.scope x) (he:PE X e te) (hs:swapsWith e (some (.Name x pos')) pos.line X.env = pure false:=by rfl) (hf:X.fn x = true\/X.env.scope.names.lookup x = some .local:=by first | exact .inl rfl | exact .inr rfl | assumption) :
  PS X (.Assign [.Name x pos'] e pos) (Ft te (cU i)):=by
 intro pins s σ H D I h
 refine wpAny_Assign_Name (thn (he pins s σ H _ I h) fun v s1 ⟨y,H1,I1,r1,q1⟩=>?_) hs
 exact uL I1 hN hi hx r1 (fun s2 I2=>⟨_,H1,I2,q1⟩) hf
def ZP (i j:Nat) (ta:TA):TS:=fun D σ H=>ta σ H fun vs H1=>∃ v w,vs = [v,w]/\D.nx ((σ.set i (some v)).set j (some w)) H1
theorem abN {i j:Nat} {x y:Str} {a b:Expr} {ta:TA} {px py pt:Pos} {kt k2 pt2} (hc:X.calm = true) (hN:X.N.Nodup) (hi:X.N[i]? = some x) (hj:X.N[j]? = some y) (hij:i ≠ j)
  (hx:X.env.scope.names.lookup x = some .local) (hy:X.env.scope.names.lookup y = some .local) (ha:PA X [a,b] ta)
  (hw:swappedStores [.Tuple [.Name x px,.Name y py] kt pt] (.Tuple [a,b] k2 pt2) X.env = pure (some [x,y]))
  (hs:swapsWithSole [.Tuple [.Name x px,.Name y py] kt pt] (.Tuple [a,b] k2 pt2) pos.line X.env = pure false:=by rfl) :
  PS X (.Assign [.Tuple [.Name x px,.Name y py] kt pt] (.Tuple [a,b] k2 pt2) pos) (ZP i j ta):=by
 intro pins s σ H D I h
 rw [exec_Assign_arm]
 refine wpAny_bind (wpAny_standAt ?_)
 rw [hs]
 refine wpAny_bind (wpAny_pure ?_)
 rw [if_neg (by decide)]
 refine wpAny_bind (Tuple_ (thn (ha _ pins s σ H _ I h) fun us s1 ⟨vs,H1,I1,r1,q1⟩=>?_))
 obtain ⟨v,w,e1,q1⟩:=q1
 subst e1
 obtain ⟨u1,u2,rfl,rv,rw'⟩ : ∃ u1 u2,us = [u1,u2]/\RelV v u1/\RelV w u2:=by
  cases r1 with
  | cons p q =>
   cases q with
   | cons p' q' =>
    cases q'
    exact ⟨_,_,rfl,p,p'⟩
 refine wpAny_newObj_type ?_ (by show 2 <= sizeLine; decide)
 have I2:Inv X pins σ H1 { s1 with heap:=s1.heap.push { cls:=.type "tuple",data:=.seq [u1,u2].toArray } }:=I1.kept (t':=s1.toks) fun b o e=>aH _ e
 rw [hw]
 refine wpAny_bind (wpAny_pure ?_)
 show wpAny (model X.prog X.w) X.A (do rule "assign.swapped-stores"; let items <- unpackItems (.ref s1.heap.objs.size) 2 none; assignInOrder [fun v=>bindName X.env y v,fun v=>bindName X.env x v] items.reverse; pure Flow.next) _ _ _
 refine wpAny_bind (wpAny_rule (wpAny_bind (unpackItems_tuple (items:=#[u1,u2]) (I.ok.hd hc) (IsTup.new s1.heap _) fun h' hx'=>?_)))
 have I3:=I2.kept (h':=h') (t':=s1.toks) fun b o e=>hx' b o (aU (aK e)) e
 show wpAny _ _ (assignInOrder [fun v=>bindName X.env y v,fun v=>bindName X.env x v] [u2,u1] >>= fun _=>pure Flow.next) _ _ _
 refine wpAny_bind (assignInOrder_cons (wpAny_bindName (uL I3 hN hj (.inl hy) rw' (fun s2 I4=>?_) (.inr hy))))
 refine assignInOrder_cons (wpAny_bindName (uL I4 hN hi (.inl hx) rv (fun s3 I5=>assignInOrder_nil (wpAny_pure ?_)) (.inr hx)))
 rw [List.set_comm _ _ (Ne.symm hij)] at I5
 exact ⟨_,H1,I5,q1⟩
end
section
variable {X:Cx} {pos:Pos}
def U6 (c:TT) (tb:TS):TS:=fun D σ H=>∃ W:Nat->St->Hp->Prop,(∃ m,W m σ H)/\∀ m σ H,W m σ H ->
 c σ H fun b H1=>if b = true then ∃ N:St->Hp->Prop,(∀ σ' H',N σ' H'->∃ m',m' < m/\W m' σ' H')/\tb { D with nx:=N,ct:=N,bk:=D.nx } σ H1 else D.nx σ H1
theorem Cd {c:Expr} {body:List Stmt} {tc:TT} {tb:TS} (hp:PassesOwn (model X.prog X.w) X.A X.env X.xe) (hc:PT X c tc) (hb:PSs X body tb):PS X (.While c body [] pos) (U6 tc tb):=by
 intro pins s σ H D I h
 obtain ⟨W,⟨m0,w0⟩,turn⟩:=h
 refine wpAny_While (codeAny_whileLoop (fun n s'=>∃ σ' H',Inv X pins σ' H' s'/\W n σ' H') ?_ m0 ⟨σ,H,I,w0⟩)
 rintro n s1 ⟨σ1,H1,I1,w1⟩
 refine wpAny_passesOwn hp (thn (hc pins s1 σ1 H1 _ I1 (turn n σ1 H1 w1)) fun b s2 ⟨H2,I2,q2⟩=>?_)
 cases b with
 | true =>
  obtain ⟨N,hN,q2⟩:=q2
  rw [if_pos rfl]
  refine wpAny_passesOwn hp (thn (hb pins s2 σ1 H2 _ I2 q2) fun f s3 q3=>?_)
  cases f with
  | next =>
   obtain ⟨σ3,H3,I3,n3⟩:=q3
   obtain ⟨m',hm,w3⟩:=hN σ3 H3 n3
   exact ⟨m',hm,σ3,H3,I3,w3⟩
  | cont =>
   obtain ⟨σ3,H3,I3,n3⟩:=q3
   obtain ⟨m',hm,w3⟩:=hN σ3 H3 n3
   exact ⟨m',hm,σ3,H3,I3,w3⟩
  | brk=>exact q3
  | ret v=>exact q3
 | false =>
  rw [if_neg bD]
  exact wpAny_execs_nil ⟨σ1,H2,I2,q2⟩
end
structure It where
 go:Nat->Hp->Prop
 yld:Nat->Hp->V->Hp->Prop
 stop:Nat->Hp->Prop
def Ag (X:Cx) (pins:List (Addr × Obj)) (H:Hp) (b:Addr):Prop :=
 H b = none/\b ≠ X.env.locals/\b ∉ X.fs/\(b ∈ X.ex\/X.s₀.heap.objs.size <= b)/\(∀ x c,X.env.cells.lookup x = some c->c ≠ b)/\∀ p ∈ X.pn ++ pins,p.1 ≠ b
theorem Inv.fpOk {X:Cx} {pins:List (Addr × Obj)} {σ:St} {H H':Hp} {s:Shared} {b:Addr} (I:Inv X pins σ H s) (hb:s.heap.objs.size <= b) (hn:H' b = none):Ag X pins H' b:=by
 refine ⟨hn,Nat.ne_of_gt (aV I.lt hb),I.nofs hb,.inr (aN I.sz hb),fun x c e z=>?_,fun p hp z=>?_⟩
 .obtain ⟨v,q⟩:=I.cell x c e
  exact absurd (aV q.lt (by rw [z]; exact hb)) (Nat.lt_irrefl _)
 .exact absurd (aV (aK (I.pin p hp).1) (by rw [z]; exact hb)) (Nat.lt_irrefl _)
structure Turn (P:Program) (w:World) (K:Frag) (tg:Expr) (J:It) (fp:List Addr) (it:Addr) (tn:Nat->Heap->Prop):Prop where
 mem:it ∈ fp
 obj:∀ i h,tn i h->∀ b ∈ fp,∃ o,h.get? b = some o/\∀ v,o.data ≠ .cell v
 keep:∀ i h h',tn i h->(∀ b ∈ fp,∀ o,h.get? b = some o->h'.get? b = some o)->tn i h'
 item:∀ (X:Cx),X.prog = P->X.w = w->X.K = K->X.calm = true->∀ (i:Nat) (pins:List (Addr × Obj)) (s:Shared) (σ:St) (H:Hp) (E:Value->Shared->Prop),Inv X pins σ H s->(∀ b ∈ fp,Ag X pins H b)->tn i s.heap->J.go i H ->
  wpAny (model P w) X.A (pyNext (.ref it)) (fun r s1=>∃ u,r = some u /\
   wpAny (model P w) X.A (letOwnedTupleGo tg (.ref it) u) (fun _ s2=>∃ x H',Inv X pins σ H' s2/\RelV x u/\J.yld i H x H'/\tn (i + 1) s2.heap/\∀ b ∈ fp,H' b = none) E s1) E s
 done:∀ (X:Cx),X.prog = P->X.w = w->X.K = K->X.calm = true->∀ (i:Nat) (pins:List (Addr × Obj)) (s:Shared) (σ:St) (H:Hp) (E:Value->Shared->Prop),Inv X pins σ H s->(∀ b ∈ fp,Ag X pins H b)->tn i s.heap->J.stop i H ->
  wpAny (model P w) X.A (pyNext (.ref it)) (fun r s1=>r = none/\Inv X pins σ H s1) E s
 self:∀ (A:Around) (i:Nat) (s:Shared) (Q:Value->Shared->Prop) (E:Value->Shared->Prop),tn i s.heap->Q (.ref it) s->wpAny (model P w) A (pyIter (.ref it)) Q E s
abbrev TI:=St->Hp->(It->Hp->Prop)->Prop
def PIE (X:Cx) (pins:List (Addr × Obj)) (σ:St) (tg:Expr) (R:It->Hp->Prop) (itv:Value) (s2:Shared):Prop :=
 ∃ (it:Addr) (fp:List Addr) (tn:Nat->Heap->Prop) (J:It) (H':Hp),itv = .ref it/\Inv X pins σ H' s2/\Turn X.prog X.w X.K tg J fp it tn/\tn 0 s2.heap/\(∀ b ∈ fp,Ag X pins H' b)/\R J H'
def PI (X:Cx) (tg iter:Expr) (wi:TI):Prop :=
 ∀ (pins:List (Addr × Obj)) (s:Shared) (σ:St) (H:Hp) (R:It->Hp->Prop),Inv X pins σ H s->wi σ H R ->
  wpAny (model X.prog X.w) X.A (eval iter X.env) (fun v s1=>wpAny (model X.prog X.w) X.A (pyIter v) (PIE X pins σ tg R) X.xe s1) X.xe s
theorem Lj {M:Model} {A:Around} {E:Value->Shared->Prop} {s:Shared} {tg:Expr} {it:Addr} {u:Value} {o:Obj} {n:String} {vs:Array Value} {Q:Unit->Shared->Prop} (ho:s.heap.get? it = some o) (hc:o.cls = .type n) (hd:o.data = .fields vs)
    (hn : ["enumerate", "zip", "dict_itemiterator", "dict_reverseitemiterator", "odict_iterator", "itertools.zip_longest", "itertools.pairwise"].contains n = false) (hQ:Q () s):wpAny M A (letOwnedTupleGo tg (.ref it) u) Q E s:=by
  unfold letOwnedTupleGo
  cases tg <;> first
    | exact wpAny_pure hQ
    | (cases u <;> first
        | exact wpAny_pure hQ
        | (refine wpAny_bind (wpAny_load ho ?_)
           rw [hc,hd]
           show wpAny M A (if (["enumerate", "zip", "dict_itemiterator", "dict_reverseitemiterator", "odict_iterator", "itertools.zip_longest", "itertools.pairwise"].contains n && vs[0]? == some (rawInt _)) = true then _ else _) Q E s
           rw [if_neg (by intro h; rw [hn,Bool.false_and] at h; cases h)]
           exact wpAny_pure hQ))
def Itl (K:Frag) (a:Addr):It :=
 ⟨fun i H=>∃ xs x,SqL K H a xs/\xs[i]? = some x,fun i H x H'=>H' = H/\∀ xs,SqL K H a xs->xs[i]? = some x,fun i H=>∃ xs,SqL K H a xs/\xs.length <= i⟩
def Itt (K:Frag) (a:Addr):It :=
 ⟨fun i H=>∃ xs x,SqT K H a xs/\xs[i]? = some x,fun i H x H'=>H' = H/\∀ xs,SqT K H a xs->xs[i]? = some x,fun i H=>∃ xs,SqT K H a xs/\xs.length <= i⟩
def Itr (lo:Int) (n:Nat):It:=⟨fun i _=>i < n,fun i H x H'=>H' = H/\x = .int (lo + i),fun i _=>n <= i⟩
theorem RJ {P:Program} {w:World} {K:Frag} {tg:Expr} (a it:Addr):Turn P w K tg (Itl K a) [it] it (fun i h=>h.IsListIter it a i) where
 mem:=by simp
 obj:=fun i h st b hb=>by
  have e:b = it:=by simpa using hb
  subst e
  obtain ⟨o,e,c,d⟩:=st
  exact ⟨o,e,fun v z=>by rw [d] at z; cases z⟩
 keep:=fun i h h' st k=>st.at fun o e=>k it (by simp) o e
 item:=by
  intro X hP hw hK hc i pins s σ H E I hf st hg
  subst hP hw hK
  obtain ⟨xs,x,hq,hx⟩:=hg
  obtain ⟨its,rv,p,hz⟩:=I.list hq
  obtain ⟨u,hu,ru⟩:=rv.get hx
  obtain ⟨f0,f1,f2,f3,f4,f5⟩:=hf it (by simp)
  refine wpAny_pyNext_list_item st p.isList (x:=u) (by simpa using hu) fun h' st' sb=>?_
  have I1:Inv X pins σ H { s with heap:=h' }:=I.turned (t':=s.toks) (fun b o hb e=>(sb.2 b hb).trans e) f0 f1 f3 f4 f5
  obtain ⟨o,e,c,d⟩:=id st'
  exact ⟨u,rfl,Lj (s:={ s with heap:=h' }) e c d (by decide) ⟨x,H,I1,ru,⟨rfl,fun ys hy=>by rw [I.list_inj hy hq]; exact hx⟩,st',fun b hb=>(hf b hb).1⟩⟩
 done:=by
  intro X hP hw hK hc i pins s σ H E I hf st hg
  subst hP hw hK
  obtain ⟨xs,hq,hx⟩:=hg
  obtain ⟨its,rv,p,hz⟩:=I.list hq
  obtain ⟨f0,f1,f2,f3,f4,f5⟩:=hf it (by simp)
  have hl:=rv.length
  exact wpAny_pyNext_list_end (I.ok.hd hc) st p.isList (by simp; omega) fun h' eb=>⟨rfl,I.turned (t':=s.toks) (fun b o hb e=>eb b o hb e) f0 f1 f3 f4 f5⟩
 self:=fun _ _ _ _ _ st h=>wpAny_pyIter_listiter st h
theorem Oh {P:Program} {w:World} {K:Frag} {tg:Expr} (a it:Addr):Turn P w K tg (Itt K a) [it] it (fun i h=>h.IsTupleIter it a i) where
 mem:=by simp
 obj:=fun i h st b hb=>by
  have e:b = it:=by simpa using hb
  subst e
  obtain ⟨o,e,c,d⟩:=st
  exact ⟨o,e,fun v z=>by rw [d] at z; cases z⟩
 keep:=fun i h h' st k=>st.at fun o e=>k it (by simp) o e
 item:=by
  intro X hP hw hK hc i pins s σ H E I hf st hg
  subst hP hw hK
  obtain ⟨xs,x,hq,hx⟩:=hg
  obtain ⟨its,rv,p,hz⟩:=I.tuple hq
  obtain ⟨u,hu,ru⟩:=rv.get hx
  obtain ⟨f0,f1,f2,f3,f4,f5⟩:=hf it (by simp)
  refine wpAny_pyNext_tuple_item st (show s.heap.IsTuple a its.toArray from p) (x:=u) (by simpa using hu) fun h' st' sb=>?_
  have I1:Inv X pins σ H { s with heap:=h' }:=I.turned (t':=s.toks) (fun b o hb e=>(sb.2 b hb).trans e) f0 f1 f3 f4 f5
  obtain ⟨o,e,c,d⟩:=id st'
  exact ⟨u,rfl,Lj (s:={ s with heap:=h' }) e c d (by decide) ⟨x,H,I1,ru,⟨rfl,fun ys hy=>by rw [I.tuple_inj hy hq]; exact hx⟩,st',fun b hb=>(hf b hb).1⟩⟩
 done:=by
  intro X hP hw hK hc i pins s σ H E I hf st hg
  subst hP hw hK
  obtain ⟨xs,hq,hx⟩:=hg
  obtain ⟨its,rv,p,hz⟩:=I.tuple hq
  obtain ⟨f0,f1,f2,f3,f4,f5⟩:=hf it (by simp)
  have hl:=rv.length
  exact wpAny_pyNext_tuple_end (I.ok.hd hc) st (show s.heap.IsTuple a its.toArray from p) (by simp; omega) fun h' eb=>⟨rfl,I.turned (t':=s.toks) (fun b o hb e=>eb b o hb e) f0 f1 f3 f4 f5⟩
 self:=fun _ _ _ _ _ st h=>wpAny_pyIter_tupleiter st h
theorem NQ {P:Program} {w:World} {K:Frag} {tg:Expr} (it:Addr) (lo:Int) (n:Nat):Turn P w K tg (Itr lo n) [it] it (fun i h=>IsRangeIter h it (lo + (i:Nat) * 1) ((n:Int) - (i:Nat)) 1) where
 mem:=by simp
 obj:=fun i h st b hb=>by
  have e:b = it:=by simpa using hb
  subst e
  exact ⟨_,st,fun v z=>by
   have z':Data.fields _ = Data.cell v:=z
   cases z'⟩
 keep:=fun i h h' st k=>k it (by simp) _ st
 item:=by
  intro X hP hw hK hc i pins s σ H E I hf st hg
  subst hP hw hK
  obtain ⟨f0,f1,f2,f3,f4,f5⟩:=hf it (by simp)
  have W:=Walks.range (prog:=X.prog) (w:=X.w) (I.ok.hd hc) it lo 1 n
  refine W.item i s _ _ hg st fun v h' tk hv st' kk=>?_
  obtain ⟨t,rfl⟩:=hv
  have I1:Inv X pins σ H { s with heap:=h',toks:=tk }:=I.turned (fun b o hb e=>kk b o (by simpa using hb) e) f0 f1 f3 f4 f5
  refine ⟨_,rfl,Lj (s:={ s with heap:=h',toks:=tk }) (n := "range_iterator") st' rfl rfl (by decide) ⟨.int (lo + i),H,I1,⟨t,?_⟩,⟨rfl,rfl⟩,st',fun b hb=>(hf b hb).1⟩⟩
  rw [Int.mul_one]
 done:=by
  intro X hP hw hK hc i pins s σ H E I hf st hg
  subst hP hw hK
  obtain ⟨f0,f1,f2,f3,f4,f5⟩:=hf it (by simp)
  exact wpAny_pyNext_range_end (I.ok.hd hc) st (by have:n <= i:=hg; omega) fun h' eb=>⟨rfl,I.turned (t':=s.toks) (fun b o hb e=>eb b o hb e) f0 f1 f3 f4 f5⟩
 self:=fun _ _ _ _ _ st h=>wpAny_pyIter_rangeiter st h
section
variable {X:Cx} {tg:Expr}
def Dp (K:Frag) (tl:TE):TI:=fun σ H R=>tl σ H fun x H1=>∃ a,x = .ref a/\(∃ xs,SqL K H1 a xs)/\R (Itl K a) H1
def afF (K:Frag) (tl:TE):TI:=fun σ H R=>tl σ H fun x H1=>∃ a,x = .ref a/\(∃ xs,SqT K H1 a xs)/\R (Itt K a) H1
theorem cX {l:Expr} {tl:TE} (hl:PE X l tl):PI X tg l (Dp X.K tl):=by
 intro pins s σ H R I h
 refine thn (hl pins s σ H _ I h) fun v s1 ⟨x,H1,I1,r1,q1⟩=>?_
 obtain ⟨a,e,⟨xs,hq⟩,q⟩:=q1
 subst e
 cases r1
 obtain ⟨its,rv,p,hz⟩:=I1.list hq
 refine wpAny_pyIter_list p.isList ?_
 refine ⟨s1.heap.objs.size,[s1.heap.objs.size],_,_,H1,rfl,I1.kept (t':=s1.toks) fun b o e=>aH _ e,RJ a _,⟨_,aZ _ rfl,rfl,rfl⟩,fun b hb=>?_,q⟩
 have e:b = s1.heap.objs.size:=by simpa using hb
 subst e
 exact I1.fpOk (aG _) (I1.hok.fresh (aG _))
theorem abq {l:Expr} {tl:TE} (hl:PE X l tl):PI X tg l (afF X.K tl):=by
 intro pins s σ H R I h
 refine thn (hl pins s σ H _ I h) fun v s1 ⟨x,H1,I1,r1,q1⟩=>?_
 obtain ⟨a,e,⟨xs,hq⟩,q⟩:=q1
 subst e
 cases r1
 obtain ⟨its,rv,p,hz⟩:=I1.tuple hq
 refine wpAny_pyIter_tuple (show s1.heap.IsTuple a its.toArray from p) ?_
 refine ⟨s1.heap.objs.size,[s1.heap.objs.size],_,_,H1,rfl,I1.kept (t':=s1.toks) fun b o e=>aH _ e,Oh a _,⟨_,aZ _ rfl,rfl,rfl⟩,fun b hb=>?_,q⟩
 have e:b = s1.heap.objs.size:=by simpa using hb
 subst e
 exact I1.fpOk (aG _) (I1.hok.fresh (aG _))
theorem Wi {pins:List (Addr × Obj)} {σ:St} {H:Hp} {s:Shared} {R:It->Hp->Prop} {E:Value->Shared->Prop} {lo hi:Int} {t u v:Tok} {tk:Nat} (I:Inv X pins σ H s) (h1 : -(2 ^ 62) <= lo) (h2:lo < 2 ^ 62) (h3 : -(2 ^ 62) <= hi) (h4:hi < 2 ^ 62)
  (q:R (Itr lo (hi - lo).toNat) H):wpAny (model X.prog X.w) X.A (pyIter (.ref s.heap.objs.size)) (PIE X pins σ tg R) E { s with heap:=s.heap.push { cls:=.type "range",data:=.fields #[.int lo t,.int hi u,.int 1 v] },toks:=tk }:=by
 refine wpAny_pyIter_range (IsRange.new ..) (small_one h1 h2 h3 h4) ?_
 have I1:Inv X pins σ H { s with heap:=s.heap.push { cls:=.type "range",data:=.fields #[.int lo t,.int hi u,.int 1 v] },toks:=tk }:=I.kept fun b o e=>aH _ e
 refine ⟨(s.heap.push { cls:=.type "range",data:=.fields #[.int lo t,.int hi u,.int 1 v] }).objs.size,[(s.heap.push { cls:=.type "range",data:=.fields #[.int lo t,.int hi u,.int 1 v] }).objs.size],_,_,H,rfl,
  I1.kept (t':=tk) fun b o e=>aH _ e,NQ _ lo (hi - lo).toNat,?_,fun b hb=>?_,q⟩
 .have e1:lo + ((0:Nat):Int) * 1 = lo:=by simp
  have e2:(((hi - lo).toNat:Nat):Int) - ((0:Nat):Int) = Builtin.Range.rangeSize lo hi 1:=by rw [rangeSize_one]; split <;> omega
  show IsRangeIter _ _ (lo + ((0:Nat):Int) * 1) ((((hi - lo).toNat:Nat):Int) - ((0:Nat):Int)) 1
  rw [e1,e2]
  exact aZ _ rfl
 .have e:b = (s.heap.push { cls:=.type "range",data:=.fields #[.int lo t,.int hi u,.int 1 v] }).objs.size:=by simpa using hb
  subst e
  exact I1.fpOk (aG _) (I1.hok.fresh (aG _))
def Rj (ta:TA):TI:=fun σ H R=>ta σ H fun vs H1=>∃ j:Int,vs = [.int j]/\-(2 ^ 62) <= j/\j < 2 ^ 62/\R (Itr 0 j.toNat) H1
theorem jo {a:Expr} {ta:TA} {p pos:Pos} (hg:Gl X "range") (hm:X.mg "range" = none) (ha:PA X [a] ta) (hs:starEach [a] X.env = [(false,eval a X.env)]:=by rfl):PI X tg (.Call (.Name "range" p) [a] [] pos) (Rj ta):=by
 intro pins s σ H R I h
 refine Call_ (Br I hg hm boot_range (PyProof.Rows.callWith_type1 (thn (ha pos pins s σ H _ I h) fun us s1 ⟨vs,H1,I1,r1,q1⟩=>?_) hs rfl))
 obtain ⟨j,e,q1,q2,q⟩:=q1
 subst e
 cases r1 with
 | cons r rr =>
  cases rr
  obtain ⟨t,rfl⟩:=r
  exact call_range_1 (Wi I1 (by omega) (by omega) q1 q2 (by simpa using q))
def Nv (wi:TI) (g:TG) (tb:TS):TS:=fun D σ H=>wi σ H fun J H1=>∃ W:Nat->Nat->St->Hp->Prop,(∃ m,W 0 m σ H1)/\∀ i m σ H,W i m σ H ->
 (J.stop i H/\D.nx σ H)\/(J.go i H/\∃ N:St->Hp->Prop,(∀ σ' H',N σ' H'->∃ m',m' < m/\W (i + 1) m' σ' H')/\∀ x H',J.yld i H x H'->g x σ H' fun σ2 H2=>tb { D with nx:=N,ct:=N,bk:=D.nx } σ2 H2)
def Ec (fp:List Addr) (h:Heap):List (Addr × Obj):=fp.filterMap fun b=>(h.get? b).map fun o=>(b,o)
theorem oY {fp:List Addr} {h:Heap} {b:Addr} {o:Obj} (hb:b ∈ fp) (e:h.get? b = some o):(b,o) ∈ Ec fp h:=List.mem_filterMap.mpr ⟨b,hb,by rw [e]; rfl⟩
theorem Sg {fp:List Addr} {h:Heap} {p:Addr × Obj} (hp:p ∈ Ec fp h):p.1 ∈ fp/\h.get? p.1 = some p.2:=by
 obtain ⟨b,hb,e⟩:=List.mem_filterMap.mp hp
 cases q:h.get? b with
 | none=>rw [q] at e; cases e
 | some o =>
  rw [q] at e
  have e':(b,o) = p:=Option.some.inj e
  subst e'
  exact ⟨hb,q⟩
theorem Inv.pinned {pins:List (Addr × Obj)} {σ:St} {H:Hp} {s:Shared} {fp:List Addr} (I:Inv X pins σ H s) (hf:∀ b ∈ fp,Ag X pins H b) (ho:∀ b ∈ fp,∃ o,s.heap.get? b = some o/\∀ v,o.data ≠ .cell v):Inv X (pins ++ Ec fp s.heap) σ H s :=
 I.pins_of fun p hp=>(List.mem_append.mp hp).elim (fun z=>I.pin p (aR _ z)) fun z=>by
  obtain ⟨hb,e⟩:=Sg z
  obtain ⟨f0,f1,f2,_⟩:=hf p.1 hb
  obtain ⟨o,e',d⟩:=ho p.1 hb
  rw [e] at e'; cases e'
  exact ⟨e,f0,f1,f2,d⟩
theorem Inv.unpinned {pins pl:List (Addr × Obj)} {σ:St} {H:Hp} {s:Shared} (I:Inv X (pins ++ pl) σ H s):Inv X pins σ H s:=I.pins_of fun p hp=>I.pin p (aR _ (List.mem_append_left _ hp))
theorem iV {iter:Expr} {body:List Stmt} {wi:TI} {g:TG} {tb:TS} {pos:Pos} (hp:PassesOwn (model X.prog X.w) X.A X.env X.xe) (hc:X.calm = true) (hi:PI X tg iter wi) (hg:PG X tg g) (hb:PSs X body tb)
  (hs:∀ x,foldedSetIterable iter X.env x = pure x:=by intro _; rfl):PS X (.For tg iter body [] pos) (Nv wi g tb):=by
 intro pins s σ H D I h
 refine wpAny_For (thn (hi pins s σ H _ I h) fun v s1 h1=>thn h1 fun itv s2 h2=>?_) hs
 obtain ⟨it,fp,tn,J,H2,e,I2,T,st2,f2,W,⟨m0,w0⟩,turn⟩:=h2
 subst e
 -- what stays true of the iterator's objects through the loop
 have stat:∀ {H':Hp},(∀ b ∈ fp,H' b = none)->∀ b ∈ fp,Ag X pins H' b:=fun hn b hb=>⟨hn b hb,(f2 b hb).2⟩
 refine codeAny_forLoop_any (fun n s'=>∃ i σ' H',Inv X pins σ' H' s'/\tn i s'.heap/\(∀ b ∈ fp,H' b = none)/\W i n σ' H') ?_ m0 ⟨0,σ,H2,I2,st2,fun b hb=>(f2 b hb).1,w0⟩
 rintro n s3 ⟨i,σ3,H3,I3,st3,fr3,w3⟩
 rcases turn i n σ3 H3 w3 with ⟨stop,qn⟩ | ⟨go,N,hN,step⟩
 .refine wpAny_passesOwn hp (thn (T.done X rfl rfl rfl hc i pins s3 σ3 H3 X.xe I3 (stat fr3) st3 stop) fun r s4 ⟨hr,I4⟩=>?_)
  subst hr
  exact wpAny_execs_nil ⟨σ3,H3,I4,qn⟩
 .refine wpAny_passesOwn hp (thn (T.item X rfl rfl rfl hc i pins s3 σ3 H3 X.xe I3 (stat fr3) st3 go) fun r s4 ⟨u,hr,h4⟩=>?_)
  subst hr
  refine wpAny_passesOwn hp (thn h4 fun _ s5 ⟨x,H5,I5,r5,y5,st5,fr5⟩=>?_)
  have I5':=I5.pinned (stat fr5) (T.obj _ _ st5)
  refine wpAny_passesOwn hp (thn (hg _ s5 σ3 H5 x u _ I5' r5 (step x H5 y5)) fun _ s6 ⟨σ6,H6,I6,q6⟩=>?_)
  refine wpAny_passesOwn hp (thn (hb _ s6 σ6 H6 _ I6 q6) fun f s7 q7=>?_)
  have again:∀ {σ7:St} {H7:Hp},Inv X (pins ++ Ec fp s5.heap) σ7 H7 s7->N σ7 H7->∃ m,m < n/\∃ i σ' H',Inv X pins σ' H' s7/\tn i s7.heap/\(∀ b ∈ fp,H' b = none)/\W i m σ' H':=fun {σ7 H7} I7 n7=>by
   obtain ⟨m',hm,w7⟩:=hN σ7 H7 n7
   refine ⟨m',hm,i + 1,σ7,H7,I7.unpinned,T.keep _ _ _ st5 fun b hb o e=>(I7.pin (b,o) (aR _ (aR _ (oY hb e)))).1,fun b hb=>?_,w7⟩
   obtain ⟨o,e,d⟩:=T.obj _ _ st5 b hb
   exact (I7.pin (b,o) (aR _ (aR _ (oY hb e)))).2.1
  cases f with
  | next=>obtain ⟨σ7,H7,I7,n7⟩:=q7; exact again I7 n7
  | cont=>obtain ⟨σ7,H7,I7,n7⟩:=q7; exact again I7 n7
  | brk=>obtain ⟨σ7,H7,I7,q7⟩:=q7; exact ⟨σ7,H7,I7.unpinned,q7⟩
  | ret v=>obtain ⟨x7,σ7,H7,I7,r7,q7⟩:=q7; exact ⟨x7,σ7,H7,I7.unpinned,r7,q7⟩
end
theorem K8 {c:TT} {tb:TS} {D:Ends} {σ:St} {H:Hp} (Pv:St->Hp->Prop) (μ:St->Hp->Nat) (h0:Pv σ H)
  (hs:∀ σ H,Pv σ H->c σ H fun b H1=>if b = true then tb { D with nx:=fun σ' H'=>Pv σ' H'/\μ σ' H' < μ σ H,ct:=fun σ' H'=>Pv σ' H'/\μ σ' H' < μ σ H,bk:=D.nx } σ H1 else D.nx σ H1)
  (mono:∀ σ H Q Q',(∀ b H1,Q b H1->Q' b H1)->c σ H Q->c σ H Q'):U6 c tb D σ H:=by
 refine ⟨fun m σ H=>m = μ σ H/\Pv σ H,⟨_,rfl,h0⟩,?_⟩
 rintro m σ H ⟨rfl,p⟩
 refine mono σ H _ _ (fun b H1 q=>?_) (hs σ H p)
 cases b with
 | true=>exact ⟨_,fun σ' H' ⟨p',l⟩=>⟨_,l,rfl,p'⟩,q⟩
 | false=>exact q
abbrev R2:=V->V->Hp->VK->Prop
def OpR (X:Cx) (f:Value->Value->Sem Value) (r:R2):Prop :=
 ∀ (pins:List (Addr × Obj)) (s:Shared) (σ:St) (H:Hp) (x y:V) (v u:Value) (Q:VK),Inv X pins σ H s->RelV x v->RelV y u->r x y H Q ->
  wpAny (model X.prog X.w) X.A (f v u) (EP X pins σ Q) X.xe s
def UnR (X:Cx) (f:Value->Sem Value) (r:V->Hp->VK->Prop):Prop :=
 ∀ (pins:List (Addr × Obj)) (s:Shared) (σ:St) (H:Hp) (x:V) (v:Value) (Q:VK),Inv X pins σ H s->RelV x v->r x H Q ->
  wpAny (model X.prog X.w) X.A (f v) (EP X pins σ Q) X.xe s
def gj (X:Cx) (f:Value) (r:List V->Hp->VK->Prop):Prop :=
 ∀ (pins:List (Addr × Obj)) (s:Shared) (σ:St) (H:Hp) (xs:List V) (us:List Value) (Q:VK),Inv X pins σ H s->Vals xs us->r xs H Q ->
  wpAny (model X.prog X.w) X.A (call f us) (EP X pins σ Q) X.xe s
def af7 (X:Cx) (r:V->Hp->(Bool->Hp->Prop)->Prop):Prop :=
 ∀ (pins:List (Addr × Obj)) (s:Shared) (σ:St) (H:Hp) (x:V) (v:Value) (Q:Bool->Hp->Prop),Inv X pins σ H s->RelV x v->r x H Q ->
  wpAny (model X.prog X.w) X.A (truthy v) (TP X pins σ Q) X.xe s
def tOp (r:R2) (ta tb:TE):TE:=fun σ H Q=>ta σ H fun x H1=>tb σ H1 fun y H2=>r x y H2 Q
def tUn (r:V->Hp->VK->Prop) (ta:TE):TE:=fun σ H Q=>ta σ H fun x H1=>r x H1 Q
def rI (C:Int->Int->Prop) (g:Int->Int->V):R2:=fun x y H Q=>∃ i j,x = .int i/\y = .int j/\C i j/\Q (g i j) H
def rI0 (g:Int->Int->V):R2:=fun x y H Q=>∃ i j,x = .int i/\y = .int j/\Q (g i j) H
def rU (g:Int->V):V->Hp->VK->Prop:=fun x H Q=>∃ i,x = .int i/\Q (g i) H
section
variable {X:Cx} {a b c:Expr} {ta tb tc:TE} {pos:Pos}
theorem ab3 (ha:PE X a ta) (hb:PE X b tb) {pins:List (Addr × Obj)} {s:Shared} {σ:St} {H:Hp} {R:V->V->Hp->Prop} (I:Inv X pins σ H s)
  (h:ta σ H fun x H1=>tb σ H1 fun y H2=>R x y H2) {Q:Value->Shared->Prop} {f:Value->Value->Sem Value}
  (hf:∀ v u s2 x y H2,Inv X pins σ H2 s2->RelV x v->RelV y u->R x y H2->wpAny (model X.prog X.w) X.A (f v u) Q X.xe s2) :
  wpAny (model X.prog X.w) X.A (eval a X.env) (fun v s₁=>wpAny (model X.prog X.w) X.A (eval b X.env) (fun u s₂=>wpAny (model X.prog X.w) X.A (f v u) Q X.xe s₂) X.xe s₁) X.xe s:=by
 refine thn (ha pins s σ H _ I h) fun v s1 ⟨x,H1,I1,r1,q1⟩=>?_
 refine thn (hb pins s1 σ H1 _ I1 q1) fun u s2 ⟨y,H2,I2,r2,q2⟩=>?_
 exact hf v u s2 x y H2 I2 r1 r2 q2
theorem bU {op:Operator} {r:R2} (ho:OpR X (binaryOp op) r) (ha:PE X a ta) (hb:PE X b tb):PE X (.BinOp a op b pos) (tOp r ta tb):=by
 intro pins s σ H Q I h
 exact wpAny_BinOp (ab3 ha hb I h fun v u s2 x y H2 I2 rx ry q=>ho pins s2 σ H2 x y v u Q I2 rx ry q)
theorem K7 {op:UnaryOp} {r:V->Hp->VK->Prop} (ho:UnR X (unaryOp op) r) (ha:PE X a ta):PE X (.UnaryOp op a pos) (tUn r ta):=by
 intro pins s σ H Q I h
 exact UnaryOp_ (thn (ha pins s σ H _ I h) fun v s1 ⟨x,H1,I1,r1,q1⟩=>ho pins s1 σ H1 x v Q I1 r1 q1)
theorem opI {f:Value->Value->Sem Value} {C:Int->Int->Prop} {g:Int->Int->Int}
  (rule:∀ (i j:Int) (t u:Tok) (s:Shared) (Q:Value->Shared->Prop) (E:Value->Shared->Prop),C i j->Q (.int (g i j) s.toks) { s with toks:=s.toks + 1 }->wpAny (model X.prog X.w) X.A (f (.int i t) (.int j u)) Q E s) :
  OpR X f (rI C fun i j=>.int (g i j)):=by
 intro pins s σ H x y v u Q I rx ry h
 obtain ⟨i,j,rfl,rfl,hc,q⟩:=h
 obtain ⟨t,rfl⟩:=rx
 obtain ⟨t',rfl⟩:=ry
 exact rule i j t t' s _ _ hc ⟨.int (g i j),H,I.tok _,⟨_,rfl⟩,q⟩
theorem afv {f:Value->Value->Sem Value} {g:Int->Int->Int}
  (rule:∀ (i j:Int) (t u:Tok) (s:Shared) (Q:Value->Shared->Prop) (E:Value->Shared->Prop),Q (.int (g i j) s.toks) { s with toks:=s.toks + 1 }->wpAny (model X.prog X.w) X.A (f (.int i t) (.int j u)) Q E s) :
  OpR X f (rI0 fun i j=>.int (g i j)):=by
 intro pins s σ H x y v u Q I rx ry h
 obtain ⟨i,j,rfl,rfl,q⟩:=h
 obtain ⟨t,rfl⟩:=rx
 obtain ⟨t',rfl⟩:=ry
 exact rule i j t t' s _ _ ⟨.int (g i j),H,I.tok _,⟨_,rfl⟩,q⟩
theorem Zw {f:Value->Value->Sem Value} {g:Int->Int->Bool}
  (rule:∀ (i j:Int) (t u:Tok) (s:Shared) (Q:Value->Shared->Prop) (E:Value->Shared->Prop),Q (.bool (g i j)) s->wpAny (model X.prog X.w) X.A (f (.int i t) (.int j u)) Q E s) :
  OpR X f (rI0 fun i j=>.bl (g i j)):=by
 intro pins s σ H x y v u Q I rx ry h
 obtain ⟨i,j,rfl,rfl,q⟩:=h
 obtain ⟨t,rfl⟩:=rx
 obtain ⟨t',rfl⟩:=ry
 exact rule i j t t' s _ _ ⟨.bl (g i j),H,I,rfl,q⟩
def acW (i j:Int):Prop:=0 <= j/\j <= 1000000/\i.natAbs < 2 ^ 64
def acf (i j:Int):Prop:=(-(2 ^ 64) < i/\i < 2 ^ 64)\/(-(2 ^ 64) < j/\j < 2 ^ 64)
theorem acf.ok {i j:Int} (h:acf i j):IntMulOk i j:=by
 rcases h with ⟨h1,h2⟩ | ⟨h1,h2⟩
 .exact .of_left (intBits_le_64 h1 h2)
 .exact .of_right (intBits_le_64 h1 h2)
theorem cZ:OpR X (binaryOp .Add) (rI0 fun i j=>.int (i + j)):=afv fun _ _ _ _ _ _ _ q=>add_int q
theorem um:OpR X (binaryOp .Sub) (rI0 fun i j=>.int (i - j)):=afv fun _ _ _ _ _ _ _ q=>sub_int q
theorem O9:OpR X (binaryOp .Mult) (rI acf fun i j=>.int (i * j)):=opI fun _ _ _ _ _ _ _ hc q=>mul_int q hc.ok
theorem cR:OpR X (binaryOp .Mod) (rI (fun _ j=>0 < j) fun i j=>.int (i % j)):=opI fun i j _ _ _ _ _ hc q=>by
 have h1:(0:Int) < j:=hc
 exact mod_int' (by omega) (by rw [aY i (by omega)]; exact q)
theorem mK:OpR X (binaryOp .Mod) (rI (fun _ j=>j ≠ 0) fun i j=>.int (i.fmod j)):=opI fun _ _ _ _ _ _ _ hc q=>mod_int' hc q
theorem IW:OpR X (binaryOp .Pow) (rI acW fun i j=>.int (i ^ j.toNat)):=opI fun _ _ _ _ _ _ _ hc q=>pow_int_small hc.1 hc.2.1 hc.2.2 q
theorem unI {f:Value->Sem Value} {g:Int->Int}
  (rule:∀ (i:Int) (t:Tok) (s:Shared) (Q:Value->Shared->Prop) (E:Value->Shared->Prop),Q (.int (g i) s.toks) { s with toks:=s.toks + 1 }->wpAny (model X.prog X.w) X.A (f (.int i t)) Q E s) :
  UnR X f (rU fun i=>.int (g i)):=by
 intro pins s σ H x v Q I rx h
 obtain ⟨i,rfl,q⟩:=h
 obtain ⟨t,rfl⟩:=rx
 exact rule i t s _ _ ⟨.int (g i),H,I.tok _,⟨_,rfl⟩,q⟩
theorem BX:UnR X (unaryOp .USub) (rU fun i=>.int (-i)):=unI fun _ _ _ _ _ q=>neg_int q
end
def R8:V->V->Bool
 | .non,.non=>true | .non,.int _=>true | .int _,.non=>true | .non,.bl _=>true | .bl _,.non=>true | .non,.str _=>true | .str _,.non=>true
 | .int _,.int _=>true | .bl _,.bl _=>true | .str _,.str _=>true | .byt _,.byt _=>true
 | .int _,.str _=>true | .str _,.int _=>true | .bl _,.str _=>true | .str _,.bl _=>true
 | _,_=>false
def rEq:R2:=fun x y H Q=>R8 x y = true/\Q (.bl (decide (x = y))) H
def rNe:R2:=fun x y H Q=>R8 x y = true/\Q (.bl (!decide (x = y))) H
theorem Q0 {i j:Int} : decide (V.int i = V.int j) = (i == j):=by
 rw [Bool.eq_iff_iff]
 simp
theorem Ur {i j:Bool} : decide (V.bl i = V.bl j) = (i == j):=by
 rw [Bool.eq_iff_iff]
 simp
theorem Rv {i j:Str} : decide (V.str i = V.str j) = (i == j):=by
 rw [Bool.eq_iff_iff]
 simp
theorem Q5 {i j:Array UInt8} : decide (V.byt i = V.byt j) = (i.toList == j.toList):=by
 rw [Bool.eq_iff_iff]
 cases i
 cases j
 simp
section
variable {X:Cx} {a b c:Expr} {ta tb tc:TE} {pos:Pos}
theorem dw {pins:List (Addr × Obj)} {σ:St} {H:Hp} {s:Shared} {Q:VK} {k k':Bool} (I:Inv X pins σ H s) (q:Q (.bl k) H) (e:k = k'):EP X pins σ Q (.bool k') s:=by
 subst e
 exact ⟨.bl k,H,I,rfl,q⟩
theorem nR:OpR X (compareOp .Eq) rEq:=by
 intro pins s σ H x y v u Q I rx ry h
 obtain ⟨hs,q⟩:=h
 cases x with
 | non =>
  cases rx
  cases y with
  | non=>cases ry; exact PySem.EqNone.eq_none_none (dw I q (by simp))
  | bl j=>cases ry; exact PySem.EqNone.eq_none_bool (dw I q (by simp))
  | int j=>obtain ⟨t',rfl⟩:=ry; exact PySem.EqNone.eq_none_int (dw I q (by simp))
  | str j=>obtain ⟨t',rfl⟩:=ry; exact PySem.EqNone.eq_none_str (dw I q (by simp))
  | _=>exact absurd (show false = true from hs) bD
 | bl i =>
  cases rx
  cases y with
  | non=>cases ry; exact PySem.EqNone.eq_bool_none (dw I q (by simp))
  | bl j=>cases ry; exact eq_bool (dw I q Ur)
  | str j=>obtain ⟨t',rfl⟩:=ry; exact PySem.EqMixed.eq_bool_str (dw I q (by simp))
  | _=>exact absurd (show false = true from hs) bD
 | int i =>
  obtain ⟨t,rfl⟩:=rx
  cases y with
  | non=>cases ry; exact PySem.EqNone.eq_int_none (dw I q (by simp))
  | int j=>obtain ⟨t',rfl⟩:=ry; exact eq_int (dw I q Q0)
  | str j=>obtain ⟨t',rfl⟩:=ry; exact PySem.EqMixed.eq_int_str (dw I q (by simp))
  | _=>exact absurd (show false = true from hs) bD
 | str i =>
  obtain ⟨t,rfl⟩:=rx
  cases y with
  | non=>cases ry; exact PySem.EqNone.eq_str_none (dw I q (by simp))
  | bl j=>cases ry; exact PySem.EqMixed.eq_str_bool (dw I q (by simp))
  | int j=>obtain ⟨t',rfl⟩:=ry; exact PySem.EqMixed.eq_str_int (dw I q (by simp))
  | str j=>obtain ⟨t',rfl⟩:=ry; exact eq_str (dw I q Rv)
  | _=>exact absurd (show false = true from hs) bD
 | byt i =>
  obtain ⟨t,rfl⟩:=rx
  cases y with
  | byt j=>obtain ⟨t',rfl⟩:=ry; exact PySem.W.eq_bytes (dw I q Q5)
  | _=>exact absurd (show false = true from hs) bD
 | _=>cases y <;> exact absurd (show false = true from hs) bD
theorem Gq:OpR X (compareOp .NotEq) rNe:=by
 intro pins s σ H x y v u Q I rx ry h
 obtain ⟨hs,q⟩:=h
 cases x with
 | non =>
  cases rx
  cases y with
  | non=>cases ry; exact PySem.EqNone.ne_none_none (dw I q (by simp))
  | bl j=>cases ry; exact PySem.EqNone.ne_none_bool (dw I q (by simp))
  | int j=>obtain ⟨t',rfl⟩:=ry; exact PySem.EqNone.ne_none_int (dw I q (by simp))
  | str j=>obtain ⟨t',rfl⟩:=ry; exact PySem.EqNone.ne_none_str (dw I q (by simp))
  | _=>exact absurd (show false = true from hs) bD
 | bl i =>
  cases rx
  cases y with
  | non=>cases ry; exact PySem.EqNone.ne_bool_none (dw I q (by simp))
  | bl j=>cases ry; exact ne_bool (dw I q (congrArg not Ur))
  | str j=>obtain ⟨t',rfl⟩:=ry; exact PySem.EqMixed.ne_bool_str (dw I q (by simp))
  | _=>exact absurd (show false = true from hs) bD
 | int i =>
  obtain ⟨t,rfl⟩:=rx
  cases y with
  | non=>cases ry; exact PySem.EqNone.ne_int_none (dw I q (by simp))
  | int j=>obtain ⟨t',rfl⟩:=ry; exact ne_int (dw I q (congrArg not Q0))
  | str j=>obtain ⟨t',rfl⟩:=ry; exact PySem.EqMixed.ne_int_str (dw I q (by simp))
  | _=>exact absurd (show false = true from hs) bD
 | str i =>
  obtain ⟨t,rfl⟩:=rx
  cases y with
  | non=>cases ry; exact PySem.EqNone.ne_str_none (dw I q (by simp))
  | bl j=>cases ry; exact PySem.EqMixed.ne_str_bool (dw I q (by simp))
  | int j=>obtain ⟨t',rfl⟩:=ry; exact PySem.EqMixed.ne_str_int (dw I q (by simp))
  | str j=>obtain ⟨t',rfl⟩:=ry; exact ne_str (dw I q (congrArg not Rv))
  | _=>exact absurd (show false = true from hs) bD
 | byt i =>
  obtain ⟨t,rfl⟩:=rx
  cases y with
  | byt j=>obtain ⟨t',rfl⟩:=ry; exact PySem.W.ne_bytes (dw I q (congrArg not Q5))
  | _=>exact absurd (show false = true from hs) bD
 | _=>cases y <;> exact absurd (show false = true from hs) bD
theorem zZ:OpR X (compareOp .Lt) (rI0 fun i j=>.bl (decide (i < j))):=Zw fun _ _ _ _ _ _ _ q=>lt_int q
theorem Bo:OpR X (compareOp .LtE) (rI0 fun i j=>.bl (decide (i <= j))):=Zw fun _ _ _ _ _ _ _ q=>le_int q
theorem GR:OpR X (compareOp .Gt) (rI0 fun i j=>.bl (decide (j < i))):=Zw fun _ _ _ _ _ _ _ q=>gt_int q
theorem aa5:OpR X (compareOp .GtE) (rI0 fun i j=>.bl (decide (j <= i))):=Zw fun _ _ _ _ _ _ _ q=>ge_int q
theorem Vv:OpR X (compareOp .Is) (fun x y H Q=>y = .non/\Q (.bl (decide (x = .non))) H):=by
 intro pins s σ H x y v u Q I rx ry h
 obtain ⟨rfl,q⟩:=h
 cases ry
 refine is_none_gen (dw I q ?_)
 cases x <;> first
  | (cases rx; rfl)
  | (obtain ⟨t,rfl⟩:=rx; rfl)
theorem cN (b:Expr) {op:CmpOp} (h:op ≠ .In:=by decide) (h2:op ≠ .NotIn:=by decide):behindInMarks op b = false:=by
 have e1:(op == CmpOp.In) = false:=by cases op <;> first | rfl | exact absurd rfl h
 have e2:(op == CmpOp.NotIn) = false:=by cases op <;> first | rfl | exact absurd rfl h2
 cases b <;> simp [behindInMarks,e1,e2]
theorem mQ {op:CmpOp} {r:R2} (ho:OpR X (compareOp op) r) (ha:PE X a ta) (hb:PE X b tb) (hm:behindInMarks op b = false):PE X (.Compare a [op] [b] pos) (tOp r ta tb):=by
 intro pins s σ H Q I h
 exact wpAny_Compare1 (ab3 ha hb I h fun v u s2 x y H2 I2 rx ry q=>ho pins s2 σ H2 x y v u Q I2 rx ry q) hm
def yE (t:TE):TT:=fun σ H Q=>t σ H fun x H'=>∃ k,x = .bl k/\Q k H'
theorem cQ {op:CmpOp} {r:R2} (ho:OpR X (compareOp op) r) (ha:PE X a ta) (hb:PE X b tb) (hm:behindInMarks op b = false):PT X (.Compare a [op] [b] pos) (yE (tOp r ta tb)):=by
 intro pins s σ H Q I h
 refine wpAny_isTrue_Compare1 (thn (ha pins s σ H _ I h) fun v s1 ⟨x,H1,I1,r1,q1⟩=>thn (hb pins s1 σ H1 _ I1 q1) fun u s2 ⟨y,H2,I2,r2,q2⟩ =>
  thn (ho pins s2 σ H2 x y v u _ I2 r1 r2 q2) fun c s3 ⟨z,H3,I3,r3,k,e,q3⟩=>?_) hm
 subst e
 cases r3
 exact wpAny_truthy_bool ⟨H3,I3,q3⟩
def Df (r r':R2) (ta tb tc:TE):TE:=fun σ H Q=>ta σ H fun x H1=>tb σ H1 fun y H2=>r x y H2 fun z H3=>∃ k,z = .bl k /\
 (if k = true then tc σ H3 fun w' H4=>r' y w' H4 Q else Q (.bl false) H3)
theorem Vg {op op':CmpOp} {r r':R2} (ho:OpR X (compareOp op) r) (ho':OpR X (compareOp op') r') (ha:PE X a ta) (hb:PE X b tb) (hc:PE X c tc)
  (hm:lastMarks [op,op'] [b,c] = false:=by with_unfolding_all rfl):PE X (.Compare a [op,op'] [b,c] pos) (Df r r' ta tb tc):=by
 intro pins s σ H Q I h
 refine Compare_chain (thn (ha pins s σ H _ I h) fun v s1 ⟨x,H1,I1,r1,q1⟩=>chain_link (thn (hb pins s1 σ H1 _ I1 q1) fun u s2 ⟨y,H2,I2,r2,q2⟩ =>
  thn (ho pins s2 σ H2 x y v u _ I2 r1 r2 q2) fun d s3 ⟨z,H3,I3,r3,k,e,q3⟩=>?_)) hm
 subst e
 cases r3
 refine wpAny_truthy_bool ?_
 cases k with
 | false=>exact ite_ff ⟨.bl false,H3,I3,rfl,q3⟩
 | true=>exact ite_tt (chain_last (thn (hc pins s3 σ H3 _ I3 q3) fun w' s4 ⟨z',H4,I4,r4,q4⟩=>ho' pins s4 σ H4 y z' u w' Q I4 r2 r4 q4))
theorem Dh {op op':CmpOp} {r r':R2} (ho:OpR X (compareOp op) r) (ho':OpR X (compareOp op') r') (ha:PE X a ta) (hb:PE X b tb) (hc:PE X c tc)
  (hm:lastMarks [op,op'] [b,c] = false:=by with_unfolding_all rfl):PT X (.Compare a [op,op'] [b,c] pos) (yE (Df r r' ta tb tc)):=by
 intro pins s σ H Q I h
 refine isTrue_chain (thn (ha pins s σ H _ I h) fun v s1 ⟨x,H1,I1,r1,q1⟩=>test_link (thn (hb pins s1 σ H1 _ I1 q1) fun u s2 ⟨y,H2,I2,r2,q2⟩ =>
  thn (ho pins s2 σ H2 x y v u _ I2 r1 r2 q2) fun d s3 ⟨z,H3,I3,r3,k,e,q3⟩=>?_)) hm
 subst e
 cases r3
 refine wpAny_truthy_bool ?_
 cases k with
 | false =>
  obtain ⟨k',e',q'⟩:=q3
  cases e'
  exact ite_ff ⟨H3,I3,q'⟩
 | true =>
  refine ite_tt (test_last (thn (hc pins s3 σ H3 _ I3 q3) fun w' s4 ⟨z',H4,I4,r4,q4⟩=>thn (ho' pins s4 σ H4 y z' u w' _ I4 r2 r4 q4) fun d' s5 ⟨z2,H5,I5,r5,k2,e2,q5⟩=>?_))
  subst e2
  cases r5
  exact wpAny_truthy_bool ⟨H5,I5,q5⟩
def afP (K:Frag) (x:V) (H:Hp) (k:Bool):Prop :=
 match x with
 | .non=>k = false
 | .bl b=>k = b
 | .int i=>k = (i != 0)
 | .str y=>y.length <= sizeLine/\k = ((y.length:Int) != 0)
 | .byt y=>y.size <= sizeLine/\k = ((y.size:Int) != 0)
 | .ref p=>(∃ xs,SqL K H p xs/\k = !xs.isEmpty)\/(∃ xs,SqT K H p xs/\k = !xs.isEmpty)\/∃ kvs,H p = some (.dK kvs)/\k = !kvs.isEmpty
 | _=>False
theorem Oz {κ:Type} {kvs:List (κ × V)} {vs:List (κ × Value)} (r:KV kvs vs):(!vs.isEmpty) = !kvs.isEmpty:=by
 cases r <;> rfl
theorem DX {xs:List V} {its:List Value} (r:Vals xs its):(!its.toArray.isEmpty) = !xs.isEmpty:=by
 cases r <;> simp
theorem uD:(sizeLine:Nat) < 2 ^ 63:=by rw [sizeLine_eq]; decide
theorem abu:af7 X (fun x H Q=>∃ k,afP X.K x H k/\Q k H):=by
 intro pins s σ H x v Q I rx h
 obtain ⟨k,e,q⟩:=h
 have hl:=uD
 have hs:sizeLine = 16777216:=sizeLine_eq
 cases x with
 | non =>
  cases rx
  have e':k = false:=e
  subst e'
  exact truthy_none ⟨H,I,q⟩
 | bl b =>
  cases rx
  have e':k = b:=e
  subst e'
  exact wpAny_truthy_bool ⟨H,I,q⟩
 | int i =>
  obtain ⟨t,rfl⟩:=rx
  have e':k = (i != 0):=e
  subst e'
  exact PySem.P.truthy_int ⟨H,I,q⟩
 | str y =>
  obtain ⟨t,rfl⟩:=rx
  obtain ⟨hy,e'⟩ : y.length <= sizeLine/\k = ((y.length:Int) != 0):=e
  subst e'
  exact PySem.P.truthy_str (by omega) ⟨H,I.tok _,q⟩
 | byt y =>
  obtain ⟨t,rfl⟩:=rx
  obtain ⟨hy,e'⟩ : y.size <= sizeLine/\k = ((y.size:Int) != 0):=e
  subst e'
  exact PySem.W.truthy_bytes (by omega) ⟨H,I.tok _,q⟩
 | ref p =>
  cases rx
  have e':(∃ xs,SqL X.K H p xs/\k = !xs.isEmpty)\/(∃ xs,SqT X.K H p xs/\k = !xs.isEmpty)\/∃ kvs,H p = some (.dK kvs)/\k = !kvs.isEmpty:=e
  rcases e' with ⟨xs,hx,e'⟩ | ⟨xs,hx,e'⟩ | ⟨kvs,hx,e'⟩
  .subst e'
   obtain ⟨its,r,pl,hz⟩:=I.list hx
   have hlen:=r.length
   exact wpAny_truthy_list pl.isList (by simp only [bh]; omega) ⟨H,I.tok _,by rw [DX r]; exact q⟩
  .subst e'
   obtain ⟨its,r,pl,hz⟩:=I.tuple hx
   have hlen:=r.length
   exact truthy_tuple pl (by simp only [bh]; omega) ⟨H,I.tok _,by rw [DX r]; exact q⟩
  .subst e'
   obtain ⟨hz,hS,vs,r,m⟩ : kvs.length <= sizeLine/\(p == sysModules) = false/\∃ vs,KV kvs vs/\s.heap.DictOf (jW X.prog X.w) p vs:=I.hok p _ hx
   have hlen:kvs.length = vs.length:=Paired.length r
   exact wpAny_truthy_dict hS m (by omega) ⟨H,I.tok _,by rw [Oz r]; exact q⟩
 | _=>exact (show False from e).elim
theorem Om:OpR X (binaryOp .Add) (fun x y H Q=>∃ i j,x = .str i/\y = .str j/\i.length + j.length <= sizeLine/\Q (.str (i ++ j)) H):=by
 intro pins s σ H x y v u Q I rx ry h
 obtain ⟨i,j,rfl,rfl,hz,q⟩:=h
 obtain ⟨t,rfl⟩:=rx
 obtain ⟨t',rfl⟩:=ry
 exact add_str (fun t' tk=>⟨.str (i ++ j),H,I.tok _,⟨_,rfl⟩,q⟩) hz
theorem vals1 {x:V} {us:List Value} (r:Vals [x] us):∃ u,us = [u]/\RelV x u:=by
 cases r with
 | cons r1 r2=>cases r2; exact ⟨_,rfl,r1⟩
theorem uK:gj X (.builtin "abs") (fun xs H Q=>∃ i,xs = [.int i]/\Q (.int (if i < 0 then -i else i)) H):=by
 intro pins s σ H xs us Q I r h
 obtain ⟨i,rfl,q⟩:=h
 obtain ⟨u,rfl,t,rfl⟩:=vals1 r
 exact call_abs_int fun u tk=>⟨.int (if i < 0 then -i else i),H,I.tok _,⟨_,rfl⟩,q⟩
theorem uU:gj X (.type "int") (fun xs H Q=>(∃ i,xs = [.int i]/\Q (.int i) H)\/∃ k,xs = [.bl k]/\Q (.int (if k then 1 else 0)) H):=by
 intro pins s σ H xs us Q I r h
 rcases h with ⟨i,rfl,q⟩ | ⟨k,rfl,q⟩
 .obtain ⟨u,rfl,t,rfl⟩:=vals1 r
  exact call_int_int ⟨.int i,H,I,⟨_,rfl⟩,q⟩
 .obtain ⟨u,rfl,r1⟩:=vals1 r
  cases r1
  exact call_int_bool ⟨.int (if k then 1 else 0),H,I.tok _,⟨_,rfl⟩,q⟩
end
structure O4 (h:Heap) (x dx C:Addr) (mA:Str->Option Value):Prop where
 obj:h.get? x = some (PySem.W.instObj C dx)
 ns:h.Ns1 dx mA
 ne:dx ≠ x
theorem R9 {h:Heap} {dx:Addr} {mA:Str->Option Value} (n:h.Ns1 dx mA):∃ od,h.get? dx = some od/\∀ name,PySem.W.lookIn name od = some (mA name):=by
 obtain ⟨o,es,ep,ho,hd,hk,_,hm⟩:=n
 refine ⟨o,ho,fun name=>?_⟩
 have e:=hm name
 unfold nsFind findBy at e
 rw [<- Array.find?_toList] at e
 unfold PySem.W.lookIn
 rw [hd]
 dsimp only
 split
 .rename_i y q
  rw [q] at e
  exact congrArg some e
 .rename_i q
  rw [q] at e
  have a:es.toList.any (·.refKey) = false:=by
   rw [List.any_eq_false]
   intro y hy
   obtain ⟨z,t,hkey⟩:=hk y (Array.mem_toList_iff.mp hy)
   simp [DictEntry.refKey,hkey]
  have a':¬ es.toList.any (·.refKey) = true:=by rw [a]; exact bD
  rw [if_neg a']
  exact congrArg some e
theorem O4.look {h:Heap} {x dx C:Addr} {mA:Str->Option Value} (I:O4 h x dx C mA):∃ od,PySem.W.InstAt h x (PySem.W.instObj C dx) C (some od)/\∀ name,PySem.W.lookIn name od = some (mA name) :=
 let ⟨od,ho,hl⟩:=R9 I.ns
 ⟨od,⟨I.obj,rfl,rfl,ho⟩,hl⟩
section
variable {prog:Program} {w:World} {A:Around} {E:Value->Shared->Prop} {s:Shared} {K:Frag} {x dx C f:Addr} {mA:Str->Option Value} {name:Str} {v:Value}
theorem get_map {expr:Bool} {Q:Value->Shared->Prop} (X:K.In s.heap) (I:O4 s.heap x dx C mA) (hg:PySem.W.plainGet K C name = true) (hh:PySem.W.hasDictIn K C = true)
  (ha:PySem.W.findIn K (.ref C) name = some none) (hv:mA name = some v) (hv':PySem.W.handedIn v = true) (h:Q v { s with toks:=s.toks + 1 }) :
  wpAny (model prog w) A (getAttr (.ref x) name expr) Q E s:=by
 obtain ⟨od,J,hl⟩:=I.look
 exact PySem.W.get_value X J (PySem.W.plainGet_of hg).1 (PySem.W.findObj_own hh ha rfl (by rw [hl,hv])) hv' h
theorem U8 {pl:Sem Bool} {Q:Value × List Value->Shared->Prop} (X:K.In s.heap) (I:O4 s.heap x dx C mA) (hg:PySem.W.plainGet K C name = true)
  (hf:PySem.W.findIn K (.ref C) name = some (some (.ref f))) (ht:PySem.W.isFn K (.ref f) = true) (hv:mA name = none) (h:Q (.ref f,[.ref x]) s) :
  wpAny (model prog w) A (getMethod (.ref x) name pl) Q E s:=by
 obtain ⟨od,J,hl⟩:=I.look
 exact PySem.W.method_fn X J (PySem.W.plainGet_of hg).1 (PySem.W.plainGet_of hg).2 hf (beq_iff_eq.mp ht) (by show (PySem.W.lookIn name od).map (·.isSome) = some false; rw [hl,hv]; rfl) h
theorem aaC {ns:List Str} {Q:Unit->Shared->Prop} (X:K.In s.heap) (I:O4 s.heap x dx C mA)
  (hs:PySem.W.findIn K (.ref C) "__setattr__" = some (some (.builtin "object.__setattr__"))) (hp:PySem.W.plainOver K C = true) (ht:PySem.W.takerIn K C name = some none) (hh:PySem.W.hasDictIn K C = true)
  (hw:PySem.Within mA ns) (hsz:ns.length <= sizeLine)
  (h:∀ h',O4 h' x dx C (fun y=>if y = name then some v else mA y)->Heap.SameBut dx s.heap h'->Q () { s with heap:=h',toks:=s.toks + 2 }) :
  wpAny (model prog w) A (setAttr (.ref x) name v) Q E s:=by
 obtain ⟨od,J,hl⟩:=I.look
 refine PySem.W.set_plain X J hs (PySem.W.osa_open (s:={ s with toks:=s.toks + 1 }) (r:=none) X J hp ht fun b=>?_)
 obtain ⟨cd,hc,hd'⟩:=PySem.W.any_some hh
 have hx:s.heap.get? x = some ⟨.ref C,some dx,.plain,#[]⟩:=I.obj
 refine wpAny_bind (wpAny_pure (wpAny_bind (wpAny_bind (wpAny_loadPart hx (wpAny_bind (PySem.W.Looks.here (s:={ s with toks:=s.toks + 1 }) (PySem.W.looks_clsIn X hc) ?_))))))
 rw [hd']
 refine wpAny_pure (a:=some dx) (wpAny_bind (wpAny_pure (wpAny_bind ?_)))
 refine wpAny_nsSet1 (s:={ s with toks:=s.toks + 1 }) I.ns fun h' hn2 hs2=>?_
 obtain ⟨oD,esD,epD,hoD,hdD,hcD⟩:=hn2.count (PySem.Within.cons name v hw)
 refine wpAny_bind (wpAny_lookBehind hoD (by rw [hdD]; exact pastItsLine_dict (aN hcD (by rw [List.length_cons]; omega))) ?_)
 exact wpAny_pure (h _ ⟨(hs2.2 _ (Ne.symm I.ne)).trans I.obj,hn2,I.ne⟩ hs2)
theorem VJ {R:Result->Shared->Prop} {vs:List Value} {kw:List (Str × Value)} (X:K.In s.heap) (hm:PySem.W.makesIn K C = true)
  (hi:PySem.W.findIn K (.ref C) "__init__" = some (some (.ref f))) (hf:PySem.W.typeIn K (.ref f) = some (.type "function"))
  (h:codeAny (model prog w) (A.under (.builtin "type.__call__" ⟨.ref C :: vs,kw⟩)) (.call (.ref f) ⟨.ref (s.heap.objs.size + 1) :: vs,kw⟩) (PySem.W.InitBack (s.heap.objs.size + 1) R)
   { s with heap:=(s.heap.push PySem.W.emptyDict).push (PySem.W.instObj C s.heap.objs.size) }) :
  codeAny (model prog w) A (.call (.ref C) ⟨vs,kw⟩) R s:=by
 obtain ⟨hh,g,d,t,os⟩:=s
 exact PySem.W.make_core (PySem.W.makes_of X hm) (PySem.W.looks_findIn X hi) (fun self=>PySem.W.bind_fn X self hf) (.inl rfl) h
end
def lC (f:Str) (v:V):List (Str × V)->List (Str × V)
 | []=>[(f,v)]
 | (g,x) :: r=>if g = f then (g,v) :: r else (g,x) :: lC f v r
theorem zR (f g:Str) (v:V):∀ fs:List (Str × V),(lC f v fs).lookup g = if g = f then some v else fs.lookup g
 | []=>by
  show List.lookup g [(f,v)] = _
  by_cases h:g = f
  .have hb:(g == f) = true:=beq_iff_eq.mpr h
   simp only [List.lookup,hb,if_pos h]
  .have hb:(g == f) = false:=beq_eq_false_iff_ne.mpr h
   simp only [List.lookup,hb,if_neg h]
 | (k,x) :: r=>by
  have ih:=zR f g v r
  rw [show lC f v ((k,x) :: r) = (if k = f then (k,v) :: r else (k,x) :: lC f v r) from rfl]
  by_cases hk:k = f
  .rw [if_pos hk]
   by_cases h:g = k
   .have hb:(g == k) = true:=beq_iff_eq.mpr h
    simp only [List.lookup,hb,if_pos (h.trans hk)]
   .have hb:(g == k) = false:=beq_eq_false_iff_ne.mpr h
    simp only [List.lookup,hb,if_neg (fun e:g = f=>h (e.trans hk.symm))]
  .rw [if_neg hk]
   by_cases h:g = k
   .have hb:(g == k) = true:=beq_iff_eq.mpr h
    simp only [List.lookup,hb,if_neg (fun e:g = f=>hk (h.symm.trans e))]
   .have hb:(g == k) = false:=beq_eq_false_iff_ne.mpr h
    simp only [List.lookup,hb]
    exact ih
theorem yZ (f:Str) (v:V):∀ fs:List (Str × V),f ∈ (lC f v fs).map (·.1)/\∀ g,g ∈ fs.map (·.1)->g ∈ (lC f v fs).map (·.1)
 | []=>⟨by simp [lC],fun g h=>by simp at h⟩
 | (k,x) :: r=>by
  obtain ⟨i1,i2⟩:=yZ f v r
  rw [show lC f v ((k,x) :: r) = (if k = f then (k,v) :: r else (k,x) :: lC f v r) from rfl]
  by_cases hk:k = f
  .rw [if_pos hk]
   subst hk
   exact ⟨by simp,fun g h=>by simpa using h⟩
  .rw [if_neg hk]
   refine ⟨?_,fun g h=>?_⟩
   .rw [List.map_cons]
    exact aJ _ i1
   .rw [List.map_cons] at h ⊢
    rcases List.mem_cons.mp h with e | e
    .exact List.mem_cons.mpr (.inl e)
    .exact aJ _ (i2 g e)
theorem zU (f:Str) (v:V):∀ fs:List (Str × V),(lC f v fs).length <= fs.length + 1
 | []=>by simp [lC]
 | (k,x) :: r=>by
  have ih:=zU f v r
  rw [show lC f v ((k,x) :: r) = (if k = f then (k,v) :: r else (k,x) :: lC f v r) from rfl]
  by_cases hk:k = f
  .rw [if_pos hk,List.length_cons,List.length_cons]; omega
  .rw [if_neg hk,List.length_cons,List.length_cons]; omega
theorem vA.some_of {v:V} {o:Option Value} (r:vA (some v) o):∃ u,o = some u/\RelV v u:=by
 cases o with
 | none=>exact (show False from r).elim
 | some u=>exact ⟨u,rfl,r⟩
theorem vA.none_of {o:Option Value} (r:vA none o):o = none:=by
 cases o with
 | none=>rfl
 | some u=>exact (show False from r).elim
theorem SJ {v:V} {u:Value} (r:RelV v u):PySem.W.handedIn u = true:=by
 cases v with
 | non=>cases (show u = Value.none from r); rfl
 | bl b=>cases (show u = Value.bool b from r); rfl
 | int i=>obtain ⟨t,e⟩:=(show ∃ t,u = Value.int i t from r); cases e; rfl
 | str x=>obtain ⟨t,e⟩:=(show ∃ t,u = Value.str x t from r); cases e; rfl
 | byt b=>obtain ⟨t,e⟩:=(show ∃ t,u = Value.bytes b t from r); cases e; rfl
 | flt b=>obtain ⟨t,e⟩:=(show ∃ t,u = Value.float b t from r); cases e; rfl
 | ref a=>cases (show u = Value.ref a from r); rfl
 | ty n=>cases (show u = Value.type n from r); rfl
section
variable {P:Program} {w:World} {H H':Hp} {h h':Heap} {a C dx:Addr} {fs fs':List (Str × V)}
theorem A_ (hok:HOk P w H h) (e:H a = some (.ins C dx fs)):∃ mA,O4 h a dx C mA/\(∀ f,vA (fs.lookup f) (mA f))/\PySem.Within mA (fs.map (·.1))/\fs.length <= 1000/\H dx = some (.own a):=by
 obtain ⟨d,z,ne,ob,mA,n,r,q⟩:=(show dM P w H h a (.ins C dx fs) from hok a _ e)
 exact ⟨mA,⟨ob,n,ne⟩,r,q,z,d⟩
end
structure Cls (K:Frag) (C:Addr):Prop where
 pg:PySem.W.plainGet K C Str.empty = true
 hd:PySem.W.hasDictIn K C = true
 po:PySem.W.plainOver K C = true
 sa:PySem.W.findIn K (.ref C) "__setattr__" = some (some (.builtin "object.__setattr__"))
theorem Cls.get {K:Frag} {C:Addr} (c:Cls K C) (f:Str):PySem.W.plainGet K C f = true:=c.pg
def cL (K:Frag) (C:Addr) (f:Str):Prop:=PySem.W.findIn K (.ref C) f = some none
theorem cL.taker {K:Frag} {C:Addr} {f:Str} (n:cL K C f):PySem.W.takerIn K C f = some none:=by
 unfold PySem.W.takerIn
 rw [show PySem.W.findIn K (.ref C) f = some none from n]
 rfl
structure Meth (K:Frag) (C:Addr) (m:Str) (f:Addr):Prop where
 at_:PySem.W.findIn K (.ref C) m = some (some (.ref f))
 fn:PySem.W.isFn K (.ref f) = true
 kp:PySem.W.keepIn K (.ref f) = true
section
variable {X:Cx} {pins:List (Addr × Obj)} {σ:St} {H:Hp} {s:Shared} {a C dx:Addr} {fs:List (Str × V)} {f:Str} {v:V} {A:Around} {E:Value->Shared->Prop}
theorem Pr {b:Bool} {Q:Value->Shared->Prop} (I:Inv X pins σ H s) (e:H a = some (.ins C dx fs)) (c:Cls X.K C) (n:cL X.K C f) (l:fs.lookup f = some v)
  (h:∀ u s',Inv X pins σ H s'->RelV v u->Q u s'):wpAny (model X.prog X.w) A (getAttr (.ref a) f b) Q E s:=by
 obtain ⟨mA,O,r,_,_,_⟩:=A_ I.hok e
 obtain ⟨u,hu,ru⟩:=vA.some_of (v:=v) (o:=mA f) (by rw [<- l]; exact r f)
 exact get_map I.kIn O (c.get f) c.hd n hu (SJ ru) (h u _ (I.tok _) ru)
theorem Bp {m:Str} {g:Addr} {pl:Sem Bool} {Q:Value × List Value->Shared->Prop} (I:Inv X pins σ H s) (e:H a = some (.ins C dx fs)) (c:Cls X.K C) (k:Meth X.K C m g) (l:fs.lookup m = none)
  (h:Q (.ref g,[.ref a]) s):wpAny (model X.prog X.w) A (getMethod (.ref a) m pl) Q E s:=by
 obtain ⟨mA,O,r,_,_,_⟩:=A_ I.hok e
 have hn:mA m = none:=vA.none_of (by rw [<- l]; exact r m)
 exact U8 I.kIn O (c.get m) k.at_ k.fn hn h
theorem O_ {y:V} {u:Value} {Q:Unit->Shared->Prop} (I:Inv X pins σ H s) (e:H a = some (.ins C dx fs)) (c:Cls X.K C) (n:cL X.K C f) (hl:fs.length < 1000) (ry:RelV y u)
  (h:∀ s',Inv X pins σ (upd H a (.ins C dx (lC f y fs))) s'->Q () s'):wpAny (model X.prog X.w) A (setAttr (.ref a) f u) Q E s:=by
 obtain ⟨mA,O,r,wi,_,ho⟩:=A_ I.hok e
 have hz:(fs.map (·.1)).length <= sizeLine:=by rw [ao,sizeLine_eq]; omega
 refine aaC I.kIn O c.sa c.po n.taker c.hd wi hz fun h' O' sb=>h _ ?_
 have hd:∃ o,h'.get? dx = some o:=let ⟨o,_,_,e',_⟩:=O'.ns; ⟨o,e'⟩
 refine I.write (x:=a) (e:=dx) (by rw [e]; exact True.intro) (.inr ho) (fun b q hb z=>(sb.2 b hb).trans z) hd ?_
 refine ⟨by rw [bL O.ne]; exact ho,?_,O.ne,O'.obj,_,O'.ns,fun g=>?_,fun g hg=>?_⟩
 .have:=zU f y fs; omega
 .show vA ((lC f y fs).lookup g) (if g = f then some u else mA g)
  rw [zR]
  by_cases q:g = f
  .rw [if_pos q,if_pos q]; exact ry
  .rw [if_neg q,if_neg q]; exact r g
 .by_cases q:g = f
  .rw [q]; exact (yZ f y fs).1
  .refine (yZ f y fs).2 g (wi g fun z=>hg ?_)
   show (if g = f then some u else mA g) = none
   rw [if_neg q]; exact z
theorem Inv.made (I:Inv X pins σ H s):Inv X pins σ (upd (upd H s.heap.objs.size (.own (s.heap.objs.size + 1))) (s.heap.objs.size + 1) (.ins C s.heap.objs.size []))
  { s with heap:=(s.heap.push PySem.W.emptyDict).push (PySem.W.instObj C s.heap.objs.size) }:=by
 have e1:(s.heap.push PySem.W.emptyDict).get? s.heap.objs.size = some PySem.W.emptyDict:=aZ s.heap rfl
 have e2:((s.heap.push PySem.W.emptyDict).push (PySem.W.instObj C s.heap.objs.size)).get? (s.heap.objs.size + 1) = some (PySem.W.instObj C s.heap.objs.size):=by
  have:=aZ (s.heap.push PySem.W.emptyDict) (o:=PySem.W.instObj C s.heap.objs.size) rfl
  rwa [Heap.size_push] at this
 have e3:(s.heap.push PySem.W.emptyDict).Ns s.heap.objs.size (fun _=>none):=⟨PySem.W.emptyDict,#[],_,e1,rfl,(fun e he=>absurd he (by simp)),fun _=>rfl⟩
 have I1:=I.laid (a:=s.heap.objs.size) (o:=.own (s.heap.objs.size + 1)) (h':=s.heap.push PySem.W.emptyDict) (t':=s.toks) (fun b u q=>aH _ q) (aG _) ⟨_,e1⟩
 refine I1.laid (a:=s.heap.objs.size + 1) (o:=.ins C s.heap.objs.size []) (t':=s.toks) (fun b u q=>aH _ q) (Nat.le_of_eq (Heap.size_push _ _)) ?_
 have ne:s.heap.objs.size ≠ s.heap.objs.size + 1:=aU (Nat.lt_succ_self _)
 refine ⟨by rw [bL ne,bK],bA _,ne,e2,fun _=>none,(Heap.Ns1.of_empty e3).at fun o q=>aH _ q,fun _=>True.intro,fun y hy=>absurd rfl hy⟩
theorem aap {prog:Program} {w:World} {env:Env} {e:Expr} {f:Str} {pos:Pos} {s:Shared} {Q:Value->Shared->Prop} (hb:attributeBase e f env (eval e env) = eval e env)
  (h:wpAny (model prog w) A (eval e env) (fun o s₁=>wpAny (model prog w) A (getAttr o f true) Q E s₁) E s):wpAny (model prog w) A (eval (.Attribute e f pos) env) Q E s :=
 Attribute_any_ h (by rw [arm_eval_Attribute,hb])
end
def Uv (K:Frag) (ta:TE) (f:Str):TE:=fun σ H Q=>ta σ H fun x H1=>∃ a C dx fs v,x = .ref a/\H1 a = some (.ins C dx fs)/\Cls K C/\cL K C f/\fs.lookup f = some v/\Q v H1
def Z_ (K:Frag) (ta tv:TE) (f:Str):TS:=fun D σ H=>tv σ H fun y H1=>ta σ H1 fun x H2=>∃ a C dx fs,x = .ref a/\H2 a = some (.ins C dx fs)/\Cls K C/\cL K C f/\fs.length < 1000 /\
 D.nx σ (upd H2 a (.ins C dx (lC f y fs)))
section
variable {X:Cx} {o e value:Expr} {f:Str} {pos pos' tpos:Pos} {ta tv:TE}
theorem qI (he:PE X e ta) (hb:attributeBase e f X.env (eval e X.env) = eval e X.env):PE X (.Attribute e f pos) (Uv X.K ta f):=by
 intro pins s σ H Q I h
 refine aap hb (thn (he pins s σ H _ I h) fun u s1 h=>?_)
 obtain ⟨x,H1,I1,rx,a,C,dx,fs,v,rfl,ea,c,n,l,q⟩:=h
 obtain rfl:u = Value.ref a:=rx
 exact Pr I1 ea c n l fun u' s2 I2 ru=>⟨v,H1,I2,ru,q⟩
theorem sS (ha:PE X o ta) (hv:PE X value tv) (hs:swapsWith value (some (.Attribute o f pos')) pos.line X.env = pure false):PS X (.Assign [.Attribute o f pos'] value pos) (Z_ X.K ta tv f):=by
 intro pins s σ H D I h
 refine plainObj_wpAny_Assign_Attribute (thn (hv pins s σ H _ I h) fun u s1 ⟨y,H1,I1,ry,q⟩=>thn (ha pins s1 σ H1 _ I1 q) fun ov s2 h=>?_) hs
 obtain ⟨x,H2,I2,rx,a,C,dx,fs,rfl,ea,c,n,l,q2⟩:=h
 obtain rfl:ov = Value.ref a:=rx
 exact O_ I2 ea c n l ry fun s3 I3=>⟨σ,_,I3,q2⟩
end
section
variable {X:Cx} {pins:List (Addr × Obj)} {σ:St} {H:Hp} {s:Shared} {A:Around} {E:Value->Shared->Prop} {Q:Value->Shared->Prop} {c:Value} {b:Bool}
inductive zM (K:Frag) (H:Hp):V->Value->Prop where
 | non:zM K H .non (.type "NoneType")
 | bl (x:Bool):zM K H (.bl x) (.type "bool")
 | int (i:Int):zM K H (.int i) (.type "int")
 | str (x:Str):zM K H (.str x) (.type "str")
 | flt (x:UInt64):zM K H (.flt x) (.type "float")
 | lst {a:Addr} {xs:List V} (e:H a = some (.lst xs)):zM K H (.ref a) (.type "list")
 | frz {a:Addr} {o:Obj} {xs:List V} (e:H a = some (.frz o (.lst xs))):zM K H (.ref a) (.type "list")
 | tup {a:Addr} {xs:List V} (e:H a = some (.tup xs)):zM K H (.ref a) (.type "tuple")
 | dK {a:Addr} {kvs:List (Key × V)} (e:H a = some (.dK kvs)):zM K H (.ref a) (.type "dict")
 | ins {a C dx:Addr} {fs:List (Str × V)} (e:H a = some (.ins C dx fs)) (cl:Cls K C) (ha:PySem.W.findIn K (.ref C) "__class__" = some (some (.builtin "object.__class__")))
   (hn:PySem.W.specialIn K (.builtin "object.__class__") "__get__" = some (some (.builtin "getset_descriptor.__get__"))) (htk:PySem.W.takesIn K (.builtin "object.__class__") = some true)
   (hm:PySem.W.mroIn K C (.type "object") = some true):zM K H (.ref a) (.ref C)
theorem RP {x:V} {u t:Value} (I:Inv X pins σ H s) (rx:RelV x u) (ty:zM X.K H x t) (e:PySem.W.kitOne X.K t c = some b) (h:∀ tk,Q (.bool b) { s with toks:=tk }) :
  wpAny (model X.prog X.w) A (call (.builtin "isinstance") [u,c]) Q E s:=by
 cases ty with
 | non=>cases (show u = Value.none from rx); exact PySem.W.kia_one PySem.W.kitx_none I.kIn True.intro e (fun z=>nomatch z) h
 | bl y=>cases (show u = Value.bool y from rx); exact PySem.W.kia_one PySem.W.kitx_bool I.kIn True.intro e (fun z=>nomatch z) h
 | int i=>obtain ⟨t,q⟩:=(show ∃ t,u = Value.int i t from rx); cases q; exact PySem.W.kia_one PySem.W.kitx_int I.kIn True.intro e (fun z=>nomatch z) h
 | str y=>obtain ⟨t,q⟩:=(show ∃ t,u = Value.str y t from rx); cases q; exact PySem.W.kia_one PySem.W.kitx_str I.kIn True.intro e (fun z=>nomatch z) h
 | flt y=>obtain ⟨t,q⟩:=(show ∃ t,u = Value.float y t from rx); cases q; exact PySem.W.kia_one PySem.W.kitx_float I.kIn True.intro e (fun z=>nomatch z) h
 | @lst a xs ea =>
  cases (show u = Value.ref a from rx)
  obtain ⟨_,_,n,_,h1⟩:=(show dM X.prog X.w H s.heap a (.lst xs) from I.hok a _ ea)
  exact PySem.W.kia_one PySem.W.kitx_list I.kIn ⟨_,h1,rfl⟩ e (fun z=>nomatch z) h
 | @frz a ob xs ea =>
  cases (show u = Value.ref a from rx)
  obtain ⟨_,_,_,n,_,h1⟩:=(show dM X.prog X.w H s.heap a (.frz ob (.lst xs)) from I.hok a _ ea)
  exact PySem.W.kia_one PySem.W.kitx_list I.kIn ⟨_,h1,rfl⟩ e (fun z=>nomatch z) h
 | @tup a xs ea =>
  cases (show u = Value.ref a from rx)
  obtain ⟨_,_,_,p⟩:=(show dM X.prog X.w H s.heap a (.tup xs) from I.hok a _ ea)
  obtain ⟨o,h1,h2,_⟩:=p
  exact PySem.W.kia_one PySem.W.kitx_tuple I.kIn ⟨o,h1,h2⟩ e (fun z=>nomatch z) h
 | @dK a kvs ea =>
  cases (show u = Value.ref a from rx)
  obtain ⟨_,_,vs,_,p⟩:=(show dM X.prog X.w H s.heap a (.dK kvs) from I.hok a _ ea)
  obtain ⟨o,es,ep,h1,h2,_⟩:=p
  exact PySem.W.kia_one PySem.W.kitx_dict I.kIn ⟨o,h1,h2.1⟩ e (fun z=>nomatch z) h
 | @ins a C dx fs ea cl ha hn htk hm =>
  cases (show u = Value.ref a from rx)
  obtain ⟨mA,O,_⟩:=A_ I.hok ea
  obtain ⟨od,J,_⟩:=O.look
  exact PySem.W.kia_one (PySem.W.kitx_own (cl.get _) cl.hd ha hn htk hm) I.kIn J e (fun z=>nomatch z) h
end
structure gJ (k:Nat) (A:Around):Prop where
 hd:A.handled = none
 dp:A.depth + 3 * k + 5 < recursionLimit
 un:A.units + 16 * k + 200 < cLine
theorem gJ.mono {j k:Nat} {A:Around} (r:gJ k A) (h:j <= k):gJ j A:=⟨r.hd,by have:=r.dp; omega,by have:=r.un; omega⟩
theorem gJ.deeper {k:Nat} {A:Around} (r:gJ (k + 1) A) (env:Env):gJ k (A.deeper env) :=
 ⟨r.hd,by have:=r.dp; show A.depth + 1 + 3 * k + 5 < _; omega,by have:=r.un; show A.units + 3 + 16 * k + 200 < _; omega⟩
theorem Ny {A:Around} {C:Addr} {us:List Value} {kw:List (Str × Value)} : (A.under (.builtin "type.__call__" ⟨.ref C :: us,kw⟩)).depth = A.depth + 1:=by
 first | rfl | simp [Around.under,Code.weight,Code.isCreation,Code.isGuard,Code.isCaller,Code.frames,Code.isFrame,guardIds]
theorem Nu {A:Around} {C:Addr} {us:List Value} {kw:List (Str × Value)} : (A.under (.builtin "type.__call__" ⟨.ref C :: us,kw⟩)).units = A.units + 1:=by
 first | rfl | simp [Around.under,Code.cUnits,Code.frames,Code.isFrame]
theorem gJ.make {k:Nat} {A:Around} (r:gJ (k + 1) A) (C:Addr) (us:List Value) (kw:List (Str × Value)):gJ k (A.under (.builtin "type.__call__" ⟨.ref C :: us,kw⟩)) :=
 ⟨r.hd,by have:=r.dp; rw [Ny]; omega,by have:=r.un; rw [Nu]; omega⟩
theorem gJ.depth {k:Nat} {A:Around} (r:gJ k A):A.depth < recursionLimit:=by have:=r.dp; omega
theorem gJ.units {k:Nat} {A:Around} (r:gJ k A):A.units + 64 < cLine:=by have:=r.un; omega
def Bq:TA:=fun _ H Q=>Q [] H
def sE (ta:TE) (tr:TA):TA:=fun σ H Q=>ta σ H fun x H1=>tr σ H1 fun xs H2=>Q (x :: xs) H2
section
variable {X:Cx} {e:Expr} {es:List Expr} {te:TE} {t:TA} {pos:Pos}
theorem bH:PA X [] Bq:=fun _ _ _ _ H Q I h=>Calls.spliced_nil ⟨[],H,I,.nil,h⟩
theorem bF (ha:PE X e te) (hr:PA X es t) (hs:starEach (e :: es) X.env = (false,eval e X.env) :: starEach es X.env:=by rfl):PA X (e :: es) (sE te t):=by
 intro pos pins s σ H Q I h
 rw [hs]
 show wpAny _ _ (spliced ((false,eval e X.env) :: backTo pos (starEach es X.env))) _ _ s
 refine Calls.spliced_cons (thn (ha pins s σ H _ I h) fun u s1 ⟨x,H1,I1,r1,q1⟩=>?_)
 exact thn (hr pos pins s1 σ H1 _ I1 q1) fun us s2 ⟨xs,H2,I2,r2,q2⟩=>⟨x :: xs,H2,I2,.cons r1 r2,q2⟩
def ZL (t:TA):TE:=fun σ H Q=>t σ H fun xs H1=>xs.length <= sizeLine/\∀ p,H1 p = none->Q (.ref p) (upd H1 p (.tup xs))
def Xf (t:TA):TE:=fun σ H Q=>t σ H fun xs H1=>xs.length <= sizeLine/\∀ p,H1 p = none->Q (.ref p) (upd H1 p (.lst xs))
theorem j6 {x1} (h:PA X es t):PE X (.Tuple es x1 pos) (ZL t):=by
 intro pins s σ H Q I hq
 refine wpAny_Tuple_spliced (thn (h pos pins s σ H _ I hq) fun us s1 ⟨xs,H1,I1,r,z,q⟩=>⟨by rw [<- r.length]; exact z,?_⟩)
 have hf:H1 s1.heap.objs.size = none:=I1.hok.fresh (aG _)
 refine ⟨.ref s1.heap.objs.size,upd H1 s1.heap.objs.size (.tup xs),I1.laid (t':=s1.toks) (fun b u e=>aH _ e) (aG _) ?_,rfl,q _ hf⟩
 exact ⟨z,us,r,⟨_,aZ _ rfl,rfl,_,rfl⟩⟩
theorem lY (h:PA X es t):PE X (.List es pos) (Xf t):=by
 intro pins s σ H Q I hq
 refine wpAny_List_spliced (thn (h pos pins s σ H _ I hq) fun us s1 ⟨xs,H1,I1,r,z,q⟩=>⟨by rw [<- r.length]; exact z,?_⟩)
 have hf:H1 s1.heap.objs.size = none:=I1.hok.fresh (aG _)
 refine ⟨.ref s1.heap.objs.size,upd H1 s1.heap.objs.size (.lst xs),I1.laid (t':=s1.toks) (fun b u e=>aH _ e) (aG _) ?_,rfl,q _ hf⟩
 exact ⟨z,us,0,r,aZ _ rfl⟩
end
abbrev Sp:=List V->Hp->VK->XK->Prop
abbrev CXT:=List Env->Hp->Shared->XK->Value->Shared->Prop
structure Bm (P:Program) (w:World) (K:Frag) (mg:Str->Option Value) (base:Heap) (A:Around) (outer:List Env) (s:Shared) (H:Hp):Prop where
 frames:A.frames = some outer
 mod:Mod K mg base
 bs:∀ b o,base.get? b = some o->s.heap.get? b = some o/\H b = none
 bsz:base.objs.size <= s.heap.objs.size
 funs:s.heap.FunFrames base outer
 frf:∀ b ∈ frs outer,H b = none
 hok:HOk P w H s.heap
 bare:AllBare s.gens
def CE (outer:List Env) (P:Program) (w:World) (H:Hp) (s:Shared) (Q:VK) (u:Value) (s':Shared):Prop :=
 ∃ v H',s'.os = s.os/\AllBare s'.gens/\Un (frs outer) [] H H' s.heap s'.heap/\HOk P w H' s'.heap/\RelV v u/\Q v H'
def CR (CX:CXT) (outer:List Env) (P:Program) (w:World) (H:Hp) (s:Shared) (Q:VK) (E:XK) (r:Result) (s':Shared):Prop :=
 match r with
 | .ok (.ret u)=>CE outer P w H s Q u s'
 | .ok _=>False
 | .error e=>CX outer H s E e s'
structure cC (P:Program) (w:World) (K:Frag) (mg:Str->Option Value) (base:Heap) (CX:CXT) (k:Nat) (f:Addr) (fd:FuncData) (ps:List Str) (sp:Sp):Prop where
 len:∀ vs H Q E,sp vs H Q E->vs.length = ps.length
 run:∀ (A:Around) (outer:List Env) (s:Shared) (H:Hp) (args:Args) (us:List Value) (vs:List V) (Q:VK) (E:XK),gJ k A->Bm P w K mg base A outer s H->BindsTo s fd args (ps.zip us)->Vals vs us->sp vs H Q E ->
  codeAny (model P w) A (.call (.ref f) args) (CR CX outer P w H s Q E) s
theorem cC.imp {P:Program} {w:World} {K:Frag} {mg:Str->Option Value} {base:Heap} {CX:CXT} {k:Nat} {f:Addr} {fd:FuncData} {ps:List Str} {sp sp':Sp} (F:cC P w K mg base CX k f fd ps sp)
  (h:∀ vs H Q E,sp' vs H Q E->sp vs H Q E):cC P w K mg base CX k f fd ps sp' :=
 ⟨fun vs H Q E q=>F.len vs H Q E (h _ _ _ _ q),fun A outer s H args us vs Q E hr he hb hv hs=>F.run A outer s H args us vs Q E hr he hb hv (h _ _ _ _ hs)⟩
theorem Bm.make {P:Program} {w:World} {K:Frag} {mg:Str->Option Value} {base:Heap} {A:Around} {outer:List Env} {s:Shared} {H:Hp} (e:Bm P w K mg base A outer s H) (C:Addr) (us:List Value) (kw:List (Str × Value)) :
  Bm P w K mg base (A.under (.builtin "type.__call__" ⟨.ref C :: us,kw⟩)) outer s H:=⟨by first | exact e.frames | (simpa [Around.under,Code.envs,Code.isFrame,pushEnvs] using e.frames),e.mod,e.bs,e.bsz,e.funs,e.frf,e.hok,e.bare⟩
section
variable {X:Cx} {pins:List (Addr × Obj)} {σ:St} {H:Hp} {s s':Shared}
theorem Inv.env0 (I:Inv X pins σ H s):Bm X.prog X.w X.K X.mg X.base X.A X.stack s H :=
 ⟨I.ok.frames,I.ok.mod,I.bs,aN I.ok.bsz I.sz,I.stack,I.stkFree,I.hok,I.bare⟩
theorem Inv.after {Q:VK} {u:Value} (I:Inv X pins σ H s) (h:CE X.stack X.prog X.w H s Q u s'):EP X pins σ Q u s':=by
 obtain ⟨v,H',os,bare,un,hok,r,q⟩:=h
 obtain ⟨hh,g,d,t,os'⟩:=s'
 obtain rfl:os' = s.os:=os
 exact ⟨v,H',I.call (h':=hh) (g':=g) (d':=d) (t':=t) (ch:=[]) un hok bare (fun b z=>absurd z (by simp)),r,q⟩
end
def adN (sp:Sp) (dvs:List V) (E:XK) (t:TA):TE:=fun σ H Q=>t σ H fun vs H1=>sp (vs ++ dvs) H1 Q E
def aa3 (C:Addr) (m:Str) (sp:Sp) (dvs:List V) (E:XK) (ta:TE) (t:TA):TE:=fun σ H Q=>ta σ H fun x H1=>∃ a dx fs,x = .ref a/\H1 a = some (.ins C dx fs)/\fs.lookup m = none /\
 t σ H1 fun vs H2=>sp (x :: (vs ++ dvs)) H2 Q E
def Binds (K:Frag) (fd:FuncData) (ps:List Str) (ds:List Value):Prop :=
 ∀ (s:Shared) (us:List Value),K.In s.heap->(us ++ ds).length = ps.length->BindsTo s fd ⟨us,[]⟩ (ps.zip (us ++ ds))
theorem Binds.all {K:Frag} {fd:FuncData} {ps:List Str} (h:∀ us:List Value,us.length = ps.length->bindArgs fd ⟨us,[]⟩ = pure (ps.zip us)):Binds K fd ps []:=fun s us _ hl=>by
 rw [List.append_nil] at hl ⊢
 exact .of_eq (h us hl)
def Passes (CX:CXT) (X:Cx) (E:XK):Prop:=∀ (pins:List (Addr × Obj)) (σ:St) (H:Hp) (s:Shared) (e:Value) (s':Shared),Inv X pins σ H s->CX X.stack H s E e s'->X.xe e s'
section
variable {X:Cx} {CX:CXT} {k:Nat} {f C:Addr} {fd:FuncData} {ps:List Str} {sp:Sp} {dvs:List V} {ds:List Value} {E:XK} {x m:Str} {p pos apos:Pos} {e o:Expr} {es:List Expr} {ta:TE} {t:TA}
theorem G8 {pins:List (Addr × Obj)} {σ:St} {H:Hp} {s:Shared} {Q:VK} {us:List Value} {vs:List V} (F:cC X.prog X.w X.K X.mg X.base CX k f fd ps sp) (hr:gJ k X.A) (hb:Binds X.K fd ps ds) (hd:Vals dvs ds) (hx:Passes CX X E)
  (I:Inv X pins σ H s) (r:Vals vs us) (h:sp (vs ++ dvs) H Q E):wpAny (model X.prog X.w) X.A (call (.ref f) us) (EP X pins σ Q) X.xe s:=by
 have r2:Vals (vs ++ dvs) (us ++ ds):=r.append hd
 have hl:(us ++ ds).length = ps.length:=by rw [<- r2.length]; exact F.len _ _ _ _ h
 refine wpAny_call (codeAny_mono (F.run X.A X.stack s H ⟨us,[]⟩ (us ++ ds) (vs ++ dvs) Q E hr I.env0 (hb s us I.kIn hl) r2 h) fun r s' hq=>?_)
 cases r with
 | error e=>exact hx pins σ H s e s' I hq
 | ok fl =>
  cases fl with
  | ret u=>exact I.after hq
  | next=>exact False.elim hq
  | brk=>exact False.elim hq
  | cont=>exact False.elim hq
theorem YK (F:cC X.prog X.w X.K X.mg X.base CX k f fd ps sp) (hr:gJ k X.A) (hg:Gl X x) (hm:X.mg x = some (.ref f)) (hk:PySem.W.keepIn X.K (.ref f) = true) (hb:Binds X.K fd ps ds) (hd:Vals dvs ds) (hx:Passes CX X E)
  (ha:PA X (e :: es) t) (hdb:(x == ("__debug__" : Str)) = false:=by decide) (he:starEach (e :: es) X.env = (false,eval e X.env) :: starEach es X.env:=by rfl) (hpl:(backTo pos (starEach es X.env)).any (·.1) = false:=by rfl) :
  PE X (.Call (.Name x p) (e :: es) [] pos) (adN sp dvs E t):=by
 intro pins s σ H Q I h
 refine wpAny_Call_Name_kw (pC I hg hm ?_ hdb)
 refine PySem.W.callWith_K (h₀:=X.base) I.ok.mod.kin hk (thn (ha pos pins s σ H _ I h) fun us s1 ⟨vs,H1,I1,r,q⟩=>⟨I1.kIn,?_⟩) he hpl
 exact G8 F hr hb hd hx I1 r q
theorem aak {pl:Sem Bool} (he:PE X o ta) (c:Cls X.K C) (hm:Meth X.K C m f) (F:cC X.prog X.w X.K X.mg X.base CX k f fd ps sp) (hr:gJ k X.A) (hb:Binds X.K fd ps ds) (hd:Vals dvs ds) (hx:Passes CX X E) (ha:PA X (e :: es) t)
  (hst:starEach (e :: es) X.env = (false,eval e X.env) :: starEach es X.env:=by rfl) (hpl:(backTo pos (starEach es X.env)).any (·.1) = false:=by rfl)
  (ht:eval (.Call (.Attribute o m apos) (e :: es) [] pos) X.env = (do
   let ov <- eval o X.env
   standAt apos.atName
   let (f,first) <- holding [ov] (getMethod ov m pl)
   callWith pos f first (backTo pos (starEach (e :: es) X.env)) (backToKw pos (keywordEach [] X.env))):=by rfl) :
  PE X (.Call (.Attribute o m apos) (e :: es) [] pos) (aa3 C m sp dvs E ta t):=by
 intro pins s σ H Q I h
 refine PySem.W.methodCall_KW (pl:=pl) (thn (he pins s σ H _ I h) fun u s1 ⟨x,H1,I1,rx,a,dx,fs,ex,ea,l,q⟩=>?_) ht
 subst ex
 obtain rfl:u = Value.ref a:=rx
 refine Bp I1 ea c hm l ?_
 refine PySem.W.callWith_K (first:=[.ref a]) (h₀:=X.base) I.ok.mod.kin hm.kp (thn (ha pos pins s1 σ H1 _ I1 q) fun us s2 ⟨vs,H2,I2,r,q2⟩=>⟨I2.kIn,?_⟩) hst hpl
 exact G8 (us:=.ref a :: us) (vs:=.ref a :: vs) F hr hb hd hx I2 (.cons rfl r) q2
theorem Vb {pl:Sem Bool} (he:PE X o ta) (c:Cls X.K C) (hm:Meth X.K C m f) (F:cC X.prog X.w X.K X.mg X.base CX k f fd ps sp) (hr:gJ k X.A) (hb:Binds X.K fd ps ds) (hd:Vals dvs ds) (hx:Passes CX X E)
  (ht:eval (.Call (.Attribute o m apos) [] [] pos) X.env = (do
   let ov <- eval o X.env
   standAt apos.atName
   let (f,first) <- holding [ov] (getMethod ov m pl)
   callWith pos f first (backTo pos (starEach [] X.env)) (backToKw pos (keywordEach [] X.env))):=by rfl) :
  PE X (.Call (.Attribute o m apos) [] [] pos) (aa3 C m sp dvs E ta Bq):=by
 intro pins s σ H Q I h
 refine PySem.W.methodCall_KW (pl:=pl) (thn (he pins s σ H _ I h) fun u s1 ⟨x,H1,I1,rx,a,dx,fs,ex,ea,l,q⟩=>?_) ht
 subst ex
 obtain rfl:u = Value.ref a:=rx
 refine Bp I1 ea c hm l ?_
 exact PySem.W.callWith_K0 (first:=[.ref a]) I1.kIn hm.kp (G8 (us:=[.ref a]) (vs:=[.ref a]) F hr hb hd hx I1 (.cons rfl .nil) q)
structure Mk (K:Frag) (C f:Addr):Prop where
 makes:PySem.W.makesIn K C = true
 init:PySem.W.findIn K (.ref C) "__init__" = some (some (.ref f))
 fn:PySem.W.isFn K (.ref f) = true
 kp:PySem.W.keepIn K (.ref C) = true
end
structure bZ (N P:List Str) (sc:Scope):Prop where
 kind:sc.kind = .function
 co:sc.isCoroutine = false
 gen:sc.isGenerator = false
 nd:N.Nodup
 pre:N.take P.length = P
 par:∀ x ∈ P,sc.names.lookup x = some .local\/sc.names.lookup x = some .cell
 nofree:∀ y ∈ sc.names,y.2 ≠ .free
theorem GQ {kindOf:Str->Option NameKind} {x:Str} : ∀ {binds:List (Str × Value)} {m:Str->Option Value},(∀ v,(x,v) ∉ binds)->bindL kindOf binds m x = m x
 | [],_,_=>rfl
 | (n,v) :: r,m,h=>by
  unfold bindL
  rw [GQ fun w hw=>h w (aJ _ hw)]
  split
  .have:x ≠ n:=by rintro rfl; exact h v aP
   simp [this]
  .rfl
theorem GJ {kindOf:Str->Option NameKind} {x:Str} : ∀ {binds:List (Str × Value)} {m:Str->Option Value},(∀ v,(x,v) ∉ binds)->bindC kindOf binds m x = m x
 | [],_,_=>rfl
 | (n,v) :: r,m,h=>by
  unfold bindC
  rw [GJ fun w hw=>h w (aJ _ hw)]
  split
  .rfl
  .have:x ≠ n:=by rintro rfl; exact h v aP
   simp [this]
theorem GD {kindOf:Str->Option NameKind} {x:Str} {v:Value} : ∀ {P:List Str} {vs:List Value} {i:Nat} {m:Str->Option Value},P.Nodup->P[i]? = some x->vs[i]? = some v->kindOf x = some .local ->
  bindL kindOf (P.zip vs) m x = some v
 | [],_,_,_,_,h,_,_=>by simp at h
 | _ :: _,[],_,_,_,_,h,_=>by simp at h
 | p :: P,w :: vs,0,m,nd,h1,h2,hk=>by
  simp at h1 h2; subst h1; subst h2
  show bindL kindOf ((p,w) :: P.zip vs) m p = _
  unfold bindL
  rw [GQ fun v hv=>(List.nodup_cons.mp nd).1 (List.of_mem_zip hv).1,if_pos hk]
  simp
 | p :: P,w :: vs,i + 1,m,nd,h1,h2,hk=>by
  show bindL kindOf ((p,w) :: P.zip vs) m x = _
  unfold bindL
  exact GD (i:=i) (List.nodup_cons.mp nd).2 (by simpa using h1) (by simpa using h2) hk
theorem Gz {kindOf:Str->Option NameKind} {x:Str} {v:Value} : ∀ {P:List Str} {vs:List Value} {i:Nat} {m:Str->Option Value},P.Nodup->P[i]? = some x->vs[i]? = some v->kindOf x ≠ some .local ->
  bindC kindOf (P.zip vs) m x = some v
 | [],_,_,_,_,h,_,_=>by simp at h
 | _ :: _,[],_,_,_,_,h,_=>by simp at h
 | p :: P,w :: vs,0,m,nd,h1,h2,hk=>by
  simp at h1 h2; subst h1; subst h2
  show bindC kindOf ((p,w) :: P.zip vs) m p = _
  unfold bindC
  rw [GJ fun v hv=>(List.nodup_cons.mp nd).1 (List.of_mem_zip hv).1,if_neg hk]
  simp
 | p :: P,w :: vs,i + 1,m,nd,h1,h2,hk=>by
  show bindC kindOf ((p,w) :: P.zip vs) m x = _
  unfold bindC
  exact Gz (i:=i) (List.nodup_cons.mp nd).2 (by simpa using h1) (by simpa using h2) hk
def start (N:List Str) (vs:List V):St:=vs.map some ++ List.replicate (N.length - vs.length) none
def Dd (CX:CXT) (P:Program) (w:World) (K:Frag) (mg:Str->Option Value) (base:Heap) (N:List Str) (qual:Str) (scope:Scope) (f:Addr) (cd:Value) (A:Around) (outer:List Env) (s:Shared) (H:Hp) (E:XK):Cx where
 prog:=P
 w:=w
 K:=K
 mg:=mg
 base:=base
 A:=A.deeper (envOfC qual scope s.heap.objs.size f cd)
 N:=N
 s₀:=s
 H₀:=H
 env:=envOfC qual scope s.heap.objs.size f cd
 outer:=outer
 stack:=envOfC qual scope s.heap.objs.size f cd :: outer
 ex:=[]
 calm:=true
 fn:=fun _=>true
 pn:=[]
 xe:=fun e s'=>wpAny (model P w) (A.deeper (envOfC qual scope s.heap.objs.size f cd)) (leaving (envOfC qual scope s.heap.objs.size f cd) e) (fun _ s''=>CX outer H s E e s'') (fun e' s''=>CX outer H s E e' s'') s'
theorem Ky {sc:Scope} {n:Nat} {x:Str} (h:sc.names.lookup x = some .cell):∃ c,(cellsFrom n sc.names []).lookup x = some c:=by
 have q:=PySem.W.cellsFrom_some sc.names n [] (.inl h)
 exact Option.isSome_iff_exists.mp q
theorem R3 {CX:CXT} {P:Program} {w:World} {K:Frag} {mg:Str->Option Value} {base:Heap} {N ps:List Str} {qual:Str} {scope:Scope} {f:Addr} {cd:Value} {A:Around} {outer:List Env} {s s1:Shared} {H:Hp} {E:XK} {us:List Value} {vs:List V}
  (S:bZ N ps scope) (hd:A.handled = none) (e0:Bm P w K mg base A outer s H) (hl:vs.length = ps.length) (r:Vals vs us)
  (x:InCallC s s.heap.objs.size (bindL (envOfC qual scope s.heap.objs.size f cd).kindOf (ps.zip us) fun _=>none) (cellsFrom (s.heap.objs.size + 1) scope.names []) (bindC (envOfC qual scope s.heap.objs.size f cd).kindOf (ps.zip us) fun _=>none) s1) :
  Inv (Dd CX P w K mg base N qual scope f cd A outer s H E) [] (start N vs) H s1:=by
 have hpl:ps.length <= N.length:=by have:=congrArg List.length S.pre; rw [bw] at this; omega
 obtain ⟨h1,tk,rfl,hk⟩:=x.done
 have noA:∀ b:Addr,b ∉ (Dd CX P w K mg base N qual scope f cd A outer s H E).ex:=fun b z=>absurd (show b ∈ ([] : List Addr) from z) (by simp)
 refine ⟨⟨e0.mod,S.kind,rfl,rfl,aG _,fun y z c h1 h2=>?_,fun y hy=>?_,fun y c _ h=>?_,fun _=>hd,Around.frames_deeper e0.frames,.inr ⟨rfl,rfl⟩,fun b z=>absurd z (noA b),e0.bs,e0.bsz,fun b _ _=>noA b,fun b z=>absurd z (noA b),e0.funs,e0.frf⟩,
  rfl,e0.bare,Un.kept hk,⟨_,x.toInCall.ns,fun i y v h1 h2 h3=>?_⟩,fun y c h=>⟨_,x.cell y c h⟩,e0.hok.fresh (aG _),fun y c h=>?_,fun p hp=>absurd (show p ∈ ([] : List (Addr × Obj)) from hp) (by simp),e0.hok.kept hk,?_⟩
 .exact name_of_addr x.apart (PySem.mem_of_lookup h1) (PySem.mem_of_lookup h2)
 .have hy:scope.names.lookup y = some .cell\/scope.names.lookup y = some .free:=hy
  rcases hy with hy | hy
  .exact Ky hy
  .exact absurd rfl (S.nofree _ (PySem.mem_of_lookup hy))
 .exact Nat.le_of_lt (x.above y c (PySem.mem_of_lookup h))
 .have hi:i < vs.length:=by
   unfold start at h2
   by_cases hi:i < vs.length
   .exact hi
   .rw [aD (by simpa using hi)] at h2
    rw [List.getElem?_replicate] at h2
    split at h2 <;> cases h2
  have ha:vs[i]? = some v:=by
   unfold start at h2
   rw [aF (by simpa using hi),au] at h2
   cases e:vs[i]? with
   | none=>rw [e] at h2; cases h2
   | some a=>rw [e] at h2; cases h2; rfl
  obtain ⟨u,hu,rv⟩:=r.get ha
  have hp:ps[i]? = some y:=by
   rw [<- S.pre,List.getElem?_take_of_lt (by omega)]; exact h1
  have ndP:ps.Nodup:=by rw [<- S.pre]; exact S.nd.sublist (List.take_sublist _ _)
  refine ⟨u,rv,?_⟩
  rcases S.par y (aC hp) with k | k
  .exact .inl ⟨k,GD ndP hp hu k⟩
  .obtain ⟨c,e⟩:=Ky (n:=s.heap.objs.size + 1) k
   refine .inr ⟨.inl k,c,e,?_⟩
   have q:=x.cell y c e
   rw [Gz ndP hp hu (by show scope.names.lookup y ≠ _; rw [k]; decide)] at q
   exact q
 .exact e0.hok.fresh (Nat.le_of_lt (x.above y c (PySem.mem_of_lookup h)))
 .unfold start
  show _ = N.length
  rw [aB,ao,aO]
  omega
theorem WM {CX:CXT} {P:Program} {w:World} {K:Frag} {mg:Str->Option Value} {base:Heap} {k:Nat} {f:Addr} {name qual:Str} {params:Arguments} {body:List Stmt} {scope:Scope} {dV kV doc pm cdv ct oc:Value} {an od:Option Addr}
  {osl:Array (Option Value)} {N ps:List Str} {sp:Sp} (lk:K.lookup f = some ⟨oc,od,.func (PySem.W.fnOf name qual params body scope dV kV doc pm an cdv ct),osl⟩) (hcd:PySem.W.codeIn K cdv qual = true) (S:bZ N ps scope)
  (len:∀ vs H Q E,sp vs H Q E->vs.length = ps.length)
  (hbody:∀ (A:Around) (outer:List Env) (s:Shared) (H:Hp) (vs:List V) (Q:VK) (E:XK),gJ k (A.deeper (envOfC qual scope s.heap.objs.size f cdv))->sp vs H Q E ->
   ∃ t,PSs (Dd CX P w K mg base N qual scope f cdv A outer s H E) body t/\t { nx:=fun _ H'=>Q .non H',rt:=Q } (start N vs) H) :
  cC P w K mg base CX (k + 1) f (PySem.W.fnOf name qual params body scope dV kV doc pm an cdv ct) ps sp:=by
 refine ⟨len,fun A outer s H args us vs Q E hr e0 hb r hsp=>?_⟩
 have hl:=len _ _ _ _ hsp
 have KX:K.In s.heap:=e0.mod.kin.keeps fun b o e=>(e0.bs b o e).1
 have lim:s.heap.NoLimit:=e0.mod.nolimit.keeps fun b o e=>(e0.bs b o e).1
 have hkind:∀ y ∈ ps.zip us,scope.names.lookup y.1 = some .local\/(scope.names.lookup y.1 = some .cell/\((cellsFrom (s.heap.objs.size + 1) scope.names []).lookup y.1).isSome = true):=fun ⟨n,v⟩ hy=>by
  rcases S.par n (List.of_mem_zip hy).1 with q | q
  .exact .inl q
  .exact .inr ⟨q,PySem.W.cellsFrom_some _ _ _ (.inl q)⟩
 refine codeAny_call_function hr.depth (KX _ _ lk) rfl S.co S.gen rfl (PySem.W.codeRec_of KX hcd) (hb _ _ _ _ ?_)
 refine wpAny_newFunctionEnv_cells S.kind hkind fun env he s1 x=>?_
 subst he
 refine ⟨lim.keeps x.toInCall.keep,codeAny_func ?_⟩
 obtain ⟨t,ht,hq⟩:=hbody A outer s H vs Q E (hr.deeper _) hsp
 have I:Inv (Dd CX P w K mg base N qual scope f cdv A outer s H E) [] (start N vs) H s1:=R3 S hr.hd e0 hl r x
 refine wpAny_mono (ht [] s1 (start N vs) H _ I hq) (fun fl s' hs=>?_) fun e s' hs=>hs
 have fin:∀ {σ':St} {H':Hp} {v:V} {u:Value},Inv (Dd CX P w K mg base N qual scope f cdv A outer s H E) [] σ' H' s'->RelV v u->Q v H'->CE outer P w H s Q u s' :=
  fun {σ' H' v u} J rv q=>⟨v,H',J.os,J.bare,J.base,J.hok,rv,q⟩
 cases fl with
 | ret u =>
  obtain ⟨v,σ',H',J,rv,q⟩:=hs
  exact fin J rv q
 | next =>
  obtain ⟨σ',H',J,q⟩:=hs
  exact fin (v:=V.non) (u:=Value.none) J rfl q
 | brk =>
  obtain ⟨_,_,_,q⟩:=hs
  exact False.elim q
 | cont =>
  obtain ⟨_,_,_,q⟩:=hs
  exact False.elim q
section
variable {X:Cx} {x:Str} {p pos:Pos} {e:Expr} {es:List Expr} {t:TA} {id T:String} {r:List V->Hp->VK->Prop}
def tCB (r:List V->Hp->VK->Prop) (t:TA):TE:=fun σ H Q=>t σ H fun vs H1=>r vs H1 Q
theorem b_ (hc:gj X (.builtin id) r) (hg:Gl X x) (hm:X.mg x = none) (hv:bootBuiltins x = some (.builtin id)) (ha:PA X (e :: es) t) (hn:x ≠ "__name__" := by decide) (hdb:(x == ("__debug__" : Str)) = false:=by decide)
  (he:starEach (e :: es) X.env = (false,eval e X.env) :: starEach es X.env:=by rfl) (hpl:(backTo pos (starEach es X.env)).any (·.1) = false:=by rfl):PE X (.Call (.Name x p) (e :: es) [] pos) (tCB r t):=by
 intro pins s σ H Q I h
 refine wpAny_Call_Name_kw (Br I hg hm hv ?_ hn hdb)
 exact PyProof.Rows.callWith_builtin1 (thn (ha pos pins s σ H _ I h) fun us s1 ⟨vs,H1,I1,r1,q1⟩=>hc pins s1 σ H1 vs us Q I1 r1 q1) he hpl
theorem oG (hc:gj X (.type T) r) (hg:Gl X x) (hm:X.mg x = none) (hv:bootBuiltins x = some (.type T)) (ha:PA X (e :: es) t) (hn:x ≠ "__name__" := by decide) (hdb:(x == ("__debug__" : Str)) = false:=by decide)
  (he:starEach (e :: es) X.env = (false,eval e X.env) :: starEach es X.env:=by rfl) (hpl:(backTo pos (starEach es X.env)).any (·.1) = false:=by rfl):PE X (.Call (.Name x p) (e :: es) [] pos) (tCB r t):=by
 intro pins s σ H Q I h
 refine wpAny_Call_Name_kw (Br I hg hm hv ?_ hn hdb)
 exact PyProof.Rows.callWith_type1 (thn (ha pos pins s σ H _ I h) fun us s1 ⟨vs,H1,I1,r1,q1⟩=>hc pins s1 σ H1 vs us Q I1 r1 q1) he hpl
end
end L2
namespace HT
open PySem PyProof.Rows
section
variable {prog:Program} {w:World} {A:Around} {E:Value->Shared->Prop} {s:Shared}
def sIx (n d:Nat):Option Int->Nat
 | none=>d
 | some v=>if v < 0 then (v + (n:Int)).toNat else min v.toNat n
theorem qZ (n d k:Nat):sIx n d (some (k:Int)) = min k n:=by
 show (if (k:Int) < 0 then ((k:Int) + (n:Int)).toNat else min (k:Int).toNat n) = min k n
 rw [if_neg (by omega),Int.toNat_natCast]
theorem acj (n d:Nat) (hd:d <= n) (o:Option Int):sIx n d o <= n:=by
 cases o with
 | none=>exact hd
 | some v =>
  show (if v < 0 then (v + (n:Int)).toNat else min v.toNat n) <= n
  by_cases hv:v < 0
  .rw [if_pos hv]; omega
  .rw [if_neg hv]; exact Nat.min_le_right _ _
end
end HT
namespace L2
open PySem PySem.Spec PyProof.Rows
abbrev TO:=St->Hp->(Option Int->Hp->Prop)->Prop
def PO (X:Cx) (e:Option Expr) (t:TO):Prop :=
 ∀ (pins:List (Addr × Obj)) (s:Shared) (σ:St) (H:Hp) (Q:Option Int->Hp->Prop),Inv X pins σ H s->t σ H Q ->
  wpAny (model X.prog X.w) X.A (evalPart e X.env) (fun u s'=>∃ o H',Inv X pins σ H' s'/\IsPart u o/\Q o H') X.xe s
def Ax:TO:=fun _ H Q=>Q none H
def Rr (t:TE):TO:=fun σ H Q=>t σ H fun x H1=>∃ i,x = .int i/\Q (some i) H1
theorem intsAre_of {ns:List Int} : ∀ {us:List Value},Vals (ns.map V.int) us->IntsAre us ns:=by
 induction ns with
 | nil=>intro us r; rw [List.map_nil] at r; cases r; exact .nil
 | cons n ns ih =>
  intro us r
  rw [List.map_cons] at r
  cases r with
  | cons r1 r2 =>
   obtain ⟨t,e⟩:=r1
   subst e
   exact .cons n t (ih r2)
section
variable {X:Cx} {e:Expr} {te:TE} {lo hi:Option Expr} {tl th:TO} {pos p2:Pos}
theorem Ka:PO X none Ax:=by
 intro pins s σ H Q I h
 rw [evalPart_none]
 exact wpAny_pure ⟨none,H,I,.none,h⟩
theorem jB (h:PE X e te):PO X (some e) (Rr te):=by
 intro pins s σ H Q I hw
 rw [evalPart_some]
 refine thn (h pins s σ H _ I hw) fun u s1 ⟨x,H1,I1,r1,q1⟩=>?_
 obtain ⟨i,rfl,q⟩:=q1
 obtain ⟨t,rfl⟩:=r1
 exact ⟨some i,H1,I1,.int i t,q⟩
def SlR (X:Cx) (r:V->Option Int->Option Int->Hp->VK->Prop):Prop :=
 ∀ (pins:List (Addr × Obj)) (s:Shared) (σ:St) (H:Hp) (x:V) (v vl vu:Value) (lo hi:Option Int) (sl:Addr) (Q:VK),Inv X pins σ H s->RelV x v->s.heap.IsSliceOf sl vl vu .none->IsPart vl lo->IsPart vu hi->r x lo hi H Q ->
  ∃ T id,typeLookup (.type T) "__getitem__" = pure (some (.builtin id))/\s.TypeIs v T/\wpAny (model X.prog X.w) X.A (getItem v (.ref sl)) (EP X pins σ Q) X.xe s
def tSl (r:V->Option Int->Option Int->Hp->VK->Prop) (te:TE) (tl th:TO):TE:=fun σ H Q=>te σ H fun x H1=>tl σ H1 fun l H2=>th σ H2 fun u H3=>r x l u H3 Q
theorem nj {r:V->Option Int->Option Int->Hp->VK->Prop} (hr:SlR X r) (he:PE X e te) (hl:PO X lo tl) (hu:PO X hi th):PE X (.Subscript e (.Slice lo hi none p2) pos) (tSl r te tl th):=by
 intro pins s σ H Q I h
 refine Subscript_ (thn (he pins s σ H _ I h) fun v s1 ⟨x,H1,I1,r1,q1⟩=>?_)
 refine wpAny_Slice (thn (hl pins s1 σ H1 _ I1 q1) fun vl s2 ⟨l,H2,I2,pl,q2⟩=>thn (hu pins s2 σ H2 _ I2 q2) fun vu s3 ⟨u,H3,I3,pu,q3⟩=>?_)
 rw [evalPart_none]
 refine wpAny_pure ?_
 have I4:Inv X pins σ H3 { s3 with heap:=s3.heap.push { cls:=.type "slice",data:=.fields #[vl,vu,.none] } }:=I3.kept (t':=s3.toks) fun b ob q=>aH _ q
 obtain ⟨T,id,hT,ht,hg⟩:=hr pins { s3 with heap:=s3.heap.push { cls:=.type "slice",data:=.fields #[vl,vu,.none] } } σ H3 x v vl vu l u s3.heap.objs.size Q I4 r1 (Heap.IsSliceOf.new ..) pl pu q3
 show wpAny (model X.prog X.w) X.A (subscriptTail e (.Slice lo hi none p2) v (.ref s3.heap.objs.size)) (EP X pins σ Q) X.xe { s3 with heap:=s3.heap.push { cls:=.type "slice",data:=.fields #[vl,vu,.none] } }
 exact tail_any (ops:=[.ref s3.heap.objs.size,v]) ht hT hg (by with_unfolding_all rfl)
def pA (xs:List V) (lo hi:Option Int):List V:=(xs.drop (HT.sIx xs.length 0 lo)).take (HT.sIx xs.length xs.length hi - HT.sIx xs.length 0 lo)
theorem zV (xs:List V) (lo hi:Option Int):(pA xs lo hi).length <= xs.length:=by
 unfold pA
 rw [bw,List.length_drop]
 omega
end
def ixN (n:Nat) (i:Int):Option Nat:=if 0 <= i then (if i < n then some i.toNat else none) else if -(n:Int) <= i then some (i + n).toNat else none
def atI {α:Type} (xs:List α) (i:Int):Option α:=(ixN xs.length i).bind fun j=>xs[j]?
theorem Rk {n:Nat} {i:Int} {j:Nat} (h:ixN n i = some j):seqIndex? i n = some j/\j < n/\-(n:Int) <= i/\i < n:=by
 unfold ixN at h
 by_cases h0:0 <= i
 .rw [if_pos h0] at h
  by_cases h1:i < n
  .rw [if_pos h1] at h
   have e:i.toNat = j:=Option.some.inj h
   exact ⟨by rw [seqIndex_of h0 h1,e],by omega,by omega,h1⟩
  .rw [if_neg h1] at h; cases h
 .rw [if_neg h0] at h
  by_cases h1 : -(n:Int) <= i
  .rw [if_pos h1] at h
   have e:(i + n).toNat = j:=Option.some.inj h
   exact ⟨by rw [seqIndex_neg (by omega) h1,e],by omega,h1,by omega⟩
  .rw [if_neg h1] at h; cases h
theorem G_ {α:Type} {xs:List α} {i:Int} {v:α} (h:atI xs i = some v):∃ j,seqIndex? i xs.length = some j/\xs[j]? = some v/\j < xs.length/\-(xs.length:Int) <= i/\i < xs.length:=by
 unfold atI at h
 cases e:ixN xs.length i with
 | none=>rw [e] at h; cases h
 | some j =>
  rw [e] at h
  obtain ⟨h1,h2,h3,h4⟩:=Rk e
  exact ⟨j,h1,h,h2,h3,h4⟩
theorem cg {α:Type} {xs:List α} {j:Nat} {v:α} (h:xs[j]? = some v):atI xs (j:Int) = some v:=by
 have hj:j < xs.length:=(aq.mp h).1
 have e:ixN xs.length (j:Int) = some j:=by
  unfold ixN
  rw [if_pos (by omega),if_pos (by omega)]; simp
 unfold atI; rw [e]; exact h
theorem M_ {α:Type} (xs:List α) (v:α):atI (xs ++ [v]) (-1) = some v:=by
 have hl:(xs ++ [v]).length = xs.length + 1:=by simp
 have e:ixN (xs ++ [v]).length (-1) = some xs.length:=by
  unfold ixN
  rw [hl,if_neg (by decide),if_pos (by omega)]
  congr 1
  omega
 unfold atI
 rw [e]
 show (xs ++ [v])[xs.length]? = some v
 simp
def Qt (b:Expr):Prop:=∀ o i,subscripted b false o i = operate [o,i] (getItem o i)
def IxR (X:Cx) (r:R2):Prop :=
 ∀ (value slice:Expr) (pins:List (Addr × Obj)) (s:Shared) (σ:St) (H:Hp) (x y:V) (v u:Value) (Q:VK),Inv X pins σ H s->RelV x v->RelV y u->r x y H Q ->
  subscripted slice false v u = operate [v,u] (getItem v u)->wpAny (model X.prog X.w) X.A (subscriptTail value slice v u) (EP X pins σ Q) X.xe s
def MtR (X:Cx) (id:String) (r:V->List V->Hp->VK->Prop):Prop :=
 ∀ (pins:List (Addr × Obj)) (s:Shared) (σ:St) (H:Hp) (x:V) (xs:List V) (v:Value) (us:List Value) (Q:VK),Inv X pins σ H s->RelV x v->Vals xs us->r x xs H Q ->
  wpAny (model X.prog X.w) X.A (call (.builtin id) (v :: us)) (EP X pins σ Q) X.xe s
section
variable {X:Cx} {a b:Expr} {ta tb:TE} {pos:Pos}
theorem bV {r:R2} (hr:IxR X r) (ha:PE X a ta) (hb:PE X b tb) (hs:Qt b):PE X (.Subscript a b pos) (tOp r ta tb):=by
 intro pins s σ H Q I h
 exact Subscript_ (ab3 ha hb I h fun v u s2 x y H2 I2 rx ry q=>hr a b pins s2 σ H2 x y v u Q I2 rx ry q (hs _ _))
def aaN (K:Frag):R2:=fun x y H Q=>∃ p xs i v,x = .ref p/\y = .int i/\SqL K H p xs/\atI xs i = some v/\Q v H
def Mr (K:Frag):R2:=fun x y H Q=>∃ p xs i v,x = .ref p/\y = .int i/\SqT K H p xs/\atI xs i = some v/\Q v H
def ZM:R2:=fun x y H Q=>∃ z i c,x = .str z/\y = .int i/\z.length <= sizeLine/\atI z.cps.toList i = some c/\Q (.str ⟨#[c]⟩) H
theorem aaz:IxR X (aaN X.K):=by
 intro value slice pins s σ H x y v u Q I rx ry h hs
 obtain ⟨p,xs,i,z,rfl,rfl,hq,he,q⟩:=h
 cases rx
 obtain ⟨t,rfl⟩:=ry
 obtain ⟨its,r,pl,hz⟩:=I.list hq
 obtain ⟨j,h1,h2,h3,h4,h5⟩:=G_ he
 obtain ⟨w,ew,rw'⟩:=r.get h2
 have hl:=r.length
 have hn:=uD
 have fin:EP X pins σ Q w s:=⟨z,H,I,rw',q⟩
 by_cases h0:0 <= i
 .have hj:i.toNat = j:=by
   rw [seqIndex_of h0 h5] at h1
   exact Option.some.inj h1
  exact item_listR pl.isList h0 (by omega) (by rw [hj]; simpa using ew) fin hs
 .have hj:(i + (its.toArray.size:Int)).toNat = j:=by
   rw [seqIndex_neg (by omega) h4] at h1
   rw [bh,<- hl]
   exact Option.some.inj h1
  exact subscriptTail_builtinR (x:=w) pl.isList.typeIs slot_list_getitem.lookup
   (wpAny_getItem_list_neg (Q:=fun r s'=>r = w/\EP X pins σ Q r s') pl.isList (by omega) (by rw [bh] <;> omega) (by omega) (by rw [hj]; simpa using ew) ⟨rfl,fin⟩) hs
theorem cJ:IxR X (Mr X.K):=by
 intro value slice pins s σ H x y v u Q I rx ry h hs
 obtain ⟨p,xs,i,z,rfl,rfl,hq,he,q⟩:=h
 cases rx
 obtain ⟨t,rfl⟩:=ry
 obtain ⟨its,r,pl,hz⟩:=I.tuple hq
 obtain ⟨j,h1,h2,h3,h4,h5⟩:=G_ he
 obtain ⟨w,ew,rw'⟩:=r.get h2
 have hl:=r.length
 have hn:=uD
 have fin:EP X pins σ Q w s:=⟨z,H,I,rw',q⟩
 exact subscriptTail_builtinR (x:=w) pl.typeIs slot_tuple_getitem.lookup
  (getItem_tuple (j:=j) (Q:=fun r s'=>r = w/\EP X pins σ Q r s') pl (by omega) (by omega) (by rw [bh,<- hl]; exact h1) (by simpa using ew) ⟨rfl,fin⟩) hs
theorem PK:IxR X ZM:=by
 intro value slice pins s σ H x y v u Q I rx ry h hs
 obtain ⟨z,i,c,rfl,rfl,hz,he,q⟩:=h
 obtain ⟨t,rfl⟩:=rx
 obtain ⟨t',rfl⟩:=ry
 obtain ⟨j,h1,h2,h3,h4,h5⟩:=G_ he
 have hl:z.cps.toList.length = z.length:=by simp [Str.length]
 rw [hl] at h1 h4 h5
 have hn:=uD
 exact tail_any (typeIs_str s z t) slot_str_getitem.lookup (getItem_str (c:=c) (by
  have e1:decide (i < -(2 ^ 63:Int)) = false:=decide_eq_false (by omega)
  have e2:decide (i >= 2 ^ 63) = false:=decide_eq_false (by omega)
  rw [e1,e2,Bool.or_false]) (by rw [h1]; simpa using h2) ⟨.str ⟨#[c]⟩,H,I.tok _,⟨_,rfl⟩,q⟩) hs
theorem Nz (its:List Value) (n j:Nat) (u:Value):Obj.mapSeq (·.setIfInBounds j u) { cls:=.type "list",data:=.seq its.toArray n } = { cls:=.type "list",data:=.seq (its.set j u).toArray n }:=by
 simp [Obj.mapSeq]
theorem Inv.lst {pins:List (Addr × Obj)} {σ:St} {H:Hp} {s:Shared} {p:Addr} {xs:List V} (I:Inv X pins σ H s) (h:H p = some (.lst xs)) :
  ∃ (its:List Value) (n:Nat),Vals xs its/\s.heap.get? p = some { cls:=.type "list",data:=.seq its.toArray n }/\xs.length <= sizeLine:=by
 obtain ⟨z,its,n,r,e⟩:=I.hok p _ h
 exact ⟨its,n,r,e,z⟩
theorem Inv.lstUpd {pins:List (Addr × Obj)} {σ:St} {H:Hp} {s:Shared} {p:Addr} {xs ys:List V} {its its':List Value} {n n':Nat} {f:Obj->Obj} (I:Inv X pins σ H s) (h:H p = some (.lst xs))
  (ho:s.heap.get? p = some { cls:=.type "list",data:=.seq its.toArray n }) (hf:f { cls:=.type "list",data:=.seq its.toArray n } = { cls:=.type "list",data:=.seq its'.toArray n' }) (r:Vals ys its') (hz:ys.length <= sizeLine) (t:Nat) :
  Inv X pins σ (upd H p (.lst ys)) { s with heap:=s.heap.update p f,toks:=t }:=by
 have e:(s.heap.update p f).get? p = some { cls:=.type "list",data:=.seq its'.toArray n' }:=by
  rw [Heap.get?_update_self f ho (by rw [hf] <;> rfl),hf]
 refine I.write (x:=p) (e:=p) (by rw [h]; trivial) (.inl rfl) (fun b u hb q=>(Heap.get?_update_other _ _ (Ne.symm hb)).trans q) ⟨_,e⟩ ?_
 exact ⟨hz,its',n',r,e⟩
def Rh:V->V->V->Hp->(Hp->Prop)->Prop:=fun o i v H Q=>∃ p xs k j,o = .ref p/\i = .int k/\H p = some (.lst xs)/\ixN xs.length k = some j/\Q (upd H p (.lst (xs.set j v)))
theorem set_list:adZ X Rh:=by
 intro pins s σ H o i v ov iv u Q I ro ri rv h
 obtain ⟨p,xs,k,j,rfl,rfl,hp,hj,q⟩:=h
 cases ro
 obtain ⟨t,rfl⟩:=ri
 obtain ⟨its,n,r,ho,hz⟩:=I.lst hp
 obtain ⟨h1,h2,h3,h4⟩:=Rk hj
 have hl:=r.length
 have hn:=uD
 have I':Inv X pins σ (upd H p (.lst (xs.set j v))) { s with heap:=s.heap.update p (Obj.mapSeq (·.setIfInBounds j u)) } :=
  I.lstUpd hp ho (Nz its n j u) (r.set rv j) (by rw [List.length_set]; exact hz) s.toks
 by_cases h0:0 <= k
 .have hk:k.toNat = j:=by
   rw [seqIndex_of h0 h4] at h1
   exact Option.some.inj h1
  exact PySem.W.ki_setAt ho h0 (by omega) (by rw [bh,<- hl]; exact h4) (by rw [hk]; exact ⟨_,I',q⟩)
 .have hk:(k + (its.toArray.size:Int)).toNat = j:=by
   rw [seqIndex_neg (by omega) h3] at h1
   rw [bh,<- hl]
   exact Option.some.inj h1
  exact PySem.W.ki_setBack ho (by omega) (by rw [bh,<- hl]; exact h3) (by omega) (by rw [hk]; exact ⟨_,I',q⟩)
theorem J1 (lo hi:Option Int) (n:Nat):(sliceBounds lo hi none n).1 = ((HT.sIx n 0 lo:Nat):Int)/\(sliceBounds lo hi none n).2.1 = ((HT.sIx n n hi:Nat):Int)/\(sliceBounds lo hi none n).2.2 = 1:=by
 refine ⟨?_,?_,rfl⟩
 .cases lo with
  | none=>simp [sliceBounds,HT.sIx]
  | some i =>
   simp only [sliceBounds,HT.sIx,Option.getD_none,show (1:Int) > 0 by decide,if_true]
   by_cases h:i < 0
   .simp only [h,if_true] <;> omega
   .simp only [h,if_false] <;> omega
 .cases hi with
  | none=>simp [sliceBounds,HT.sIx]
  | some i =>
   simp only [sliceBounds,HT.sIx,Option.getD_none,show (1:Int) > 0 by decide,if_true]
   by_cases h:i < 0
   .simp only [h,if_true] <;> omega
   .simp only [h,if_false] <;> omega
theorem Fv (its:List Value) (lo hi:Option Int):slicePick its.toArray lo hi none = ((its.drop (HT.sIx its.length 0 lo)).take (HT.sIx its.length its.length hi - HT.sIx its.length 0 lo)).toArray:=by
 obtain ⟨h1,h2,h3⟩:=J1 lo hi its.toArray.size
 unfold slicePick
 rw [h1,h2,h3]
 simp only [sliceRange_one,pick_run,bh] <;> rfl
def Zq (K:Frag):V->Option Int->Option Int->Hp->VK->Prop:=fun x lo hi H Q=>∃ a xs,x = .ref a/\SqL K H a xs/\∀ p,H p = none->Q (.ref p) (upd H p (.lst (pA xs lo hi)))
theorem Bc:SlR X (Zq X.K):=by
 intro pins s σ H x v vl vu lo hi sl Q I rx hs pl pu h
 obtain ⟨a,xs,rfl,hx,q⟩:=h
 cases rx
 obtain ⟨its,r,ht,hz⟩:=I.list hx
 have hlen:=r.length
 refine ⟨"list",_,slot_list_getitem.lookup,ht.isList.typeIs,?_⟩
 refine wpAny_getItem_list_slice ht.isList hs pl pu .none (by simp) ?_ (by rw [bh] <;> omega)
 rw [Fv,<- hlen]
 refine ⟨.ref s.heap.objs.size,_,I.laid (t':=s.toks) (o:=.lst (pA xs lo hi)) (fun b ob q=>aH _ q) (aG _) ?_,rfl,q _ (I.hok.fresh (aG _))⟩
 exact ⟨aN (zV xs lo hi) hz,_,0,(r.drop (HT.sIx xs.length 0 lo)).take (HT.sIx xs.length xs.length hi - HT.sIx xs.length 0 lo),aZ _ rfl⟩
def pI:V->Bool
 | .non=>true
 | .bl _=>true
 | .int _=>true
 | .str _=>true
 | _=>false
def eqV:V->V->Bool
 | .non,.non=>true
 | .bl a,.bl b=>a == b
 | .bl a,.int b=>(if a then 1 else 0) == b
 | .int a,.bl b=>a == (if b then 1 else 0)
 | .int a,.int b=>a == b
 | .str a,.str b=>a == b
 | _,_=>false
theorem acw {A:Around} {s:Shared} {y x:V} {u v:Value} (ry:RelV y u) (rx:RelV x v) (fy:pI y = true) (fx:pI x = true):SeqAt.EqAt A s u v (eqV y x):=by
 cases y with
 | non =>
  cases ry
  cases x with
  | non=>cases rx; exact SeqAt.EqAt.same _
  | bl b=>cases rx; exact SeqAt.EqAt.none_bool b
  | int b=>obtain ⟨t,rfl⟩:=rx; exact SeqAt.EqAt.none_int b t
  | str b=>obtain ⟨t,rfl⟩:=rx; exact SeqAt.EqAt.none_str b t
  | _=>exact absurd (show false = true from fx) bD
 | bl a =>
  cases ry
  cases x with
  | non=>cases rx; exact SeqAt.EqAt.bool_none a
  | bl b=>cases rx; exact SeqAt.EqAt.bool_bool a b
  | int b=>obtain ⟨t,rfl⟩:=rx; exact SeqAt.EqAt.bool_int a b t
  | str b=>obtain ⟨t,rfl⟩:=rx; exact SeqAt.EqAt.bool_str a b t
  | _=>exact absurd (show false = true from fx) bD
 | int a =>
  obtain ⟨t',rfl⟩:=ry
  cases x with
  | non=>cases rx; exact SeqAt.EqAt.int_none a t'
  | bl b=>cases rx; exact SeqAt.EqAt.int_bool a t' b
  | int b=>obtain ⟨t,rfl⟩:=rx; exact SeqAt.EqAt.int_int a t' b t
  | str b=>obtain ⟨t,rfl⟩:=rx; exact SeqAt.EqAt.int_str a t' b t
  | _=>exact absurd (show false = true from fx) bD
 | str a =>
  obtain ⟨t',rfl⟩:=ry
  cases x with
  | non=>cases rx; exact SeqAt.EqAt.str_none a t'
  | bl b=>cases rx; exact SeqAt.EqAt.str_bool a t' b
  | int b=>obtain ⟨t,rfl⟩:=rx; exact SeqAt.EqAt.str_int a t' b t
  | str b=>obtain ⟨t,rfl⟩:=rx; exact SeqAt.EqAt.str_str a t' b t
  | _=>exact absurd (show false = true from fx) bD
 | _=>exact absurd (show false = true from fy) bD
def eqU (x:V) (u:Value):Bool:=match u with
 | .none=>eqV .non x
 | .bool b=>eqV (.bl b) x
 | .int i _=>eqV (.int i) x
 | .str z _=>eqV (.str z) x
 | _=>false
theorem W8 {x y:V} {u:Value} (r:RelV y u) (f:pI y = true):eqU x u = eqV y x:=by
 cases y with
 | non=>cases r; rfl
 | bl b=>cases r; rfl
 | int i=>obtain ⟨t,rfl⟩:=r; rfl
 | str z=>obtain ⟨t,rfl⟩:=r; rfl
 | _=>exact absurd (show false = true from f) bD
theorem I8 {x:V} : ∀ {xs:List V} {us:List Value},Vals xs us->xs.all pI = true->us.any (eqU x) = xs.any fun y=>eqV y x
 | _,_,.nil,_=>rfl
 | y :: xs,u :: us,.cons r t,f=>by
  rw [List.all_cons,Bool.and_eq_true] at f
  rw [List.any_cons,List.any_cons,W8 r f.1,I8 t f.2]
theorem DP {A:Around} {s:Shared} {x:V} {v:Value} (rx:RelV x v) (fx:pI x = true):∀ {xs:List V} {us:List Value},Vals xs us->xs.all pI = true->∀ u ∈ us,SeqAt.EqAt A s u v (eqU x u)
 | _,_,.nil,_=>fun u hu=>by cases hu
 | y :: xs,u :: us,.cons r t,f=>fun u' hu=>by
  rw [List.all_cons,Bool.and_eq_true] at f
  rcases List.mem_cons.mp hu with rfl | hu
  .rw [W8 r f.1]; exact acw r rx f.1 fx
  .exact DP rx fx t f.2 u' hu
def inV (x:V) (xs:List V):Bool:=xs.any fun y=>eqV y x
def rIn (K:Frag) (neg:Bool):R2:=fun x y H Q=>∃ p xs,y = .ref p/\(SqL K H p xs\/SqT K H p xs)/\pI x = true/\xs.all pI = true/\Q (.bl (if neg then !inV x xs else inV x xs)) H
theorem Jk:OpR X (compareOp .NotIn) (rIn X.K true):=by
 intro pins s σ H x y v u Q I rx ry h
 obtain ⟨p,xs,rfl,hq,fx,fs,q⟩:=h
 cases ry
 rcases hq with hq | hq
 .obtain ⟨its,r,pl,hz⟩:=I.list hq
  refine SeqAt.notIn_listAt (eqU x) pl.isList (fun w hw=>DP rx fx r fs w (by simpa using hw)) ⟨.bl _,H,I,rfl,?_⟩
  rw [show its.toArray.any (eqU x) = its.any (eqU x) by simp,I8 r fs]
  exact q
 .obtain ⟨its,r,pl,hz⟩:=I.tuple hq
  refine SeqAt.notIn_tupleAt (eqU x) pl (fun w hw=>DP rx fx r fs w (by simpa using hw)) ⟨.bl _,H,I,rfl,?_⟩
  rw [show its.toArray.any (eqU x) = its.any (eqU x) by simp,I8 r fs]
  exact q
theorem wH:gj X (.builtin "len") (fun xs H Q=>∃ p ys,xs = [.ref p]/\(SqL X.K H p ys\/SqT X.K H p ys)/\Q (.int ys.length) H):=by
 intro pins s σ H xs us Q I r h
 obtain ⟨p,ys,rfl,hq,q⟩:=h
 obtain ⟨u,rfl,rx⟩:=vals1 r
 cases rx
 have hn:=uD
 rcases hq with hq | hq
 .obtain ⟨its,r',pl,hz⟩:=I.list hq
  have hlen:=r'.length
  exact Calls.call_len_list pl.isList (by simp only [bh] <;> omega) ⟨.int ys.length,H,I.tok _,⟨s.toks + 1,by rw [bh,hlen]⟩,q⟩
 .obtain ⟨its,r',pl,hz⟩:=I.tuple hq
  have hlen:=r'.length
  exact len_tuple pl (by simp only [bh] <;> omega) ⟨.int ys.length,H,I.tok _,⟨s.toks + 1,by rw [bh,hlen]⟩,q⟩
theorem Jw:gj X (.builtin "len") (fun xs H Q=>∃ z,xs = [.str z]/\z.length <= sizeLine/\Q (.int z.length) H):=by
 intro pins s σ H xs us Q I r h
 obtain ⟨z,rfl,hz,q⟩:=h
 obtain ⟨u,rfl,t,rfl⟩:=vals1 r
 have hn:=uD
 exact len_str (by omega) ⟨.int z.length,H,I.tok _,⟨_,rfl⟩,q⟩
theorem gj.or {f:Value} {r r':List V->Hp->VK->Prop} (h:gj X f r) (h':gj X f r'):gj X f (fun xs H Q=>r xs H Q\/r' xs H Q):=by
 intro pins s σ H xs us Q I rs q
 rcases q with q | q
 .exact h pins s σ H xs us Q I rs q
 .exact h' pins s σ H xs us Q I rs q
theorem Hs:gj X (.type "list") (fun xs H Q=>∃ p ys,xs = [.ref p]/\(SqL X.K H p ys\/SqT X.K H p ys)/\∀ l,H l = none->Q (.ref l) (upd H l (.lst ys))):=by
 intro pins s σ H xs us Q I r h
 obtain ⟨p,ys,rfl,hq,q⟩:=h
 obtain ⟨u,rfl,rx⟩:=vals1 r
 cases rx
 have fin:∀ (its:List Value),Vals ys its->ys.length <= sizeLine->∀ (h':Heap) (c':Nat),(∀ b o',s.heap.get? b = some o'->h'.get? b = some o') ->
   h'.get? s.heap.objs.size = some { cls:=.type "list",dict:=none,data:=.seq its.toArray c',slots:=#[] }->EP X pins σ Q (.ref s.heap.objs.size) { s with heap:=h' }:=fun its r' hz h' c' kp e =>
  ⟨.ref s.heap.objs.size,_,I.laid (t':=s.toks) kp (aG _) (show dM X.prog X.w _ h' _ (.lst ys) from ⟨hz,its,c',r',e⟩),rfl,q _ (I.hok.fresh (aG _))⟩
 rcases hq with hq | hq
 .obtain ⟨its,r',pl,hz⟩:=I.list hq
  have hlen:=r'.length
  obtain ⟨o,ho,hc,n,hd⟩:=pl.isList
  exact call_list_seq p (.inl rfl) ho hc hd (fun h' c' kp e=>fin its r' hz h' c' kp e) (by simp only [bh] <;> omega)
 .obtain ⟨its,r',pl,hz⟩:=I.tuple hq
  have hlen:=r'.length
  obtain ⟨o,ho,hc,n,hd⟩:=pl
  exact call_list_seq p (.inr rfl) ho hc hd (fun h' c' kp e=>fin its r' hz h' c' kp e) (by simp only [bh] <;> omega)
def tyV (K:Frag) (T:String) (x:V) (H:Hp):Prop:=match x with
 | .str _=>T = "str"
 | .int _=>T = "int"
 | .ref p=>(T = "list" /\ ∃ xs,SqL K H p xs)\/(T = "tuple" /\ ∃ o,K.lookup p = some o/\o.cls = .type "tuple" /\ o.dict = none) \/
   (T = "dict" /\ (∃ kvs,H p = some (.dK kvs)))\/(T = "set" /\ ∃ S n,H p = some (.set S n))
 | _=>False
theorem UW {pins:List (Addr × Obj)} {σ:St} {H:Hp} {s:Shared} {T:String} {x:V} {v:Value} (I:Inv X pins σ H s) (r:RelV x v) (ty:tyV X.K T x H) :
  s.TypeIs v T/\∀ a,v = .ref a->∃ ob,s.heap.get? a = some ob/\ob.dict = none:=by
 cases x with
 | str z =>
  obtain ⟨t,rfl⟩:=r
  cases (show T = "str" from ty)
  exact ⟨typeIs_str s z t,fun _ e=>nomatch e⟩
 | int i =>
  obtain ⟨t,rfl⟩:=r
  cases (show T = "int" from ty)
  exact ⟨typeIs_int s i t,fun _ e=>nomatch e⟩
 | ref p =>
  cases r
  rcases ty with ⟨rfl,xs,hq⟩ | ⟨rfl,o,hk,hc,hd⟩ | ⟨rfl,hk⟩ | ⟨rfl,S,n,hk⟩
  .obtain ⟨its,_,pl,_⟩:=I.list hq
   refine ⟨pl.isList.typeIs,fun a e=>?_⟩
   cases e
   obtain ⟨o,n,e,c,hd,_⟩:=pl
   exact ⟨o,e,hd⟩
  .refine ⟨⟨o,I.kIn p o hk,hc⟩,fun a e=>?_⟩
   cases e
   exact ⟨o,I.kIn _ o hk,hd⟩
  .have z:∃ o,s.heap.get? p = some o/\o.ExactDict:=by
    obtain ⟨kvs,hk⟩:=hk
    obtain ⟨_,_,_,_,o,_,_,e,ex,_⟩:=I.hok p _ hk
    exact ⟨o,e,ex⟩
   obtain ⟨o,e,ex⟩:=z
   refine ⟨⟨o,e,ex.1⟩,fun a e2=>?_⟩
   cases e2
   exact ⟨o,e,ex.2.1⟩
  .obtain ⟨o,_,_,_,e,ex,_⟩:=I.hok p _ hk
   refine ⟨⟨o,e,ex.1⟩,fun a e2=>?_⟩
   cases e2
   exact ⟨o,e,ex.2.1⟩
 | _=>exact False.elim ty
def agM (K:Frag) (T:String) (r:V->List V->Hp->VK->Prop) (to:TE):TE:=fun σ H Q=>to σ H fun x H1=>tyV K T x H1/\r x [] H1 Q
def tBM (K:Frag) (T:String) (r:V->List V->Hp->VK->Prop) (to:TE) (t:TA):TE:=fun σ H Q=>to σ H fun x H1=>tyV K T x H1/\t σ H1 fun xs H2=>r x xs H2 Q
variable {o e:Expr} {es:List Expr} {to:TE} {t:TA} {name:Str} {apos cpos:Pos} {T id:String} {r:V->List V->Hp->VK->Prop}
theorem abh (pa:PlainAttrs T) (slot:Slot T name id) (hty:typeOf (.builtin id) = pure (.type "method_descriptor")) (hm:MtR X id r) (ho:PE X o to)
  (hbase:attributeBase o name X.env (eval o X.env) = eval o X.env:=by rfl) (hline:(apos.endLine == cpos.line) = true:=by rfl):PE X (.Call (.Attribute o name apos) [] [] cpos) (agM X.K T r to):=by
 intro pins s σ H Q I h
 refine wpAny_Call_method0_late hbase hline (thn (ho pins s σ H _ I h) fun v s1 ⟨x,H1,I1,r1,ty,q1⟩=>?_)
 obtain ⟨h1,h2⟩:=UW I1 r1 ty
 exact ⟨T,id,pa,slot,hty,h1,h2,Calls.callWith_builtin rfl (PySem.evalArgs_none (hm pins s1 σ H1 x [] v [] Q I1 r1 .nil q1))⟩
theorem aaU (pa:PlainAttrs T) (slot:Slot T name id) (hty:typeOf (.builtin id) = pure (.type "method_descriptor")) (hm:MtR X id r) (ho:PE X o to) (ha:PA X (e :: es) t)
  (hbase:attributeBase o name X.env (eval o X.env) = eval o X.env:=by rfl)
  (hfew:((backTo cpos (starEach (e :: es) X.env)).all (fun x=>!x.1) && (backToKw cpos (keywordEach [] X.env)).all (fun x=>x.1.isSome)
   && decide ((e :: es).length + ([] : List Keyword).length + (if ([] : List Keyword).isEmpty then 0 else 1) < 30)) = true:=by rfl)
  (hline:(apos.endLine == cpos.line) = true:=by rfl) (hs:starEach (e :: es) X.env = (false,eval e X.env) :: starEach es X.env:=by rfl) (hplain:(backTo cpos (starEach es X.env)).any (·.1) = false:=by rfl) :
  PE X (.Call (.Attribute o name apos) (e :: es) [] cpos) (tBM X.K T r to t):=by
 intro pins s σ H Q I h
 refine wpAny_Call_method_late hbase hfew hline rfl (thn (ho pins s σ H _ I h) fun v s1 ⟨x,H1,I1,r1,ty,q1⟩=>?_)
 obtain ⟨h1,h2⟩:=UW I1 r1 ty
 refine ⟨T,id,pa,slot,hty,h1,h2,?_⟩
 have hA:=ha cpos pins s1 σ H1 _ I1 q1
 rw [hs] at hA ⊢
 refine Calls.callWith_builtin (by show (false || (backTo cpos (starEach es X.env)).any (·.1)) = false; rw [hplain] <;> rfl) (Calls.evalArgs_plain ?_)
 exact thn hA fun us s2 ⟨vs,H2,I2,r2,q2⟩=>hm pins s2 σ H2 x vs v us Q I2 r1 r2 q2
/- xs.append(e),list.index on a module's tuple .. are MtR facts of 06m -/
end
def MtM (X:Cx) (id:String) (r:V->List V->Hp->VK->Prop):Prop :=
 ∀ (pins:List (Addr × Obj)) (s:Shared) (σ:St) (H:Hp) (x:V) (xs:List V) (v:Value) (us:List Value) (Q:VK),Inv X pins σ H s->RelV x v->Vals xs us->r x xs H Q ->
  wpAny (model X.prog X.w) X.A (call (.builtin id) (v :: us)) (EP X pins σ Q) X.xe s
theorem Vals.one:∀ {x:V} {us:List Value},Vals [x] us->∃ u,us = [u]/\RelV x u
 | _,_,.cons r .nil=>⟨_,rfl,r⟩
theorem Vals.two {x y:V} {us:List Value} (h:Vals [x,y] us):∃ u v,us = [u,v]/\RelV x u/\RelV y v:=by
 cases h with | cons r t=>cases t with | cons q t=>cases t; exact ⟨_,_,rfl,r,q⟩
theorem Vals.zero:∀ {us:List Value},Vals [] us->us = []
 | _,.nil=>rfl
theorem Vals.eraseIdx:∀ {xs:List V} {us:List Value} (i:Nat),Vals xs us->Vals (xs.eraseIdx i) (us.eraseIdx i)
 | _,_,_,.nil=>.nil
 | _,_,0,.cons _ t=>t
 | _,_,i + 1,.cons r t=>.cons r (Vals.eraseIdx i t)
theorem Vals.reverse {xs:List V} {us:List Value} (h:Vals xs us):Vals xs.reverse us.reverse:=by
 induction h with
 | nil=>exact .nil
 | cons r t ih=>rw [List.reverse_cons,List.reverse_cons]; exact Vals.append ih (.cons r .nil)
theorem Vals.rep {xs:List V} {us:List Value} (h:Vals xs us):∀ k:Nat,Vals (List.replicate k xs).flatten (List.replicate k us).flatten
 | 0=>.nil
 | k + 1=>by
  rw [List.replicate_succ,List.replicate_succ,List.flatten_cons,List.flatten_cons]
  exact Vals.append h (Vals.rep h k)
theorem Gp {α:Type} : ∀ (l:List α) (i:Nat),(l.eraseIdx i).length <= l.length
 | [],_=>aG _
 | _ :: _,0=>Nat.le_succ _
 | _ :: r,i + 1=>Nat.succ_le_succ (Gp r i)
theorem foldl_rep (its:List Value):∀ (k:Nat) (acc:List Value),
  List.foldl (fun x1 x2=>x1 ++ x2) acc.toArray (List.replicate k its.toArray) = (acc ++ (List.replicate k its).flatten).toArray
 | 0,acc=>by simp
 | k + 1,acc=>by
  have e:acc.toArray ++ its.toArray = (acc ++ its).toArray:=by simp
  have e2:(acc ++ its) ++ (List.replicate k its).flatten = acc ++ (List.replicate (k + 1) its).flatten:=by
   rw [List.replicate_succ,List.flatten_cons,List.append_assoc]
  rw [<- e2,<- foldl_rep its k (acc ++ its),<- e,List.replicate_succ,List.foldl_cons]
section
variable {X:Cx} {pins:List (Addr × Obj)} {σ:St} {H:Hp} {s:Shared} {l b:Addr} {xs ys zs:List V}
theorem Inv.lset {its its':List Value} {n:Nat} {f:Array Value->Array Value} {t':Nat} (I:Inv X pins σ H s) (hH:H l = some (.lst xs))
  (e:s.heap.get? l = some { cls:=.type "list",data:=.seq its.toArray n }) (hf:f its.toArray = its'.toArray) (hv:Vals ys its') (hz:ys.length <= sizeLine) :
  Inv X pins σ (upd H l (.lst ys)) { s with heap:=s.heap.update l (Obj.mapSeq f),toks:=t' }:=by
 have q:=PySem.IsL.update e f
 rw [hf] at q
 refine I.write (x:=l) (e:=l) (by rw [hH]; exact trivial) (.inl rfl) (fun b' u hb hu=>(Heap.get?_update_other s.heap (Obj.mapSeq f) (Ne.symm hb)).trans hu) ⟨_,q⟩ ?_
 exact ⟨hz,its',_,hv,q⟩
theorem Inv.lnew {its:List Value} {t':Nat} (I:Inv X pins σ H s) (hv:Vals ys its) (hz:ys.length <= sizeLine) :
  Inv X pins σ (upd H s.heap.objs.size (.lst ys)) { s with heap:=s.heap.push { cls:=.type "list",data:=.seq its.toArray },toks:=t' } :=
 I.laid (fun _ _ q=>aH _ q) (aG _) ⟨hz,its,0,hv,aZ _ rfl⟩
theorem Inv.fresh (I:Inv X pins σ H s):H s.heap.objs.size = none:=I.hok.fresh (aG _)
theorem Inv.lstM (I:Inv X pins σ H s) (hH:H l = some (.lst xs)):xs.length <= sizeLine/\∃ (its:List Value) (n:Nat),Vals xs its/\xs.length = its.length/\s.heap.get? l = some { cls:=.type "list",data:=.seq its.toArray n }:=by
 obtain ⟨z,its,n,r,e⟩:=I.hok l _ hH
 exact ⟨z,its,n,r,r.length,e⟩
theorem VH {n:Nat} (h:n <= sizeLine):Builtin.List.listTooLong n = false:=by
 unfold Builtin.List.listTooLong
 exact decide_eq_false (by omega)
end
section
variable {X:Cx}
def Y8:V->List V->Hp->VK->Prop:=fun x vs H Q=>∃ l xs y,x = .ref l/\vs = [y]/\H l = some (.lst xs)/\xs.length < sizeLine/\Q .non (upd H l (.lst (xs ++ [y])))
theorem GP:MtM X "list.append" Y8:=by
 intro pins s σ H x vs v us Q I rx rv h
 obtain ⟨l,xs,y,rfl,rfl,hH,hz,q⟩:=h
 cases rx
 obtain ⟨u,rfl,ru⟩:=rv.one
 obtain ⟨z,its,n,r,hl,e⟩:=I.lstM hH
 refine call_meets F.slot_list_append ⟨_,e,rfl⟩ F.entry_list_append (F.args_list_append_2 _ _) (PySem.list_append l its.toArray n u (by rw [bh]; omega)) ⟨e,?_⟩
 refine ⟨.non,_,I.lset (its':=its ++ [u]) hH e (by simp) (r.append (.cons ru .nil)) ?_,rfl,q⟩
 rw [aB,List.length_singleton]
 omega
def U0:V->List V->Hp->VK->Prop:=fun x vs H Q=>∃ l xs,x = .ref l/\vs = []/\H l = some (.lst xs)/\Q .non (upd H l (.lst xs.reverse))
theorem Nh:MtM X "list.reverse" U0:=by
 intro pins s σ H x vs v us Q I rx rv h
 obtain ⟨l,xs,rfl,rfl,hH,q⟩:=h
 cases rx
 have hus:=rv.zero
 subst hus
 obtain ⟨z,its,n,r,hl,e⟩:=I.lstM hH
 refine call_meets F.slot_list_reverse ⟨_,e,rfl⟩ F.entry_list_reverse (F.args_list_reverse_1 _) (AutoSeq1.list_reverse_list_0 l its.toArray n (by rw [bh]; omega)) ⟨e,?_⟩
 refine ⟨.non,_,I.lset (its':=its.reverse) hH e (by simp) r.reverse ?_,rfl,q⟩
 rw [List.length_reverse]
 omega
def aaL:R2:=fun x y H Q=>∃ l b xs zs,x = .ref l/\y = .ref b/\H l = some (.lst xs)/\H b = some (.lst zs)/\xs.length + zs.length <= sizeLine/\∀ p,H p = none->Q (.ref p) (upd H p (.lst (xs ++ zs)))
theorem Px:OpR X (binaryOp .Add) aaL:=by
 intro pins s σ H x y v u Q I rx ry h
 obtain ⟨l,b,xs,zs,rfl,rfl,hH,hB,hz,q⟩:=h
 cases rx
 cases ry
 obtain ⟨z,its,n,r,hl,e⟩:=I.lstM hH
 obtain ⟨z2,its2,n2,r2,hl2,e2⟩:=I.lstM hB
 refine PySem.P.add_list e e2 ?_ (by rw [bh,bh]; omega)
 have ea:its.toArray ++ its2.toArray = (its ++ its2).toArray:=by simp
 rw [ea]
 exact ⟨.ref _,_,I.lnew (t':=s.toks) (r.append r2) (by rw [aB]; omega),rfl,q _ I.fresh⟩
def ag5:R2:=fun x y H Q=>∃ l k xs,x = .ref l/\y = .int k/\H l = some (.lst xs)/\-(2 ^ 63) <= k/\k < 2 ^ 63/\xs.length * k.toNat <= sizeLine /\
 ∀ p,H p = none->Q (.ref p) (upd H p (.lst (List.replicate k.toNat xs).flatten))
theorem len_rep {α:Type} (xs:List α) (k:Nat):(List.replicate k xs).flatten.length = k * xs.length:=by
 induction k with
 | zero=>simp
 | succ k ih=>rw [List.replicate_succ,List.flatten_cons,aB,ih,Nat.succ_mul,Nat.add_comm]
theorem acd:OpR X (binaryOp .Mult) ag5:=by
 intro pins s σ H x y v u Q I rx ry h
 obtain ⟨l,k,xs,rfl,rfl,hH,h1,h2,hz,q⟩:=h
 cases rx
 obtain ⟨t,rfl⟩:=ry
 obtain ⟨z,its,n,r,hl,e⟩:=I.lstM hH
 have hlen:its.toArray.size * k.toNat <= sizeLine:=by rw [bh,<- hl]; exact hz
 have hcap:¬ its.toArray.size * k.toNat > (2 ^ 63 - 1) / 8:=by
  have:(sizeLine:Nat) <= (2 ^ 63 - 1) / 8:=by decide
  omega
 have hfit:¬ (!Builtin.List.listFitsIndex k) = true:=by
  rw [fitsIndex_both h1 h2]
  exact bD
 have hlong:¬ Builtin.List.listTooLong (its.toArray.size * k.toNat) = true:=by
  rw [VH hlen]
  exact bD
 have hnew:List.foldl (fun x1 x2=>x1 ++ x2) #[] (List.replicate (if its.toArray.isEmpty = true then 0 else k.toNat) its.toArray) = (List.replicate k.toNat its).flatten.toArray:=by
  have f0:∀ m:Nat,List.foldl (fun x1 x2=>x1 ++ x2) #[] (List.replicate m its.toArray) = (List.replicate m its).flatten.toArray:=fun m=>by
   have:=foldl_rep its m []
   rw [List.nil_append] at this
   exact this
  rw [f0]
  cases its with
  | nil=>simp
  | cons a r'=>rw [if_neg (by simp)]
 refine wpAny_binaryOp_repeat_ref (T := "list") (U := "int") (by decide) ⟨_,e,rfl⟩ (fun s'=>typeIs_int s' k t) noFill_list_mul F.fills_int_mul F.slot_int_rmul repeat_list F.slot_int_index.lookup
  (call_meets F.slot_int_rmul (typeIs_int s k t) F.entry_int_rmul (F.args_int_rmul_2 _ _) (int___rmul___int_list k t l its.toArray n)
   ⟨e,rfl,⟨_,e,rfl⟩,call_meets F.slot_list_mul ⟨_,e,rfl⟩ F.entry_list_mul (F.args_list_mul_2 _ _) (AutoListH.list___mul___list_int_3 l its.toArray n k t hfit hcap hlong) ⟨e,?_⟩⟩)
 rw [hnew]
 exact ⟨.ref _,_,I.lnew (t':=s.toks) (r.rep k.toNat) (by rw [len_rep,Nat.mul_comm]; exact hz),rfl,q _ I.fresh⟩
theorem wY {pins:List (Addr × Obj)} {s:Shared} {σ:St} {H:Hp} {l:Addr} {xs:List V} {i:Int} {t:Tok} {k:Nat} {Q:Unit->Shared->Prop} (I:Inv X pins σ H s) (hH:H l = some (.lst xs))
  (h1 : -(2 ^ 63) <= i) (h2:i < 2 ^ 63) (hk:seqIndex? i xs.length = some k) (h:∀ s',Inv X pins σ (upd H l (.lst (xs.eraseIdx k))) s'->Q () s') :
  wpAny (model X.prog X.w) X.A (delItem (.ref l) (.int i t)) Q X.xe s:=by
 obtain ⟨z,its,n,r,hl,e⟩:=I.lstM hH
 refine PySem.P.delItem_list (k:=k) e (fitsIndex_both h1 h2) (by rw [bh,<- hl]; exact hk) (h _ ?_) (by rw [bh]; omega)
 refine I.lset (its':=its.eraseIdx k) (t':=s.toks) hH e ?_ (r.eraseIdx k) ?_
 .show its.toArray.eraseIdxIfInBounds k = (its.eraseIdx k).toArray
  rw [List.eraseIdxIfInBounds_toArray]
 .have:=Gp xs k
  omega
end
end L2
namespace Att
open PySem PySem.W PySem.Calls PyProof.Rows
theorem Ab {P:Params} {h:Heap} : ∀ (ns:List Int) (vs:List Value),WellAll P h vs (ns.map WData.int)->IntsAre vs ns:=by
 intro ns
 induction ns with
 | nil =>
  intro vs w
  rw [List.map_nil] at w
  cases w
  exact .nil
 | cons n ns ih =>
  intro vs w
  rw [List.map_cons] at w
  cases w with
  | cons a b =>
   cases a
   exact .cons _ _ (ih _ b)
theorem TX {l:OpenLaw} {n:Nat} (hn:l.most = some n) {P:Params} {h:Heap} {args:List WData} {vals:List Value}
  (hpre:l.row.toRowW.claim.pre args = true) (hwl:WellAll P h vals args) :
  ∃ a vs ns,vals = [Value.ref a]/\args = [WData.list (ns.map WData.int)]/\h.get? a = some { cls:=.type "list",data:=.seq vs.toArray }/\IntsAre vs ns/\ns.length <= n:=by
 have hsh:WShape.hasAll [] args [.list .int] = true:=(pre_splitW hpre).1
 have hc:l.pre.holds [] { args:=args } = true:=(pre_splitW hpre).2
 obtain ⟨d,r,rfl,h1,h2⟩:=hasAllW_cons hsh
 obtain rfl:=hasAllW_nil h2
 obtain ⟨xs,rfl,h3⟩:=hasW_list h1
 obtain ⟨ns,rfl⟩:=items_int h3
 have hlen:ns.length <= n:=by
  unfold OpenLaw.pre at hc
  have h4:(WTm.not (.lt (.lit (.int (n:Int))) (.len (.arg 0)))).holds [] { args:=[.list (ns.map .int)] } = true:=by
   have h4:=(holds_andW hc).1
   rw [hn] at h4
   exact h4
  have h5:=condW_of h4 (w_not (w_lt w_lit (w_len_list (w_arg rfl))))
  rw [ao] at h5
  refine Nat.le_of_not_lt fun q=>?_
  have q':(n:Int) < ((ns.length:Nat):Int):=by omega
  first
   | (rw [decide_eq_true q'] at h5; exact absurd h5 (by decide))
   | (simp at h5; omega)
 cases hwl with
 | cons w1 w2 =>
  cases w2
  cases w1 with
  | list ho hall=>exact ⟨_,_,ns,rfl,rfl,ho,Ab ns _ hall,hlen⟩
theorem Sw (l:OpenLaw) (args:List WData):l.row.toRowW.claim.post args (.bool true) args = true :=
 postW_of (r:=l.row.toRowW) (X:=(true == true))
  (show WShape.has [] (.bool true) .bool = true by first | rfl | decide | simp [WShape.has,WShape.arms,WShape.armsAll])
  (show (WTm.eq .res (.lit (.bool true))).value [] { args:=args,res:=some (.bool true),after:=args } = some (.bool (true == true)) from w_eq_bool (w_res rfl) w_lit) rfl
theorem zW {l:OpenLaw} {n:Nat} {q:Program} {loose:List Str} {XP:(Str->Option Value)->Heap->Prop} {YP:World->Heap->Prop} {d:DefRec}
  (hn:l.most = some n) (hdf:d.params.defaults = [])
  (call:∀ (w:World) (s₀ s₁:Shared) (mg mb:Str->Option Value) (fa:Addr) (o:Obj) (pm cd doc:Value) (a:Addr) (vs:List Value) (ns:List Int),
   Ground q loose [] XP w s₀ mg mb s₁.heap->YP w s₁.heap ->
   s₁.heap.get? fa = some o->o.data = .func (docDef d.name d.params d.body d.scope pm cd doc)->s₁.heap.CodeRec cd d.name->mg d.name = some (.ref fa) ->
   s₁.heap.get? a = some { cls:=.type "list",data:=.seq vs.toArray }->IntsAre vs ns->ns.length <= n->s₁.gens = #[] ->
   codeAny (model l.prog w) callerA (.call (.ref fa) ⟨[.ref a],[]⟩) (fun r s'=>r = .ok (.ret (.bool true))/\OldK s₁.heap s'.heap/\s'.os = s₁.os/\AllBare s'.gens) s₁) :
  WalkO q loose XP YP l.row.toRowW d [] (fun f vs=>PySem.call f vs):=by
 intro w s₀ s₁ mg mb G Y fa o pm cd doc dV kV ho hd hcd hD hmg hg args vals as hpre hlay hrd hwl hlo
 obtain rfl:dV = .none:=Dflts.none hD hdf
 obtain rfl:kV = .none:=Dflts.noKw hD
 obtain ⟨a,vs,ns,rfl,rfl,hobj,hints,hlen⟩:=TX hn hpre hwl
 refine enter_call (codeAny_mono (call w s₀ s₁ mg mb fa o pm cd doc a vs ns G Y ho (fd_plain hd) hcd hmg hobj hints hlen hg) fun r s' hq=>?_)
 obtain ⟨rfl,h2,h3,h4⟩:=hq
 exact ⟨.inl ⟨.bool true,.bool true,[],rfl,fun _=>rfl,.bool true,Sw l _,fun _=>⟨List.Pairwise.nil,fun _ hm=>(nomatch hm)⟩⟩,h2,h3,h4⟩
end Att
namespace L2
open PySem PySem.Spec PyProof.Rows
theorem uR:∀ {vs:List Value} {ns:List Int},IntsAre vs ns->Vals (ns.map V.int) vs
 | _,_,.nil=>.nil
 | _,_,.cons n t h=>.cons ⟨t,rfl⟩ (uR h)
def Only (H:Hp):Prop:=∀ b,H b = none\/∃ o xs,H b = some (.frz o (.lst xs))
theorem U4 {P:Program} {w:World} {K:Frag} {mg mb:Str->Option Value} {CX:CXT} {k:Nat} {fa a:Addr} {fd:FuncData} {x:Str} {sp:Sp} {s₁:Shared} {vs:List Value} {ns:List Int}
  (KX:K.In s₁.heap) (hns:s₁.heap.Ns mainGlobals mg) (hb:s₁.heap.Ns builtinsNs mb) (hbb:∀ x:Str,x ≠ "__name__" -> mb x = bootBuiltins x) (hlim:s₁.heap.NoLimit) (hg:s₁.gens = #[])
  (ha:s₁.heap.get? a = some { cls:=.type "list",data:=.seq vs.toArray }) (hi:IntsAre vs ns) (hl:ns.length <= sizeLine) (hr:gJ k callerA)
  (F:∀ base:Heap,K.In base->base.Ns mainGlobals mg->cC P w K mg base CX k fa fd [x] sp) (hbind:∀ (s:Shared) (u:Value),BindsTo s fd ⟨[u],[]⟩ [(x,u)])
  (hsp:∀ H:Hp,Only H->SqL K H a (ns.map V.int)->sp [.ref a] H (fun v _=>v = .bl true) fun _ _ _=>False)
  (hCX:∀ H e s',CX [] H s₁ (fun _ _ _=>False) e s'->False) :
  codeAny (model P w) callerA (.call (.ref fa) ⟨[.ref a],[]⟩) (fun r s'=>r = .ok (.ret (.bool true))/\OldK s₁.heap s'.heap/\s'.os = s₁.os/\AllBare s'.gens) s₁:=by
 have rv:=uR hi
 have lenV:=hi.length
 -- from an abstract heap in which nothing but the script may be tracked
 have core:∀ H:Hp,Only H->SqL K H a (ns.map V.int)->HOk P w H s₁.heap->(∀ b,H b ≠ none->b = a)->(H a ≠ none->K.lookup a = none) ->
   codeAny (model P w) callerA (.call (.ref fa) ⟨[.ref a],[]⟩) (fun r s'=>r = .ok (.ret (.bool true))/\OldK s₁.heap s'.heap/\s'.os = s₁.os/\AllBare s'.gens) s₁:=by
  intro H hO hS hok hA hK
  have base_of:∀ {b:Addr} {o:Obj},s₁.heap.get? b = some o->H b = none->(v9 s₁.heap H).get? b = some o:=fun e n=>La e n
  have noA:∀ {b:Addr} {o:Obj} {es:Array DictEntry} {ep:Nat},s₁.heap.get? b = some o->o.data = .dict es ep->H b = none:=fun {b o es ep} e d=>by
   cases q:H b with
   | none=>rfl
   | some u =>
    have e':b = a:=hA b (by rw [q]; simp)
    subst e'
    rw [ha] at e; cases e
    have d':Data.seq vs.toArray _ = Data.dict es ep:=d
    cases d'
  have nsK:∀ {b:Addr} {m:Str->Option Value},s₁.heap.Ns b m->(v9 s₁.heap H).Ns b m:=fun {b m} ⟨o,es,ep,e,d,r⟩=>⟨o,es,ep,base_of e (noA e d),d,r⟩
  have hKb:K.In (v9 s₁.heap H):=fun b o e=>base_of (KX b o e) (by
   cases q:H b with
   | none=>rfl
   | some u =>
    have e':b = a:=hA b (by rw [q]; simp)
    subst e'
    rw [hK (by rw [q]; simp)] at e; cases e)
  have hM:Mod K mg (v9 s₁.heap H):=⟨hKb,nsK hns,⟨mb,nsK hb,hbb⟩,let ⟨mc,h1,h2⟩:=hlim; ⟨mc,nsK h1,h2⟩⟩
  have e0:Bm P w K mg (v9 s₁.heap H) callerA [] s₁ H:=⟨rfl,hM,fun b o e=>Rm e,Nat.le_of_eq (Gk _ _),trivial,fun b hb=>absurd (show b ∈ ([] : List Addr) from hb) (by simp),hok,.of_eq hg⟩
  refine codeAny_mono ((F _ hKb (nsK hns)).run callerA [] s₁ H ⟨[.ref a],[]⟩ [.ref a] [.ref a] _ _ hr e0 (hbind s₁ (.ref a)) (.cons rfl .nil) (hsp H hO hS)) fun r s' h=>?_
  cases r with
  | error e=>exact (hCX H e s' h).elim
  | ok fl =>
   cases fl with
   | next=>exact False.elim h
   | brk=>exact False.elim h
   | cont=>exact False.elim h
   | ret u =>
    obtain ⟨v,H',os,bare,un,hok',r',q⟩:=h
    have q':v = .bl true:=q
    subst q'
    obtain rfl:u = Value.bool true:=r'
    refine ⟨rfl,OldK.of_keep fun b o e=>?_,os,bare⟩
    cases q:H b with
    | none=>exact un.keep b o e q (by intro z; exact absurd (show b ∈ ([] : List Addr) from z) (by simp)) (by simp)
    | some u =>
     rcases hO b with z | ⟨ob,xs,z⟩
     .rw [q] at z; cases z
     .have z2:=un.frzs b ob _ z
      obtain ⟨e1,_⟩:=hok b _ z
      obtain ⟨e2,_⟩:=hok' b _ z2
      rw [e] at e1; cases e1
      exact e2
 cases hk:K.lookup a with
 | some o =>
  -- the script is one of the module's own objects
  have e:=KX a o hk
  rw [ha] at e
  cases e
  refine core (fun _=>none) (fun _=>.inl rfl) (.inr ⟨_,vs.toArray,_,hk,rfl,rfl,rfl,by rw [bh,lenV]; exact hl,by simpa using rv⟩) (fun b u z=>by have z':(none:Option HO) = some u:=z; cases z') (fun b z=>absurd rfl z) fun z=>absurd rfl z
 | none =>
  refine core (fun b=>if b = a then some (.frz { cls:=.type "list",data:=.seq vs.toArray } (.lst (ns.map V.int))) else none) (fun b=>?_) (.inl (.inr ⟨{ cls:=.type "list",data:=.seq vs.toArray },if_pos rfl⟩)) (fun b u z=>?_) (fun b z=>?_) fun _=>hk
  .by_cases hb:b = a
   .exact .inr ⟨_,_,if_pos hb⟩
   .exact .inl (if_neg hb)
  .by_cases hb:b = a
   .have z':=(if_pos hb).symm.trans z
    cases z'
    subst hb
    exact ⟨ha,by rw [ao]; exact hl,vs,_,rv,ha⟩
   .have z':=(if_neg hb).symm.trans z
    cases z'
  .by_cases hb:b = a
   .exact hb
   .exact absurd (if_neg hb) z
abbrev KOf {K:Frag} {h:Heap} (_:K.In h):Frag:=K
theorem YB {l:PySem.W.OpenLaw} {n k:Nat} {q:Program} {loose:List Str} {XP:(Str->Option Value)->Heap->Prop} {YP:World->Heap->Prop} {d:DefRec} {K:Params->Frag} {CX:World->CXT} {sp:World->Sp} {x:Str}
  (hn:l.most = some n) (hn2:n <= sizeLine) (hdf:d.params.defaults = []) (hr:gJ k callerA)
  (hY:∀ (w:World) (h:Heap),YP w h->(K w.params).In h)
  (F:∀ (w:World) (mg:Str->Option Value) (fa:Addr) (h:Heap),(K w.params).In h->h.Ns mainGlobals mg->mg d.name = some (.ref fa) ->
   ∃ fd:FuncData,(∀ (s:Shared) (u:Value),BindsTo s fd ⟨[u],[]⟩ [(x,u)]) /\
    ∀ base:Heap,(K w.params).In base->base.Ns mainGlobals mg->cC l.prog w (K w.params) mg base (CX w) k fa fd [x] (sp w))
  (hsp:∀ (w:World) (H:Hp) (a:Addr) (ns:List Int),ns.length <= n->Only H->SqL (K w.params) H a (ns.map V.int)->sp w [.ref a] H (fun v _=>v = .bl true) fun _ _ _=>False)
  (hCX:∀ (w:World) (H:Hp) (s:Shared) (e:Value) (s':Shared),CX w [] H s (fun _ _ _=>False) e s'->False) :
  PySem.W.WalkO q loose XP YP l.row.toRowW d [] (fun f vs=>PySem.call f vs):=by
 refine Att.zW hn hdf fun w s₀ s₁ mg mb fa o pm cd doc a vs ns G Y ho hd hcd hmg hobj hints hlen hg=>?_
 have KX:=hY w _ Y
 obtain ⟨fd,hb,hF⟩:=F w mg fa _ KX G.T.g hmg
 exact U4 KX G.T.g G.T.b G.T.builtins G.T.nolimit hg hobj hints (aN hlen hn2) hr hF hb (fun H hO hS=>hsp w H a ns hlen hO hS) fun H e s'=>hCX w H s₁ e s'
end L2
/- THE LAST THEOREM (shape; LID,My.* are yours):
   My.Adr: a structure of the addresses that your layer names (classes,functions); My.Txt K t: a structure (Prop) of the equations over K;
   My.txt_mk : {K} {implicit addresses ..} (e1:nsIn K mainGlobals "law" = some (some (.ref f))) (e2:K.lookup f = some ⟨oc,od,.func (fnOf "law" "law" params body scope dV kV doc pm an cdv ct),sl⟩) (e3:codeIn K cdv "law" = true) .. : ∃ t,My.Txt K t
set_option maxRecDepth 100000 in
set_option maxHeartbeats 0 in
theorem PySem.Challenge.cw_LID_holds : PySem.Challenge.rw_LID.Holds := by
 w_on; o_law; k_head; (case hw=>w_witness2)
 k_fill
 refine L2.YB (l:=PySem.Challenge.rw_LID) (n:=63) (k:=40) (x := "script") (CX:=fun w=>..) (sp:=fun _=>My.agZ) rfl (by decide) rfl ⟨rfl,by decide,by decide⟩ (fun w h Y=>PySem.W.kIn_of Y) ?F ?S ?C
 case F =>
  intro w mg fa h KX G hmg
  have T:∃ t,My.Txt (L2.KOf KX) t:=by
   dsimp only [L2.KOf]                          -- K must stand as «<heap const> w.params» for k_is
   refine' My.txt_mk ?e1 ?e2 ?e3 ..
   (case e1=>PySem.W.k_is)                    -- in the order: a name -> its address -> its object -> its parts
   (case e2=>PySem.W.k_is)
   ..
  obtain ⟨t,T⟩:=T
  have e0:=hmg.symm.trans (PySem.W.mg_of KX G T.law)
  cases e0                                       -- fa is the law's own address
  exact ⟨_,fun s u=>.of_eq rfl,fun base kb nb=>My.law_fn T kb nb⟩     -- if «.of_eq rfl» comes too early: refine' ⟨_,?b,fun base kb nb=>My.law_fn T kb nb⟩; exact fun s u=>.of_eq rfl
 case S=>exact fun w H a ns hl hO hS=>..
 case C=>exact ..
(the tactic k_is has no namespace: write k_is) -/
namespace L2
open PySem PySem.Spec PyProof.Rows
abbrev CX0:CXT:=fun _ _ _ _ _ _=>False
abbrev E0:XK:=fun _ _ _=>False
theorem QF {X:Cx} : Passes CX0 X E0:=fun _ _ _ _ _ _ _ h=>h.elim
structure Fun (K:Frag) (x qual:Str) (st:Stmt) (f:Addr) (fd:FuncData):Prop where
 ex:∃ (oc:Value) (od:Option Addr) (kV doc pm:Value) (an:Option Addr) (cdv ct:Value) (osl:Array (Option Value)),
  fd = PySem.W.fnOf x qual (gA st) (eE st) (bN st) .none kV doc pm an cdv ct/\K.lookup f = some ⟨oc,od,.func fd,osl⟩/\PySem.W.codeIn K cdv qual = true
 kp:PySem.W.keepIn K (.ref f) = true
section
variable {P:Program} {w:World} {K:Frag} {mg:Str->Option Value} {base:Heap}
theorem Fun.ok {x qual:Str} {st:Stmt} {f:Addr} {fd:FuncData} {N ps:List Str} {k:Nat} {sp:Sp} (F:Fun K x qual st f fd) (S:bZ N ps (bN st)) (len:∀ vs H Q E,sp vs H Q E->vs.length = ps.length)
  (hbody:∀ (cdv:Value) (A:Around) (outer:List Env) (s:Shared) (H:Hp) (vs:List V) (Q:VK) (E:XK),gJ k (A.deeper (envOfC qual (bN st) s.heap.objs.size f cdv))->sp vs H Q E ->
   ∃ t,PSs (Dd CX0 P w K mg base N qual (bN st) f cdv A outer s H E).nox (eE st) t/\t { nx:=fun _ H'=>Q .non H',rt:=Q } (start N vs) H):cC P w K mg base CX0 (k + 1) f fd ps sp:=by
 obtain ⟨oc,od,kV,doc,pm,an,cdv,ct,osl,rfl,lk,hcd⟩:=F.ex
 refine WM lk hcd S len fun A outer s H vs Q E hr hsp=>?_
 obtain ⟨t,h,q⟩:=hbody cdv A outer s H vs Q E hr hsp
 exact ⟨t,h.nox,q⟩
theorem O8 {x qual:Str} {st:Stmt} {f:Addr} {oc:Value} {od an:Option Addr} {osl:Array (Option Value)} {kV doc pm cdv ct:Value} (l:K.lookup f = some ⟨oc,od,.func (PySem.W.fnOf x qual (gA st) (eE st) (bN st) .none kV doc pm an cdv ct),osl⟩)
  (c:PySem.W.codeIn K cdv qual = true) (k:PySem.W.keepIn K (.ref f) = true):Fun K x qual st f (PySem.W.fnOf x qual (gA st) (eE st) (bN st) .none kV doc pm an cdv ct):=⟨⟨oc,od,kV,doc,pm,an,cdv,ct,osl,rfl,l,c⟩,k⟩
end
theorem vL {A:Around} {k:Nat} (hr:gJ k A):A.units + 1 < cLine:=Nat.lt_of_le_of_lt (Nat.add_le_add_left (by decide:1 <= 64) _) hr.units
section
variable {X:Cx}
noncomputable def abJ (sc:Scope) (x:Str):Bool:=(sc.names.lookup x).any fun k=>k == .local || k == .cell || k == .free
theorem abE {sc:Scope} {x:Str} (h:abJ sc x = true):Vis sc x:=by
 unfold abJ at h
 unfold Vis
 cases e:sc.names.lookup x with
 | none=>rw [e] at h; cases h
 | some k=>rw [e] at h; cases k <;> first | exact .inl rfl | exact .inr (.inl rfl) | exact .inr (.inr rfl) | cases h
theorem pv (i:Nat) {x:Str} {pos:Pos} (hN:X.N[i]? = some x:=by rfl) (hv:abJ X.env.scope x = true:=by rfl) (hd:(x == ("__debug__" : Str)) = false:=by decide)
  (hcd:(x == ("__classdict__" : Str)) = false:=by decide):PE X (.Name x pos) (FZ i):=abl hN (abE hv) hd hcd
end
theorem ZW {c A B:Prop} [Decidable c] (h1:c->A) (h2:¬ c->B):if c then A else B:=by
 by_cases h:c
 .rw [if_pos h]
  exact h1 h
 .rw [if_neg h]
  exact h2 h
def Same (H H':Hp):Prop:=∀ b o,H b = some o->H' b = some o
theorem Same.refl (H:Hp):Same H H:=fun _ _ h=>h
theorem Same.trans {H H1 H2:Hp} (a:Same H H1) (b:Same H1 H2):Same H H2:=fun c o h=>b c o (a c o h)
theorem Same.free {H H':Hp} (e:Same H H') {l:Addr} (h:H' l = Option.none):H l = Option.none:=by
 cases q:H l with
 | none=>rfl
 | some o =>
  rw [e l o q] at h
  cases h
def Bd (i:Int):Prop:=i.natAbs < 2 ^ 8000
theorem Bd.log2 {i:Int} (h:Bd i):i.natAbs.log2 < 8000:=by
 by_cases h0:i.natAbs = 0
 .rw [h0,Nat.log2_zero]; omega
 .exact (Nat.log2_lt h0).mpr h
theorem Bd.bits {i:Int} (h:Bd i):Builtin.Int.intBits i <= 2 ^ 20:=by
 have e:(2:Nat) ^ 20 = 1048576:=by decide
 have:=h.log2
 unfold Builtin.Int.intBits
 split
 .exact bA _
 .omega
section
variable {X:Cx}
theorem cM:OpR X (binaryOp .Mult) (rI (fun i j=>Bd i/\Bd j) fun i j=>.int (i * j)):=opI fun _ _ _ _ _ _ _ hc q=>mul_int q (.of_bits hc.1.bits hc.2.bits)
theorem lg:OpR X (binaryOp .FloorDiv) (rI (fun _ j=>j ≠ 0/\Bd j) fun i j=>.int (i.fdiv j)):=opI fun _ _ _ _ _ _ _ hc q=>floordiv_int hc.1 q (.inl (PyProof.noPylong_of_log2 (by have:=hc.2.log2; omega)))
theorem M4:gj X (.builtin "isinstance") (fun xs H Q=>∃ x c cv t b,xs = [x,c]/\((∃ T,c = .ty T/\cv = Value.type T)\/∃ C,c = .ref C/\cv = Value.ref C)/\zM X.K H x t/\PySem.W.kitOne X.K t cv = some b/\Q (.bl b) H):=by
 intro pins s σ H xs us Q I r h
 obtain ⟨x,c,cv,t,b,rfl,rc,ty,e,q⟩:=h
 obtain ⟨u,v,rfl,ru,rv⟩:=r.two
 have e2:v = cv:=by
  rcases rc with ⟨T,rfl,rfl⟩ | ⟨T,rfl,rfl⟩
  .exact rv
  .exact rv
 subst e2
 exact RP I ru ty e fun tk=>⟨.bl b,H,I.tok _,rfl,q⟩
theorem Li:gj X (.builtin "sorted") (fun xs H Q=>∃ l ns,xs = [.ref l]/\SqL X.K H l (ns.map V.int)/\ns.length < 64/\∀ (ms:List Int) p,H p = none->ms.Perm ns->ms.Pairwise (· <= ·)->Q (.ref p) (upd H p (.lst (ms.map V.int)))):=by
 intro pins s σ H xs us Q I r h
 obtain ⟨l,ns,rfl,hl,h64,q⟩:=h
 obtain ⟨u,rfl,ru⟩:=r.one
 cases ru
 obtain ⟨its,rv,p,hz⟩:=I.list hl
 have hI:=intsAre_of rv
 have hlen:its.length = ns.length:=by have:=rv.length; simpa using this.symm
 refine sorted_ints (vs:=its) p.isList hI (by omega) fun out ns' a1 a2 a3=>?_
 obtain ⟨e,he⟩:=sortedAll_at s.heap its out
 have hfr:H (s.heap.objs.size + 1) = none:=I.hok.fresh (Nat.le_succ _)
 refine ⟨.ref _,_,I.laid (a:=s.heap.objs.size + 1) (o:=.lst (ns'.map V.int)) (t':=s.toks) (fun b u e=>sortedAll_old e) (Nat.le_succ _) ?_,rfl,q ns' _ hfr a2 a3⟩
 refine ⟨?_,out.toList,e,uR a1,he⟩
 rw [ao,a2.length_eq]
 rw [ao] at hz
 exact hz
end
section
variable {prog:Program} {w:World} {A:Around} {E:Value->Shared->Prop} {s:Shared}
theorem GC {it t:Addr} {items:Array Value} (hne:t ≠ it):∀ (n i:Nat) (s:Shared) (Q:List Value->Shared->Prop),s.heap.IsListIter it t i->PlainL s.heap t items->i + n <= items.size ->
  (∀ h',h'.IsListIter it t (i + n)->Heap.SameBut it s.heap h'->Q ((items.toList.drop i).take n) { s with heap:=h' })->wpAny (model prog w) A (draw (.ref it) n) Q E s
 | 0,i,s,Q,hit,_,_,hQ=>by
  show wpAny _ _ (pure []) Q E s
  exact wpAny_pure (by simpa using hQ s.heap hit (Heap.SameBut.refl ..))
 | n + 1,i,s,Q,hit,ht,hle,hQ=>by
  have hlt:i < items.size:=by omega
  show wpAny _ _ (pyNext (.ref it) >>= _) Q E s
  refine wpAny_bind (wpAny_pyNext_list_item hit ht.isList (x:=items[i]) (by simp [hlt]) fun h₁ hit₁ hs₁=>?_)
  have ht₁:PlainL h₁ t items:=by
   obtain ⟨o,k,e,r⟩:=ht
   exact ⟨o,k,(hs₁.2 t hne).trans e,r⟩
  refine wpAny_bind (wpAny_holding (GC hne n (i + 1) _ _ hit₁ ht₁ (by omega) fun h₂ hit₂ hs₂=>wpAny_pure ?_))
  have hd:items.toList.drop i = items[i] :: items.toList.drop (i + 1):=by simp [List.drop_eq_getElem_cons,hlt]
  have:=hQ h₂ (by rw [show i + (n + 1) = i + 1 + n by omega]; exact hit₂) (hs₁.trans hs₂)
  rw [hd,List.take_succ_cons] at this
  exact this
theorem zL {t:Addr} {items:Array Value} {Q:List Value->Shared->Prop} (hh:A.handled = none) (ht:PlainL s.heap t items)
  (hQ:∀ h',Heap.ExtBut s.heap.objs.size s.heap h'->Q items.toList { s with heap:=h' }):wpAny (model prog w) A (unpackItems (.ref t) items.size none) Q E s:=by
 have hlt:t ≠ s.heap.objs.size:=by obtain ⟨o,_,ho,_⟩:=ht; exact aU (aK ho)
 unfold unpackItems
 refine wpAny_bind ?_
 .unfold notIterableAtAll
  refine wpAny_bind (wpAny_specialOf ht.isList.typeIs slot_list_iter.lookup ?_)
  refine wpAny_pure ?_
  simp only [Bool.false_eq_true,if_false]
  refine wpAny_bind (wpAny_holding (wpAny_pyIter_list ht.isList ?_))
  have ht0:PlainL (s.heap.push { cls:=.type "list_iterator",data:=.fields #[.ref t,.int 0 0] }) t items:=by
   obtain ⟨o,k,e,r⟩:=ht
   exact ⟨o,k,aH _ e,r⟩
  refine wpAny_bind (wpAny_holding (GC hlt items.size 0 _ _ ⟨_,aZ _ rfl,rfl,rfl⟩ ht0 (by omega) fun h₁ hit₁ hs₁=>?_))
  have hall:List.take items.size (List.drop 0 items.toList) = items.toList:=by
   rw [List.drop_zero]; exact aM (by simp)
  rw [hall]
  rw [if_neg (by simp)]
  have ht₁:PlainL h₁ t items:=by
   obtain ⟨o,k,e,r⟩:=ht0
   exact ⟨o,k,(hs₁.2 t hlt).trans e,r⟩
  refine wpAny_bind (wpAny_holding (wpAny_pyNext_list_end hh hit₁ ht₁.isList (by simp) fun h₂ he₂=>?_))
  simp only [Option.isSome_none,Bool.false_eq_true,if_false]
  refine wpAny_pure (hQ h₂ fun b o hb e=>he₂ b o hb (hs₁.extBut b o hb (aH _ e)))
theorem yp {env:Env} {elts:List Expr} {x1} {pos:Pos} {t:Addr} {items:Array Value} {Q:Unit->Shared->Prop} (hh:A.handled = none) (ht:PlainL s.heap t items)
  (hn:(assignEach elts env).length = items.size) (hstar:(assignEach elts env).findIdx? (·.1) = none)
  (h:∀ h',Heap.ExtBut s.heap.objs.size s.heap h'->wpAny (model prog w) A (assignInOrder ((assignEach elts env).map (·.2)) items.toList) Q E { s with heap:=h' }) :
  wpAny (model prog w) A (assign (.Tuple elts x1 pos) env (.ref t)) Q E s:=by
 rw [assign_Tuple]
 refine wpAny_bind (wpAny_standAt ?_)
 unfold unpack
 rw [hn,hstar]
 exact wpAny_bind (wpAny_holding (zL hh ht h))
end
section
variable {X:Cx} {pos:Pos}
def adK (K:Frag) (n:Nat) (t:TGs):TG:=fun v σ H Q=>∃ a xs,v = .ref a/\SqL K H a xs/\xs.length = n/\t xs σ H Q
theorem aaA {es:List Expr} {k:Nat} {t:TGs} {n:Nat} (hc:X.calm = true) (h:PGs X es t)
  (hn:(assignEach es X.env).length = n:=by rfl) (hst:(assignEach es X.env).findIdx? (·.1) = none:=by rfl):PG X (.Tuple es k pos) (adK X.K n t):=by
 intro pins s σ H v u Q I r hw
 obtain ⟨a,xs,e1,hq,hl,hw⟩:=hw
 subst e1
 cases r
 obtain ⟨its,rv,ht,hz⟩:=I.list hq
 refine yp (I.ok.hd hc) ht (by simp [hn,<- hl,rv.length]) hst fun h' hx=>?_
 have I1:Inv X pins σ H { s with heap:=h' }:=I.kept (t':=s.toks) fun b o e=>hx b o (aU (aK e)) e
 exact h pins _ σ H xs _ Q I1 (by simpa using rv) hw
end
theorem dM.btw {P:Program} {w:World} {H H2 H':Hp} {h h':Heap} {a:Addr} {o:HO} (x:dM P w H h a o) (y:dM P w H' h' a o) (s1:Same H H2):dM P w H2 h' a o:=by
 induction o with
 | ins C dx fs=>exact ⟨s1 dx _ x.1,y.2⟩
 | frz ob u ih=>exact ⟨y.1,ih x.2 y.2⟩
 | _=>exact y
def Plus (H H2:Hp):Prop:=Same H H2/\∀ a o,H2 a = some o->H a = some o\/(∃ xs,o = .tup xs)\/∃ xs,o = .lst xs
theorem Plus.refl (H:Hp):Plus H H:=⟨Same.refl H,fun _ _ e=>.inl e⟩
theorem Plus.tup {H H1:Hp} {p:Addr} {xs:List V} (h:Plus H H1) (hp:H1 p = none):Plus H (upd H1 p (.tup xs)):=by
 refine ⟨fun b o e=>?_,fun a o e=>?_⟩
 .rw [bL (bI (h.1 b o e) hp)]; exact h.1 b o e
 .by_cases z:a = p
  .subst z; rw [bK] at e; cases e; exact .inr (.inl ⟨xs,rfl⟩)
  .rw [bL z] at e; exact h.2 a o e
theorem cC.forget {P:Program} {w:World} {K:Frag} {mg:Str->Option Value} {base:Heap} {CX:CXT} {k:Nat} {f:Addr} {fd:FuncData} {ps:List Str} {sp sp':Sp} (F:cC P w K mg base CX k f fd ps sp)
  (hs:∀ vs H Q E,sp' vs H Q E->∃ Q',sp vs H Q' E/\∀ v H',Q' v H'->∃ H2,Plus H H2/\Same H2 H'/\Q v H2):cC P w K mg base CX k f fd ps sp':=by
 refine ⟨fun vs H Q E h=>?_,fun A outer s H args us vs Q E hr e0 hb r h=>?_⟩
 .obtain ⟨Q',h',_⟩:=hs vs H Q E h
  exact F.len vs H Q' E h'
 obtain ⟨Q',h',hq⟩:=hs vs H Q E h
 refine codeAny_mono (F.run A outer s H args us vs _ E hr e0 hb r h') fun res s' hs=>?_
 cases res with
 | error e=>exact hs
 | ok fl =>
  cases fl with
  | ret u =>
   obtain ⟨v,H',ho,hbr,un,hok,rv,q'⟩:=hs
   obtain ⟨H2,⟨s1,cl⟩,s2,q⟩:=hq v H' q'
   have fr:∀ b,H' b = none->H2 b = none:=fun b e=>s2.free e
   refine ⟨v,H2,ho,hbr,⟨un.keep,un.slot,fun b o e n hx=>fr b (un.free b o e n hx),un.there,fun b xs e=>s1 b _ e,fun b o u e=>s1 b _ e,fun b ps e=>⟨#[],by rw [s1 b _ e]; simp⟩⟩,fun a o e=>?_,rv,q⟩
   have z:=hok a o (s2 a o e)
   rcases cl a o e with c | ⟨xs,rfl⟩ | ⟨xs,rfl⟩
   .exact (e0.hok a o c).btw z s1
   .exact z
   .exact z
  | next=>exact hs
  | brk=>exact hs
  | cont=>exact hs
theorem cC.clean {P:Program} {w:World} {K:Frag} {mg:Str->Option Value} {base:Heap} {CX:CXT} {k:Nat} {f:Addr} {fd:FuncData} {ps:List Str} {sp sp':Sp} (F:cC P w K mg base CX k f fd ps sp)
  (h:∀ vs H Q E,sp' vs H Q E->sp vs H (fun v H'=>Same H H'/\Q v H) E):cC P w K mg base CX k f fd ps sp' :=
 F.forget fun vs H Q E hs=>⟨_,h vs H Q E hs,fun v H' ⟨s,q⟩=>⟨H,Plus.refl H,s,q⟩⟩
theorem Same.upd {H:Hp} {p:Addr} {o:HO} (hp:H p = none):Same H (upd H p o):=fun b u e=>by
 rw [bL (bI e hp)]; exact e
theorem cC.cleanP {P:Program} {w:World} {K:Frag} {mg:Str->Option Value} {base:Heap} {CX:CXT} {k:Nat} {f:Addr} {fd:FuncData} {ps:List Str} {sp sp':Sp} (F:cC P w K mg base CX k f fd ps sp)
  (h:∀ vs H Q E,sp' vs H Q E->sp vs H (fun v H'=>Same H H'/\∃ p xs,H' p = some (.tup xs)/\H p = none/\Q v (upd H p (.tup xs))) E):cC P w K mg base CX k f fd ps sp' :=
 F.forget fun vs H Q E hs=>⟨_,h vs H Q E hs,fun v H' ⟨s,p,xs,e,z,q⟩=>by
  refine ⟨_,(Plus.refl H).tup (xs:=xs) z,fun b o y=>?_,q⟩
  by_cases c:b = p
  .subst c; rw [bK] at y; cases y; exact e
  .rw [bL c] at y; exact s b o y⟩
section
variable {X:Cx}
theorem IxR.imp {r r':R2} (h:IxR X r) (i:∀ x y H Q,r' x y H Q->r x y H Q):IxR X r':=by
 intro b pos pins s σ H x y v u Q I rx ry q hs
 exact h _ _ _ _ _ _ _ _ _ _ _ I rx ry (i _ _ _ _ q) hs
def Qy:R2:=fun x y H Q=>∃ p xs i v,x = .ref p/\y = .int i/\H p = some (.tup xs)/\atI xs i = some v/\Q v H
def Ks:R2:=fun x y H Q=>∃ p xs i v,x = .ref p/\y = .int i/\H p = some (.lst xs)/\atI xs i = some v/\Q v H
theorem cW:IxR X Qy:=cJ.imp fun x y H Q ⟨p,xs,i,v,a,b,c,d⟩=>⟨p,xs,i,v,a,b,.of c,d⟩
theorem bY:IxR X Ks:=aaz.imp fun x y H Q ⟨p,xs,i,v,a,b,c,d⟩=>⟨p,xs,i,v,a,b,.of c,d⟩
theorem dB {α:Type} {x:α} {xs:List α} : atI (x :: xs) 0 = some x:=cg (j:=0) rfl
theorem cV {α:Type} {x y:α} {xs:List α} : atI (x :: y :: xs) 1 = some y:=cg (j:=1) rfl
theorem gj.imp {f:Value} {r r':List V->Hp->VK->Prop} (h:gj X f r) (i:∀ xs H Q,r' xs H Q->r xs H Q):gj X f r':=fun pins s σ H xs us Q I rx q=>h pins s σ H xs us Q I rx (i _ _ _ q)
def Uq:List V->Hp->VK->Prop:=fun xs H Q=>∃ p ys,xs = [.ref p]/\H p = some (.tup ys)/\Q (.int ys.length) H
def Qc:List V->Hp->VK->Prop:=fun xs H Q=>∃ p ys,xs = [.ref p]/\H p = some (.lst ys)/\Q (.int ys.length) H
theorem d_:gj X (.builtin "len") Qc:=wH.imp fun xs H Q ⟨p,ys,a,b,c⟩=>⟨p,ys,a,.inl (.of b),c⟩
def tyS (H:Hp):V->Option String
 | .non=>some "NoneType"
 | .bl _=>some "bool"
 | .int _=>some "int"
 | .str _=>some "str"
 | .ref a=>match H a with
  | some (.lst _)=>some "list"
  | some (.tup _)=>some "tuple"
  | some (.dK _)=>some "dict"
  | _=>none
 | _=>none
theorem abM {K:Frag} {H:Hp} {x:V} {t:String} (h:tyS H x = some t):zM K H x (.type t):=by
 cases x with
 | non=>cases h; exact .non
 | bl=>cases h; exact .bl _
 | int=>cases h; exact .int _
 | str=>cases h; exact .str _
 | byt=>cases h
 | flt=>cases h
 | ty=>cases h
 | ref a =>
  have h:(match H a with
   | some (.lst _)=>some "list"
   | some (.tup _)=>some "tuple"
   | some (.dK _)=>some "dict"
   | _=>none) = some t:=h
  split at h
  .cases h; exact .lst (by assumption)
  .cases h; exact .tup (by assumption)
  .cases h; exact .dK (by assumption)
  .cases h
def Te (t T:String):Bool:=(t == T) || (t == "bool" && T == "int")
theorem Rg {K:Frag} {t T:String} (ht:t ∈ ["NoneType", "bool", "int", "str", "list", "tuple", "dict"]) (hT:T ∈ ["bool", "int", "str", "list", "tuple", "dict"]):PySem.W.kitOne K (.type t) (.type T) = some (Te t T):=by
 simp only [List.mem_cons,List.not_mem_nil,or_false] at ht hT
 rcases ht with rfl | rfl | rfl | rfl | rfl | rfl | rfl <;> rcases hT with rfl | rfl | rfl | rfl | rfl | rfl <;> with_unfolding_all rfl
theorem Us {H:Hp} {x:V} {t:String} (h:tyS H x = some t):t ∈ ["NoneType", "bool", "int", "str", "list", "tuple", "dict"]:=by
 cases x with
 | non=>cases h; decide
 | bl=>cases h; decide
 | int=>cases h; decide
 | str=>cases h; decide
 | byt=>cases h
 | flt=>cases h
 | ty=>cases h
 | ref a =>
  have h:(match H a with
   | some (.lst _)=>some "list"
   | some (.tup _)=>some "tuple"
   | some (.dK _)=>some "dict"
   | _=>none) = some t:=h
  split at h <;> cases h <;> decide
def Y_:List V->Hp->VK->Prop:=fun xs H Q=>∃ x T t,xs = [x,.ty T]/\T ∈ ["bool", "int", "str", "list", "tuple", "dict"]/\tyS H x = some t/\Q (.bl (Te t T)) H
theorem lV:gj X (.builtin "isinstance") Y_:=M4.imp fun xs H Q ⟨x,T,t,a,b,c,d⟩=>⟨x,.ty T,.type T,.type t,_,a,.inl ⟨T,rfl,rfl⟩,abM c,Rg (Us c) b,d⟩
theorem PG.imp {e:Expr} {t t':TG} (h:PG X e t) (i:∀ v σ H Q,t' v σ H Q->t v σ H Q):PG X e t':=fun pins s σ H v u Q I r q=>h pins s σ H v u Q I r (i _ _ _ _ q)
def Qs (n:Nat) (t:TGs):TG:=fun v σ H Q=>∃ a xs,v = .ref a/\H a = some (.tup xs)/\xs.length = n/\t xs σ H Q
def Qx (n:Nat) (t:TGs):TG:=fun v σ H Q=>∃ a xs,v = .ref a/\H a = some (.lst xs)/\xs.length = n/\t xs σ H Q
theorem iD {es:List Expr} {k:Nat} {t:TGs} {n:Nat} {pos:Pos} (hc:X.calm = true) (h:PGs X es t) (hn:(assignEach es X.env).length = n:=by rfl) (hst:(assignEach es X.env).findIdx? (·.1) = none:=by rfl):PG X (.Tuple es k pos) (Qs n t) :=
 (abz hc h hn hst).imp fun v σ H Q ⟨a,xs,e1,e2,e3⟩=>⟨a,xs,e1,.of e2,e3⟩
theorem Zg {es:List Expr} {k:Nat} {t:TGs} {n:Nat} {pos:Pos} (hc:X.calm = true) (h:PGs X es t) (hn:(assignEach es X.env).length = n:=by rfl) (hst:(assignEach es X.env).findIdx? (·.1) = none:=by rfl):PG X (.Tuple es k pos) (Qx n t) :=
 (aaA hc h hn hst).imp fun v σ H Q ⟨a,xs,e1,e2,e3⟩=>⟨a,xs,e1,.of e2,e3⟩
def QZ:List V->Hp->VK->Prop:=fun xs H Q=>∃ l ns,xs = [.ref l]/\H l = some (.lst (ns.map V.int))/\ns.length < 64/\∀ (ms:List Int) p,H p = none->ms.Perm ns->ms.Pairwise (· <= ·)->Q (.ref p) (upd H p (.lst (ms.map V.int)))
theorem Tc:gj X (.builtin "sorted") QZ:=Li.imp fun xs H Q ⟨l,ns,a,b,c⟩=>⟨l,ns,a,.of b,c⟩
theorem Ht {H:Hp} : tyS H .non = some "NoneType" := rfl
theorem N8 {H:Hp} {b:Bool} : tyS H (.bl b) = some "bool" := rfl
theorem yC {H:Hp} {i:Int} : tyS H (.int i) = some "int" := rfl
theorem Hl {H:Hp} {x:Str} : tyS H (.str x) = some "str" := rfl
theorem YL {H:Hp} {p:Addr} {xs:List V} (h:H p = some (.tup xs)):tyS H (.ref p) = some "tuple" := by
 show (match H p with
   | some (.lst _)=>some "list"
   | some (.tup _)=>some "tuple"
   | some (.dK _)=>some "dict"
   | _=>none) = _
 rw [h]
theorem Ri {H:Hp} {p:Addr} {xs:List V} (h:H p = some (.lst xs)):tyS H (.ref p) = some "list" := by
 show (match H p with
   | some (.lst _)=>some "list"
   | some (.tup _)=>some "tuple"
   | some (.dK _)=>some "dict"
   | _=>none) = _
 rw [h]
def Ku:V->Option Bool
 | .bl b=>some b
 | .int i=>some (i != 0)
 | .non=>some false
 | _=>none
theorem Zb {K:Frag} {x:V} {H:Hp} {k:Bool} (h:Ku x = some k):afP K x H k:=by
 cases x <;> cases h <;> rfl
def Ph (ta:TE):TT:=fun σ H Q=>ta σ H fun x H'=>∃ k,Ku x = some k/\Q k H'
theorem dz {a:Expr} {ta:TE} (ha:PE X a ta) (he:∀ whole,isTrue a X.env whole = (do let v <- whole; standAt a.pos; holding [v] (truthy v))):PT X a (Ph ta):=by
 intro pins s σ H Q I h
 exact isTrue_plain (thn (ha pins s σ H _ I h) fun v s1 ⟨x,H1,I1,r1,k,e,q1⟩=>abu pins s1 σ H1 x v Q I1 r1 ⟨k,Zb e,q1⟩) (he _)
end
def OkF (P:Program) (w:World) (K:Frag) (mg:Str->Option Value) (base:Heap) (k:Nat) (x:Str) (ps:List Str) (sp:Sp):Prop :=
 ∃ f fd,cC P w K mg base CX0 k f fd ps sp/\Binds K fd ps []/\mg x = some (.ref f)/\PySem.W.keepIn K (.ref f) = true
def dU (K:Frag) (mg:Str->Option Value) (x:Str) (st:Stmt) (ps:List Str):Prop :=
 ∃ f fd,Fun K x x st f fd/\(∀ us:List Value,us.length = ps.length->bindArgs fd ⟨us,[]⟩ = pure (ps.zip us))/\mg x = some (.ref f)
theorem dU.ok {P:Program} {w:World} {K:Frag} {mg:Str->Option Value} {base:Heap} {k:Nat} {x:Str} {st:Stmt} {ps:List Str} {sp:Sp} (h:dU K mg x st ps)
  (hf:∀ f fd,Fun K x x st f fd->cC P w K mg base CX0 k f fd ps sp):OkF P w K mg base k x ps sp:=by
 obtain ⟨f,fd,a,b,c⟩:=h
 exact ⟨f,fd,hf f fd a,.all b,c,a.kp⟩
theorem aaj {K:Frag} {h:Heap} {mg:Str->Option Value} {x:Str} {st:Stmt} {ps:List Str} {f:Addr} {oc:Value} {od an:Option Addr} {osl:Array (Option Value)} {kV doc pm cdv ct:Value} (X:K.In h) (G:h.Ns mainGlobals mg)
  (a:PySem.W.nsIn K mainGlobals x = some (some (.ref f))) (l:K.lookup f = some ⟨oc,od,.func (PySem.W.fnOf x x (gA st) (eE st) (bN st) .none kV doc pm an cdv ct),osl⟩)
  (c:PySem.W.codeIn K cdv x = true) (k:PySem.W.keepIn K (.ref f) = true)
  (hb:∀ (kV doc pm:Value) (an:Option Addr) (cdv ct:Value) (us:List Value),us.length = ps.length->bindArgs (PySem.W.fnOf x x (gA st) (eE st) (bN st) .none kV doc pm an cdv ct) ⟨us,[]⟩ = pure (ps.zip us)):dU K mg x st ps :=
 ⟨f,_,O8 l c k,hb kV doc pm an cdv ct,PySem.W.mg_of X G a⟩
section
variable {X:Cx} {p pos:Pos} {e:Expr} {es:List Expr} {t:TA} {x:Str} {k:Nat} {ps:List Str} {sp:Sp}
def zF (sp:Sp) (t:TA):TE:=fun σ H Q=>t σ H fun vs H1=>sp vs H1 Q E0
theorem bQ (G:OkF X.prog X.w X.K X.mg X.base k x ps sp) (hr:gJ k X.A) (hg:Gl X x) (ha:PA X (e :: es) t) (hdb:(x == ("__debug__" : Str)) = false:=by decide)
  (he:starEach (e :: es) X.env = (false,eval e X.env) :: starEach es X.env:=by rfl) (hpl:(backTo pos (starEach es X.env)).any (·.1) = false:=by rfl):PE X (.Call (.Name x p) (e :: es) [] pos) (zF sp t):=by
 obtain ⟨f,fd,F,b,hm,kp⟩:=G
 intro pins s σ H Q I h
 refine YK F hr hg hm kp b .nil QF ha hdb he hpl pins s σ H Q I ?_
 show t σ H fun vs H1=>sp (vs ++ []) H1 Q E0
 simp only [List.append_nil]
 exact h
end
theorem Kh (a:Int):(if a < 0 then -a else a) = ((a.natAbs:Nat):Int):=by split <;> omega
theorem XD {ms:List Int} {x y:Int} (h:ms.Perm [x,y]):ms = [x,y]\/ms = [y,x]:=by
 match ms,h.length_eq with
 | [l,k],_ =>
  have h1:l ∈ [x,y]:=h.mem_iff.mp (by simp)
  simp only [List.mem_cons,List.not_mem_nil,or_false] at h1
  rcases h1 with rfl | rfl
  .have h2:=(List.perm_cons l).mp h
   have h3:=h2.mem_iff.mp (aP)
   simp only [List.mem_cons,List.not_mem_nil,or_false] at h3
   exact .inl (by rw [h3])
  .have h2:=(List.perm_cons l).mp (h.trans (List.Perm.swap ..))
   have h3:=h2.mem_iff.mp (aP)
   simp only [List.mem_cons,List.not_mem_nil,or_false] at h3
   exact .inr (by rw [h3])
theorem xH (a b:Nat):Int.fmod (a:Int) (b:Int) = ((a % b:Nat):Int):=by
 rw [aY _ (Int.natCast_nonneg b)]; rfl
theorem qd (a:Int) {b:Int} (h:0 < b):Int.fdiv a b = a / b:=Int.fdiv_eq_ediv_of_nonneg a (Int.le_of_lt h)
theorem Bd.div {a b:Int} (h:Bd a) (hb:0 < b):Bd (a / b):=by
 unfold Bd at *
 refine Nat.lt_of_le_of_lt ?_ h
 have e:=Int.mul_ediv_add_emod a b
 have r0:=Int.emod_nonneg a (show b ≠ 0 by omega)
 have r1:=Int.emod_lt_of_pos a hb
 generalize a / b = q at *
 generalize a % b = r at *
 rcases (by omega:q = 0\/1 <= q\/q <= -1) with z | z | z
 .subst z; simp
 .have:=Int.mul_le_mul_of_nonneg_right (show 1 <= b by omega) (show 0 <= q by omega)
  omega
 .have h1:b * (q + 1) <= 1 * (q + 1):=Int.mul_le_mul_of_nonpos_right (show 1 <= b by omega) (show q + 1 <= 0 by omega)
  rw [Int.mul_add] at h1
  omega
def TrD (h base:Heap) (e:Addr) (cls:Value) (d:Option Addr) (fl:Value):Prop :=
 ∃ oe vs T oT ts,h.get? e = some oe/\(oe.cls = cls/\oe.dict = d)/\oe.data = .fields vs/\vs[1]? = some (.ref T)/\base.get? T = none/\T ≠ e/\h.get? T = some oT/\oT.data = .fields ts/\ts[3]? = some fl
def rT (base:Heap) (l:List Env) (e:Addr) (cls:Value) (d:Option Addr) (fl:Value) (h:Heap):Prop :=
 base.StaysIn h/\base.get? e = none/\h.FunFrames base l/\TrD h base e cls d fl
theorem rT.first {base h:Heap} {l:List Env} {e:Addr} {cls fl:Value} {d:Option Addr} (x:rT base l e cls d fl h):∃ oe vs,h.get? e = some oe/\oe.cls = cls/\oe.dict = d/\oe.data = .fields vs :=
 let ⟨_,_,_,oe,vs,_,_,_,he,hc,hd,_⟩:=x; ⟨oe,vs,he,hc.1,hc.2,hd⟩
section
variable {M:Model} {A:Around} {E:Value->Shared->Prop} {s:Shared} {base:Heap} {env:Env} {outer l:List Env} {L e:Addr} {cls:Value} {d:Option Addr} {Q:Unit->Shared->Prop}
theorem Ej (o:Obj) (f:Array Value->Array Value):(Obj.mapFields f o).dict = o.dict:=by
 unfold Obj.mapFields
 split <;> rfl
theorem Wu {oe:Obj} {vs:Array Value} {head:Value} {hadNext:Bool} (hfr:A.frames = some (env :: outer)) (hl:s.heap.FunFrames base (env :: outer)) (hf:env.frame = some L) (he:s.heap.get? e = some oe)
  (hkb:base.StaysIn s.heap) (hen:base.get? e = none) (hd:oe.data = .fields vs) (hsz:1 < vs.size) (h:∀ h',rT base (env :: outer) e oe.cls oe.dict (rawInt L) h'->s.heap.UpToSlots h'->Q () { s with heap:=h' }) :
  wpAny M A (do let a <- frameOf env; let pl <- entryPlaceOf L hadNext; let b <- EntryCells.newEntry head a .none (rawInt L) .none pl; setField (.ref e) 1 b) Q E s:=by
 have nofr:e ∉ (env :: outer).filterMap (·.frame):=fun z=>by
  obtain ⟨_,o,ho,hnf⟩:=hl.mem z
  rw [he] at ho; cases ho; exact hnf vs hd
 refine wpAny_bind (wpAny_frameOf_fun hfr hl hf fun g hg=>wpAny_bind (wpAny_entryPlaceOf fun pl hpl=>?_))
 unfold EntryCells.newEntry newFields
 refine wpAny_bind (wpAny_newObj_type ?_ (hpl.sizeOk5 _ _ _ _ _))
 have eg:g.get? e = some oe:=(hg.2.1 e nofr).trans he
 have kg:base.StaysIn g:=fun b o q=>(hg.2.1 b fun z=>by rw [(hl.mem z).1] at q; cases q).trans (hkb b o q)
 generalize ho':({ cls:=.type "traceback",dict:=none,data:=.fields ([head,.ref L,.none,rawInt L,.none] ++ (if pl.isEmpty then List.replicate 6 Value.none else pl)).toArray } : Obj) = ot
 have nTe:g.objs.size ≠ e:=Nat.ne_of_gt (aK eg)
 have e2:(g.push ot).get? e = some oe:=aH _ eg
 refine wpAny_setField e2 hd hsz (h _ ?_ ?_)
 all_goals
  have d3:=Obj.data_mapFields hd (·.setIfInBounds 1 (Value.ref g.objs.size))
  have e3:=Heap.get?_update_self (Obj.mapFields (·.setIfInBounds 1 (Value.ref g.objs.size))) e2 (Obj.isFreed_of_fields d3)
  have keep:∀ b o,b ≠ e->g.get? b = some o->((g.push ot).update e (Obj.mapFields (·.setIfInBounds 1 (Value.ref g.objs.size)))).get? b = some o:=fun b o nb q=>by
   rw [Heap.get?_update_other _ _ (Ne.symm nb)]; exact aH _ q
  have nr:∀ b o,s.heap.get? b = some o->(∀ ws,o.data ≠ .fields ws)->b ≠ e:=fun b o q nf z=>by
   rw [z,he] at q; cases q; exact nf vs hd
 .refine ⟨fun b o q=>keep b o (fun z=>by rw [z,hen] at q; cases q) (kg b o q),hen,hl.of_keeps fun b o q nf=>?_,?_⟩
  .obtain ⟨sl,z⟩:=hg.2.2 b o q
   exact ⟨_,keep b _ (nr b o q nf) z,rfl⟩
  .refine ⟨_,_,g.objs.size,ot,_,e3,⟨Obj.cls_mapFields _ _,Ej _ _⟩,d3,by simp [hsz],kg.fresh,nTe,?_,by rw [<- ho'],?_⟩
   .rw [Heap.get?_update_other _ _ (Ne.symm nTe)]; exact aZ g (by rw [<- ho']; rfl)
   .first | (simp; done) | (rcases hpl with rfl | ⟨_,_,_,_,_,_,_,rfl⟩ <;> simp)
 .intro b o q nf
  obtain ⟨sl,z⟩:=hg.2.2 b o q
  exact ⟨sl,keep b _ (nr b o q nf) z⟩
theorem Pq {oe:Obj} {vs:Array Value} (hfr:A.frames = some (env :: outer)) (hl:s.heap.FunFrames base (env :: outer)) (hf:env.frame = some L) (he:s.heap.get? e = some oe)
  (hkb:base.StaysIn s.heap) (hen:base.get? e = none) (hd:oe.data = .fields vs) (h1:vs[1]? = some .none) (h:∀ h',rT base (env :: outer) e oe.cls oe.dict (rawInt L) h'->s.heap.UpToSlots h'->Q () { s with heap:=h' }) :
  wpAny M A (noteFrame (.ref e) env) Q E s:=by
 unfold noteFrame
 simp only [hf]
 refine wpAny_bind (wpAny_field he hd h1 ?_)
 rw [if_neg (by decide)]
 exact Wu hfr hl hf he hkb hen hd (Array.getElem?_eq_some_iff.mp h1).1 h
theorem Gm (hfr:A.frames = some (env :: outer)) (hf:env.frame = some L) (x:rT base (env :: outer) e cls d .none s.heap)
  (h:∀ h',rT base (env :: outer) e cls d (rawInt L) h'->s.heap.UpToSlots h'->Q () { s with heap:=h' }):wpAny M A (noteFrame (.ref e) env) Q E s:=by
 obtain ⟨hkb,hen,hl,oe,vs,T,oT,ts,he,⟨hc,hdd⟩,hd,h1,nT,nTe,hT,hdT,h3⟩:=x
 subst hc hdd
 unfold noteFrame
 simp only [hf]
 refine wpAny_bind (wpAny_field he hd h1 ?_)
 rw [if_pos (show (Value.ref T != Value.none) = true from by simp)]
 refine wpAny_bind (wpAny_field hT hdT h3 ?_)
 rw [if_neg (show ¬ ((Value.none == rawInt L) = true) from by simp [rawInt])]
 refine wpAny_bind (wpAny_setField hT hdT (Array.getElem?_eq_some_iff.mp h3).1 ?_)
 have other:∀ b,b ≠ T->(s.heap.update T (Obj.mapFields (·.setIfInBounds 3 Value.none))).get? b = s.heap.get? b:=fun b hb=>Heap.get?_update_other _ _ (Ne.symm hb)
 have nr:∀ b o,s.heap.get? b = some o->(∀ ws,o.data ≠ .fields ws)->b ≠ T:=fun b o q nf z=>by
  rw [z,hT] at q; cases q; exact nf ts hdT
 refine Wu (s:={ s with heap:=_ }) hfr (hl.of_keeps fun b o q nf=>⟨o,(other b (nr b o q nf)).trans q,rfl⟩) hf ((other e (Ne.symm nTe)).trans he)
  (fun b o q=>(other b fun z=>by rw [z,nT] at q; cases q).trans (hkb b o q)) hen hd (Array.getElem?_eq_some_iff.mp h1).1 fun h' y up=>h h' y fun b o q nf=>up b o ((other b (nr b o q nf)).trans q) nf
theorem Q6 {fl:Value} (x:rT base l e cls d fl s.heap) (h:∀ h',rT base l e cls d .none h'->s.heap.UpToSlots h'->Q () { s with heap:=h' }):wpAny M A (setFlight (.ref e) none) Q E s:=by
 obtain ⟨hkb,hen,hl,oe,vs,T,oT,ts,he,hc,hd,h1,nT,nTe,hT,hdT,h3⟩:=x
 have z3:3 < ts.size:=(Array.getElem?_eq_some_iff.mp h3).1
 have other:∀ b,b ≠ T->(s.heap.update T (Obj.mapFields (·.setIfInBounds 3 ((none:Option Addr).elim Value.none fun f=>rawInt f)))).get? b = s.heap.get? b:=fun b hb=>Heap.get?_update_other _ _ (Ne.symm hb)
 have nr:∀ b o,s.heap.get? b = some o->(∀ ws,o.data ≠ .fields ws)->b ≠ T:=fun b o q nf z=>by
  rw [z,hT] at q; cases q; exact nf ts hdT
 unfold setFlight
 refine wpAny_bind (wpAny_field he hd h1 ?_)
 rw [if_pos (show (Value.ref T != Value.none) = true from by simp)]
 refine wpAny_setField hT hdT z3 (h _ ⟨fun b o q=>(other b fun z=>by rw [z,nT] at q; cases q).trans (hkb b o q),hen,hl.of_keeps fun b o q nf=>⟨o,(other b (nr b o q nf)).trans q,rfl⟩,?_⟩ fun b o q nf=>⟨o.slots,(other b (nr b o q nf)).trans q⟩)
 exact ⟨oe,vs,T,_,_,(other e (Ne.symm nTe)).trans he,hc,hd,h1,nT,nTe,Heap.get?_update_self _ hT (Obj.isFreed_of_fields (Obj.data_mapFields hdT _)),Obj.data_mapFields hdT _,by simp [z3]⟩
theorem rT.pop {fl:Value} {h:Heap} (x:rT base (env :: outer) e cls d fl h):rT base outer e cls d fl h:=⟨x.1,x.2.1,x.2.2.1.2.2,x.2.2.2⟩
theorem Xm (hfr:A.frames = some (env :: outer)) (hf:env.frame = some L) (x:rT base (env :: outer) e cls d .none s.heap)
  (h:∀ h',rT base outer e cls d .none h'->s.heap.UpToSlots h'->Q () { s with heap:=h' }):wpAny M A (leaving env (.ref e)) Q E s:=by
 unfold leaving
 exact wpAny_bind (Gm hfr hf x fun h1 y up=>Q6 y fun h2 z up2=>h h2 z.pop (up.trans up2))
theorem S_ {h0:Heap} {oe:Obj} {vs:Array Value} (hfr:A.frames = some (env :: outer)) (hf:env.frame = some L) (hkb:base.StaysIn h0) (hl:h0.FunFrames base (env :: outer)) (keeps:∀ b o,h0.get? b = some o->s.heap.get? b = some o)
  (new:h0.get? e = none) (he:s.heap.get? e = some oe) (hd:oe.data = .fields vs) (h1:vs[1]? = some .none)
  (h:∀ h',rT base outer e oe.cls oe.dict .none h'->s.heap.UpToSlots h'->Q () { s with heap:=h' }):wpAny M A (leaving env (.ref e)) Q E s:=by
 have hen:base.get? e = none:=by
  cases q:base.get? e with
  | none=>rfl
  | some o=>have:=hkb e o q; rw [new] at this; cases this
 unfold leaving
 exact wpAny_bind (Pq hfr (hl.of_keeps fun b o q _=>⟨o,keeps b o q,rfl⟩) hf he (fun b o q=>keeps b o (hkb b o q)) hen hd h1 fun h1 y up=>Q6 y fun h2 z up2=>h h2 z.pop (up.trans up2))
end
theorem dM.there {P:Program} {w:World} {H:Hp} {h:Heap} {a:Addr} {o:HO} (x:dM P w H h a o):∃ ob,h.get? a = some ob:=by
 cases o with
 | lst xs=>obtain ⟨_,_,_,_,e⟩:=x; exact ⟨_,e⟩
 | tup xs=>obtain ⟨_,_,_,o,e,_⟩:=x; exact ⟨_,e⟩
 | dK kvs=>obtain ⟨_,_,_,_,o,_,_,e,_⟩:=x; exact ⟨_,e⟩
 | set S n=>obtain ⟨o,_,_,_,e,_⟩:=x; exact ⟨_,e⟩
 | ins C dx fs=>obtain ⟨_,_,_,e,_⟩:=x; exact ⟨_,e⟩
 | own y=>exact x
 | xd fs=>obtain ⟨_,⟨_,_,_,e,_⟩,_⟩:=x; exact ⟨_,e⟩
 | rng lo hi=>obtain ⟨_,_,_,e⟩:=x; exact ⟨_,e⟩
 | frz ob u=>obtain ⟨e,_⟩:=x; exact ⟨_,e⟩
 | tbl ps=>exact ⟨_,(show h.get? a = some _ from x)⟩
 | met f y=>exact ⟨_,(show h.get? a = some _ from x)⟩
 | ext φ=>obtain ⟨_,e,_⟩:=x; exact e
structure Fly (P:Program) (w:World) (l:List Env) (H:Hp) (s:Shared) (a:Addr) (C:Value) (H':Hp) (s':Shared) (B:Heap) (d:Option Addr):Prop where
 os:s'.os = s.os
 bare:AllBare s'.gens
 new:s.heap.get? a = none
 un:Un (frs l) [] H H' s.heap s'.heap
 hok:HOk P w H' s'.heap
 frf:∀ b ∈ frs l,H' b = none
 fl:rT B l a C d .none s'.heap
 cov:∀ b o,s'.heap.get? b = some o->b ∉ frs l->((∃ u,s.heap.get? b = some u)\/∃ u,H' b = some u)->B.get? b = some o
section
variable {P:Program} {w:World} {l:List Env} {H H':Hp} {s s':Shared} {a:Addr} {C:Value} {B:Heap} {d:Option Addr} {h':Heap}
theorem Fly.trk (F:Fly P w l H s a C H' s' B d) {b:Addr} {u:HO} {o:Obj} (e:H' b = some u) (q:s'.heap.get? b = some o):B.get? b = some o :=
 F.cov b o q (fun z=>by rw [F.frf b z] at e; cases e) (.inr ⟨u,e⟩)
theorem Fly.hok' (F:Fly P w l H s a C H' s' B d) (k:∀ b o,B.get? b = some o->h'.get? b = some o):HOk P w H' h':=fun b u e =>
 (F.hok b u e).stay (fun c v hc q=>k c v (by
  rcases hc with z | z
  .subst z; exact F.trk e q
  .exact F.trk z q)) (fun _ q=>q) fun _ _ q=>q
theorem Fly.un' (F:Fly P w l H s a C H' s' B d) (k:∀ b o,B.get? b = some o->h'.get? b = some o) (up:s'.heap.UpToSlots h'):Un (frs l) [] H H' s.heap h':=by
 have nf:∀ b ∈ frs l,∀ o,s'.heap.get? b = some o->∀ vs,o.data ≠ .fields vs:=fun b hb o e=>by
  obtain ⟨_,o',e',d⟩:=F.fl.2.2.1.mem hb
  rw [e] at e'
  cases e'
  exact d
 refine ⟨fun b o q n hb hx=>k b o (F.cov b o (F.un.keep b o q n hb hx) hb (.inl ⟨o,q⟩)),fun b o q n hb hx=>?_,F.un.free,fun b o q hx=>?_,F.un.tups,F.un.frzs,F.un.tbls⟩
 .obtain ⟨sl,e⟩:=F.un.slot b o q n hb hx
  obtain ⟨sl',e'⟩:=up b _ e (nf b hb _ e)
  exact ⟨sl',e'⟩
 .obtain ⟨o',e⟩:=F.un.there b o q hx
  by_cases hb:b ∈ frs l
  .obtain ⟨sl',e'⟩:=up b _ e (nf b hb _ e)
   exact ⟨_,e'⟩
  .exact ⟨o',k b o' (F.cov b o' e hb (.inl ⟨o,q⟩))⟩
end
section
variable {X:Cx} {pins:List (Addr × Obj)} {σ:List (Option V)} {H H':Hp} {s s':Shared} {a:Addr} {C:Value} {B:Heap} {d:Option Addr} {h':Heap}
theorem Inv.flown (I:Inv X pins σ H s) (F:Fly X.prog X.w X.stack H s a C H' s' B d) (k:∀ b o,B.get? b = some o->h'.get? b = some o) (up:s'.heap.UpToSlots h'):Inv X pins σ H' { s' with heap:=h' } :=
 I.call' (s':={ s' with heap:=h' }) (ch:=[]) F.os (F.un' k up) (F.hok' k) F.bare fun _ z=>nomatch z
theorem Inv.old (I:Inv X pins σ H s) (hx:X.ex = []) {b:Addr} {o:Obj} (e:X.s₀.heap.get? b = some o):(∃ u,s.heap.get? b = some u)/\b ≠ X.env.locals:=by
 obtain ⟨u,q⟩:=I.base.there b o e (by rw [hx]; simp)
 exact ⟨⟨u,q⟩,aU (aV (aK e) I.ok.above)⟩
theorem Inv.nostk (I:Inv X pins σ H s) {b:Addr} (h1:b ≠ X.env.locals) (h2:b ∉ X.fs):b ∉ frs X.stack:=fun z=>by
 rcases List.mem_cons.mp (I.stkSub b z) with e | e
 .exact h1 e
 .exact h2 e
theorem Inv.flyOut (I:Inv X pins σ H s) (hx:X.ex = []) (F:Fly X.prog X.w X.stack H s a C H' s' B d) (fl:rT B X.outer a C d .none h') (up:s'.heap.UpToSlots h') :
  Fly X.prog X.w X.outer X.H₀ X.s₀ a C H' { s' with heap:=h' } B d:=by
 have J:=I.flown F fl.1 up
 refine ⟨J.os,J.bare,?_,by have:=J.base; rw [hx] at this; exact this,J.hok,fun b hb=>?_,fl,fun b o e hb hc=>?_⟩
 .cases q:X.s₀.heap.get? a with
  | none=>rfl
  | some o =>
   obtain ⟨⟨u,z⟩,_⟩:=I.old hx q
   rw [F.new] at z; cases z
 .obtain ⟨_,o,ho,_⟩:=I.ok.funs.mem hb
  exact J.base.free b o ho (I.ok.frf b hb) fun z=>I.ok.exfs b z hb
 .rcases hc with ⟨u,q⟩ | ⟨u,q⟩
  .obtain ⟨⟨v,z⟩,n⟩:=I.old hx q
   obtain ⟨o',e'⟩:=F.un.there b v z (by simp)
   have y:=F.cov b o' e' (I.nostk n hb) (.inl ⟨v,z⟩)
   have e2:=fl.1 b o' y
   rw [show ({ s' with heap:=h' } : Shared).heap.get? b = h'.get? b from rfl,e2] at e
   cases e
   exact y
  .obtain ⟨o',e'⟩:=(F.hok b u q).there
   have y:=F.trk q e'
   have e2:=fl.1 b o' y
   rw [show ({ s' with heap:=h' } : Shared).heap.get? b = h'.get? b from rfl,e2] at e
   cases e
   exact y
theorem Inv.flyNew (I:Inv X pins σ H s) (hx:X.ex = []) {h1:Heap} {t:Nat} (keeps:∀ b o,s.heap.get? b = some o->h1.get? b = some o) (new:s.heap.get? a = none) (hB:B = PySem.W.hideAll s.heap (frs X.stack)) (fl:rT B X.outer a C d .none h') (up:h1.UpToSlots h') :
  Fly X.prog X.w X.outer X.H₀ X.s₀ a C H { s with heap:=h',toks:=t } B d:=by
 have inB:∀ b o,s.heap.get? b = some o->b ∉ frs X.stack->B.get? b = some o:=fun b o e n=>by rw [hB]; exact PySem.W.hideAll_get _ e n
 have trk:∀ b u o,H b = some u->s.heap.get? b = some o->B.get? b = some o:=fun b u o e q=>inB b o q fun z=>by
  rw [I.stkFree b z] at e; cases e
 have up2:s.heap.UpToSlots h':=(Heap.UpToSlots.of_keeps keeps).trans up
 have nf:∀ b ∈ frs X.stack,∀ o,s.heap.get? b = some o->∀ vs,o.data ≠ .fields vs:=fun b hb o e=>by
  obtain ⟨_,o',e',d⟩:=I.stack.mem hb
  rw [e] at e'
  cases e'
  exact d
 have hok:HOk X.prog X.w H h':=fun b u e=>(I.hok b u e).stay (fun c v hc q=>fl.1 c v (by
  rcases hc with z | z
  .subst z; exact trk c u v e q
  .exact trk c _ v z q)) (fun _ q=>q) fun _ _ q=>q
 have un:Un (frs X.stack) [] H H s.heap h':=by
  refine ⟨fun b o q n hb _=>fl.1 b o (inB b o q hb),fun b o q n hb _=>up2 b o q (nf b hb o q),fun _ _ _ n _=>n,fun b o q _=>?_,fun _ _ q=>q,fun _ _ _ q=>q,fun _ ps q=>⟨#[],by rw [q]; simp⟩⟩
  by_cases hb:b ∈ frs X.stack
  .obtain ⟨sl,e⟩:=up2 b o q (nf b hb o q)
   exact ⟨_,e⟩
  .exact ⟨o,fl.1 b o (inB b o q hb)⟩
 have J:Inv X pins σ H { s with heap:=h',toks:=t }:=I.call' (s':={ s with heap:=h',toks:=t }) (ch:=[]) rfl un hok I.bare fun _ z=>nomatch z
 refine ⟨J.os,J.bare,?_,by have:=J.base; rw [hx] at this; exact this,J.hok,fun b hb=>?_,fl,fun b o e hb hc=>?_⟩
 .cases q:X.s₀.heap.get? a with
  | none=>rfl
  | some o =>
   obtain ⟨⟨u,z⟩,_⟩:=I.old hx q
   rw [new] at z; cases z
 .obtain ⟨_,o,ho,_⟩:=I.ok.funs.mem hb
  exact J.base.free b o ho (I.ok.frf b hb) fun z=>I.ok.exfs b z hb
 .rcases hc with ⟨u,q⟩ | ⟨u,q⟩
  .obtain ⟨⟨v,z⟩,n⟩:=I.old hx q
   have y:=inB b v z (I.nostk n hb)
   have e2:=fl.1 b v y
   rw [show ({ s with heap:=h',toks:=t } : Shared).heap.get? b = h'.get? b from rfl,e2] at e
   cases e
   exact y
  .obtain ⟨o',e'⟩:=(I.hok b u q).there
   have y:=trk b u o' q e'
   have e2:=fl.1 b o' y
   rw [show ({ s with heap:=h',toks:=t } : Shared).heap.get? b = h'.get? b from rfl,e2] at e
   cases e
   exact y
end
def CXO (P:Program) (w:World):CXT:=fun l H s E e s'=>∃ a C d H' B,e = .ref a/\Fly P w l H s a C H' s' B d/\E C d H'
def En (X:Cx) (Ex:Value->Option Addr->L2.St->Hp->Prop):Prop :=
 ∀ pins σ H s a C H' s' B d,Inv X pins σ H s->Fly X.prog X.w X.stack H s a C H' s' B d->Ex C d σ H'->X.xe (.ref a) s'
def aaX (X:Cx) (Ex:Value->Option Addr->L2.St->Hp->Prop):Prop :=
 ∀ pins σ H s a C vs h1,Inv X pins σ H s->Heap.MadeExcOf s.heap h1 a C vs->Ex C none σ H->X.xe (.ref a) { s with heap:=h1 }
section
variable {P:Program} {w:World} {K:Frag} {mg:Str->Option Value} {base:Heap} {N:List Str} {qual:Str} {scope:Scope} {f:Addr} {cd:Value} {A:Around} {outer:List Env} {s:Shared} {H:Hp} {E:XK}
theorem gq:En (Dd (CXO P w) P w K mg base N qual scope f cd A outer s H E) (fun C d _ H'=>E C d H'):=by
 intro pins σ H1 s1 a C H' s' B d I F q
 show wpAny _ _ (leaving _ (.ref a)) _ _ _
 refine Xm (outer:=outer) I.ok.frames rfl F.fl fun h' fl up=>?_
 exact ⟨a,C,d,H',B,rfl,I.flyOut rfl F fl up,q⟩
theorem qz:aaX (Dd (CXO P w) P w K mg base N qual scope f cd A outer s H E) (fun C d _ H'=>E C d H'):=by
 intro pins σ H1 s1 a C vs h1 I M q
 show wpAny _ _ (leaving _ (.ref a)) _ _ _
 have hin:∀ env ∈ (envOfC qual scope s.heap.objs.size f cd :: outer),∀ b,env.frame = some b->b ∈ frs (envOfC qual scope s.heap.objs.size f cd :: outer):=fun env he b hb=>List.mem_filterMap.mpr ⟨env,he,hb⟩
 obtain ⟨t,he,_,_⟩:=M.there
 refine S_ (base:=PySem.W.hideAll s1.heap (frs (envOfC qual scope s.heap.objs.size f cd :: outer))) (h0:=s1.heap) (outer:=outer) I.ok.frames rfl (fun b o q=>PySem.W.of_hideAll _ q) (PySem.W.funFrames_hide I.stack hin) M.keeps M.new he rfl rfl fun h' fl up=>?_
 exact ⟨a,C,none,H1,_,rfl,I.flyNew rfl M.keeps M.new rfl fl up,q⟩
end
section
variable {P:Program} {w:World} {K:Frag} {mg:Str->Option Value} {base:Heap}
theorem Fun.okX {x qual:Str} {st:Stmt} {f:Addr} {fd:FuncData} {N ps:List Str} {k:Nat} {sp:Sp} (F:Fun K x qual st f fd) (S:bZ N ps (bN st)) (len:∀ vs H Q E,sp vs H Q E->vs.length = ps.length)
  (hbody:∀ (cdv:Value) (A:Around) (outer:List Env) (s:Shared) (H:Hp) (vs:List V) (Q:VK) (E:XK),gJ k (A.deeper (envOfC qual (bN st) s.heap.objs.size f cdv))->sp vs H Q E ->
   ∃ t,PSs (Dd (CXO P w) P w K mg base N qual (bN st) f cdv A outer s H E) (eE st) t/\t { nx:=fun _ H'=>Q .non H',rt:=Q } (L2.start N vs) H):cC P w K mg base (CXO P w) (k + 1) f fd ps sp:=by
 obtain ⟨oc,od,kV,doc,pm,an,cdv,ct,osl,rfl,lk,hcd⟩:=F.ex
 exact WM lk hcd S len fun A outer s H vs Q E hr hsp=>hbody cdv A outer s H vs Q E hr hsp
def OkX (P:Program) (w:World) (K:Frag) (mg:Str->Option Value) (base:Heap) (k:Nat) (x:Str) (ps:List Str) (sp:Sp):Prop :=
 ∃ f fd,cC P w K mg base (CXO P w) k f fd ps sp/\Binds K fd ps []/\mg x = some (.ref f)/\PySem.W.keepIn K (.ref f) = true
theorem dU.okX {k:Nat} {x:Str} {st:Stmt} {ps:List Str} {sp:Sp} (h:dU K mg x st ps)
  (hf:∀ f fd,Fun K x x st f fd->cC P w K mg base (CXO P w) k f fd ps sp):OkX P w K mg base k x ps sp:=by
 obtain ⟨f,fd,a,b,c⟩:=h
 exact ⟨f,fd,hf f fd a,.all b,c,a.kp⟩
end
section
variable {X:Cx} {p pos:Pos} {e:Expr} {es:List Expr} {t:TA} {x:Str} {k:Nat} {ps:List Str} {sp:Sp} {Ex:Value->Option Addr->L2.St->Hp->Prop}
def zK (sp:Sp) (Ex:Value->Option Addr->L2.St->Hp->Prop) (t:TA):TE:=fun σ H Q=>t σ H fun vs H1=>sp vs H1 Q fun C d H'=>Ex C d σ H'
theorem gG (G:OkX X.prog X.w X.K X.mg X.base k x ps sp) (hr:gJ k X.A) (hg:Gl X x) (hx:En X Ex) (ha:PA X (e :: es) t) (hdb:(x == ("__debug__" : Str)) = false:=by decide)
  (he:starEach (e :: es) X.env = (false,eval e X.env) :: starEach es X.env:=by rfl) (hpl:(backTo pos (starEach es X.env)).any (·.1) = false:=by rfl):PE X (.Call (.Name x p) (e :: es) [] pos) (zK sp Ex t):=by
 obtain ⟨f,fd,F,hb,hm,kp⟩:=G
 intro pins s σ H Q I h
 refine wpAny_Call_Name_kw (pC I hg hm ?_ hdb)
 refine PySem.W.callWith_K (h₀:=X.base) I.ok.mod.kin kp (thn (ha pos pins s σ H _ I h) fun us s1 ⟨vs,H1,I1,r,q⟩=>⟨I1.kIn,?_⟩) he hpl
 have hl:us.length = ps.length:=by rw [<- r.length]; exact F.len _ _ _ _ q
 have hb':=hb s1 us I1.kIn (by simpa using hl)
 simp only [List.append_nil] at hb'
 refine wpAny_call (codeAny_mono (F.run X.A X.stack s1 H1 ⟨us,[]⟩ us vs Q _ hr I1.env0 hb' r q) fun r s' hq=>?_)
 cases r with
 | error e =>
  obtain ⟨a,C,d,H',B,rfl,Fl,q'⟩:=hq
  exact hx pins σ H1 s1 a C H' s' B d I1 Fl q'
 | ok fl =>
  cases fl with
  | ret u=>exact I1.after hq
  | next=>exact False.elim hq
  | brk=>exact False.elim hq
  | cont=>exact False.elim hq
end
abbrev bmV:List Value:=[.type "ValueError",.type "Exception",.type "BaseException",.type "object"]
def Nf (K:Frag) (C:Addr):Prop:=PySem.W.excIn K C bmV "ValueError.__new__" = true
theorem YT {K:Frag} {h:Heap} {C:Addr} (X:K.In h) (q:Nf K C):∃ bm N nm qn bs hdct sn sub ab col dd k0 k1 k2 k3 k5 mN,h.get? C = some (excClassObj nm qn C N bs bm hdct sn sub ab col dd k0 k1 k2 k3 k5 "ValueError.__new__") /\
  h.Ns N mN/\mN "__init__" = none/\OwnTail h bmV bm:=by
 unfold Nf PySem.W.excIn at q
 split at q
 .rename_i dd cd sl ho
  split at q
  .rename_i C' bm k0 k1 k2 k3 n k5 hm hs
   simp only [Bool.and_eq_true,beq_iff_eq,Bool.not_eq_true'] at q
   obtain ⟨⟨⟨⟨⟨rfl,rfl⟩,hdel⟩,ht⟩,hok⟩,hni⟩:=q
   obtain ⟨nm,bs,mro,ns,qn,hd,sn,sub,ab,col,del⟩:=cd
   dsimp only at hm hdel hok hni
   subst hm hdel
   have hsl:sl = #[k0,k1,k2,k3,some (.builtin "ValueError.__new__"),k5]:=by
    obtain ⟨l⟩:=sl
    simp only at hs
    rw [hs]
   subst hsl
   exact ⟨bm,ns,nm,qn,bs,hd,sn,sub,ab,col,dd,k0,k1,k2,k3,k5,_,X _ _ ho,.of_isNs (PySem.W.isNs_of_in X hok),PySem.W.nsMap_none_of_in X hok hni,PySem.W.tail_of_in X ht⟩
  .cases q
 .cases q
section
variable {X:Cx} {x:Str} {np cpos pos:Pos} {e₀:Expr} {rest:List Expr} {ta:TA} {C:Addr} {Ex:Value->Option Addr->L2.St->Hp->Prop}
def Ib (C:Addr) (Ex:Value->Option Addr->L2.St->Hp->Prop) (ta:TA):TS:=fun _ σ H=>ta σ H fun vs H1=>vs.length <= sizeLine/\Ex (.ref C) none σ H1
theorem qu (hc:X.calm = true) (hg:Gl X x) (hm:X.mg x = some (.ref C)) (q:Nf X.K C) (hx:aaX X Ex) (ha:PA X (e₀ :: rest) ta) (hd:(x == ("__debug__" : Str)) = false:=by decide)
  (he:starEach (e₀ :: rest) X.env = (false,eval e₀ X.env) :: starEach rest X.env:=by rfl) (hplain:(backTo cpos (starEach rest X.env)).any (·.1) = false:=by rfl) :
  PS X (.Raise (some (.Call (.Name x np) (e₀ :: rest) [] cpos)) none pos) (Ib C Ex ta):=by
 intro pins s σ H D I h
 obtain ⟨tl,N,nm,qn,bs,hdct,sn,sub,ab,col,dd,k0,k1,k2,k3,k5,mN,hC,hN,hni,T⟩:=YT I.ok.mod.kin q
 have FB:=PySem.F.excBase_ValueError
 refine wpAny_Raise_call_subT (C:=C) (nm:=nm) (q:=qn) (N:=N) (bs:=bs) (bm:=tl) (hdct:=hdct) (sn:=sn) (sub:=sub) (ab:=ab) (col:=col) (dd:=dd) (k0:=k0) (k1:=k1) (k2:=k2) (k3:=k3) (k5:=k5)
  FB (mN:=mN) (T.hasType FB.hasBase) (I.ok.hd hc) (by rw [he]; show (false || (backTo cpos (starEach rest X.env)).any (·.1)) = false; rw [hplain]; rfl) hni (pC I hg hm ⟨rfl,?_⟩ hd)
 have h2:=ha cpos pins s σ H _ I h
 rw [he] at h2 ⊢
 exact Calls.evalArgs_plain (wpAny_mono h2 (fun us s₂ ⟨vs,H1,I1,r,hl,ex⟩=>⟨rfl,by rw [<- r.length]; exact hl,I1.bk _ _ hC,hN.keeps I1.bk,T.keeps I1.bk,fun h' e M=>hx pins σ H1 s₂ e _ us h' I1 M ex⟩) fun _ _ y=>y)
end
abbrev Cx.tryc (X:Cx) (pn:List (Addr × Obj)) (E:Value->Shared->Prop):Cx:={ X with pn:=pn,xe:=E }
abbrev Cx.marked (X:Cx) (a:Addr) (E:Value->Shared->Prop):Cx:={ X with A:=X.A.mark (some (.ref a)),calm:=false,xe:=E }
section
variable {X:Cx} {pins pins' pn:List (Addr × Obj)} {σ:L2.St} {H H':Hp} {s:Shared} {E:Value->Shared->Prop} {a:Addr}
theorem Cx.Ok.tryc (ok:X.Ok):(X.tryc pn E).Ok:=⟨ok.mod,ok.kind,ok.glob,ok.blt,ok.above,ok.inj,ok.has,ok.cab,ok.hd,ok.frames,ok.stk,ok.exf,ok.bs,ok.bsz,ok.noex,ok.exfs,ok.funs,ok.frf⟩
theorem Cx.Ok.untry (ok:(X.tryc pn E).Ok):X.Ok:=⟨ok.mod,ok.kind,ok.glob,ok.blt,ok.above,ok.inj,ok.has,ok.cab,ok.hd,ok.frames,ok.stk,ok.exf,ok.bs,ok.bsz,ok.noex,ok.exfs,ok.funs,ok.frf⟩
theorem Inv.tryc (I:Inv X pins σ H s):Inv (X.tryc (X.pn ++ pins) E) [] σ H s:=⟨I.ok.tryc,I.os,I.bare,I.base,I.loc,I.cell,I.free,I.freeC,fun p hp=>I.pin p (by simpa using hp),I.hok,I.len⟩
theorem Inv.untry (I:Inv (X.tryc (X.pn ++ pins) E) pins' σ H s):Inv X pins σ H s:=⟨I.ok.untry,I.os,I.bare,I.base,I.loc,I.cell,I.free,I.freeC,fun p hp=>I.pin p (List.mem_append_left _ hp),I.hok,I.len⟩
theorem Cx.Ok.marked (ok:X.Ok):(X.marked a E).Ok:=⟨ok.mod,ok.kind,ok.glob,ok.blt,ok.above,ok.inj,ok.has,ok.cab,fun z=>(nomatch z),ok.frames,ok.stk,ok.exf,ok.bs,ok.bsz,ok.noex,ok.exfs,ok.funs,ok.frf⟩
theorem Inv.marked (I:Inv X pins σ H s):Inv (X.marked a E) pins σ H s:=⟨I.ok.marked,I.os,I.bare,I.base,I.loc,I.cell,I.free,I.freeC,I.pin,I.hok,I.len⟩
theorem Inv.unmarked (ok:X.Ok) (I:Inv (X.marked a E) pins σ H s):Inv X pins σ H s:=⟨ok,I.os,I.bare,I.base,I.loc,I.cell,I.free,I.freeC,I.pin,I.hok,I.len⟩
theorem Inv.track {o:HO} (I:Inv X pins σ H s) (hn:H a = none) (ha:X.s₀.heap.get? a = none) (hL:a ≠ X.env.locals) (hC:∀ x c,X.env.cells.lookup x = some c->c ≠ a) (hp:∀ p ∈ X.pn ++ pins,p.1 ≠ a)
  (ok:dM X.prog X.w (upd H a o) s.heap a o):Inv X pins σ (upd H a o) s:=by
 have ne:∀ b u,H b = some u->b ≠ a:=fun b u e=>bI e hn
 have ne0:∀ b u,X.s₀.heap.get? b = some u->b ≠ a:=fun b u e z=>by rw [z,ha] at e; cases e
 refine ⟨I.ok,I.os,I.bare,⟨I.base.keep,I.base.slot,fun b ob e n hx=>by rw [bL (ne0 b ob e)]; exact I.base.free b ob e n hx,I.base.there,fun b xs e=>?_,fun b ob u e=>?_,fun b ps e=>?_⟩,I.loc,I.cell,by rw [bL hL.symm]; exact I.free,fun x c e=>by rw [bL (hC x c e)]; exact I.freeC x c e,fun p q=>?_,fun b u e=>?_,I.len⟩
 .have z:=I.base.tups b xs e
  rw [bL (ne b _ z)]; exact z
 .have z:=I.base.frzs b ob u e
  rw [bL (ne b _ z)]; exact z
 .obtain ⟨m,z⟩:=I.base.tbls b ps e
  exact ⟨m,by rw [bL (ne b _ z)]; exact z⟩
 .obtain ⟨h1,h2,h3⟩:=I.pin p q
  exact ⟨h1,by rw [bL (hp p q)]; exact h2,h3⟩
 .by_cases z:b = a
  .subst z; rw [bK] at e; cases e; exact ok
  .rw [bL z] at e
   exact (I.hok b u e).stay (fun _ _ _ q=>q) (fun c q=>by rw [bL (ne c _ q)]; exact q) fun c xs q=>by rw [bL (ne c _ q)]; exact q
theorem Inv.unname {M:Model} {A:Around} {E:Value->Shared->Prop} {i:Nat} {n:Str} {pos:Pos} {Q:Unit->Shared->Prop} (I:Inv X pins σ H s) (hN:X.N.Nodup) (hi:X.N[i]? = some n) (hk:X.env.scope.names.lookup n = some .local)
  (h:∀ s',Inv X pins (σ.set i none) H s'->Q () s'):wpAny M A (do bindName X.env n .none; unbindBehindTheSuite X.env n pos) Q E s:=by
 obtain ⟨m,hn,hl⟩:=id I.loc
 have hcls:(X.env.scope.kind == .class || (X.env.scope.kind == .module && X.env.locals != X.env.globals)) = false:=by rw [I.ok.kind]; rfl
 have cne:=I.cne
 have hiσ:i < σ.length:=by rw [I.len]; exact (aq.mp hi).1
 refine wpAny_nameGoes_keeps hk hn hcls fun h' v hn' hs=>?_
 have hok:HOk X.prog X.w H h':=fun b ob e=>(I.hok b ob e).stay (fun c w' hc q=>(hs.2 c (by
  rintro rfl
  rcases hc with rfl | hc
  .rw [I.free] at e; cases e
  .rw [I.free] at hc; cases hc)).trans q) (fun _ q=>q) fun _ _ q=>q
 refine h _ ⟨I.ok,I.os,I.bare,⟨fun b o e n' hb hx=>?_,fun b o e n' hb hx=>?_,I.base.free,fun b o e hx=>?_,I.base.tups,I.base.frzs,I.base.tbls⟩,⟨_,hn',fun j y v' e1 e2 e3=>?_⟩,fun y c e=>?_,I.free,I.freeC,fun p hp=>?_,hok,by simpa using I.len⟩
 .exact (hs.2 b (aU (aV (aK e) I.ok.above))).trans (I.base.keep b o e n' hb hx)
 .obtain ⟨sl,e1⟩:=I.base.slot b o e n' hb hx
  exact ⟨sl,(hs.2 b (aU (aV (aK e) I.ok.above))).trans e1⟩
 .obtain ⟨o',e1⟩:=I.base.there b o e hx
  exact ⟨o',(hs.2 b (aU (aV (aK e) I.ok.above))).trans e1⟩
 .by_cases hj:j = i
  .subst hj
   rw [List.getElem?_set_self hiσ] at e2
   cases e2
  .rw [List.getElem?_set_ne (Ne.symm hj)] at e2
   obtain ⟨u',r',q⟩:=hl j y v' e1 e2 e3
   refine ⟨u',r',?_⟩
   rcases q with ⟨k,e⟩ | ⟨k,c,e,z⟩
   .refine .inl ⟨k,?_⟩
    have:y ≠ n:=fun e=>hj (qm hN e1 (e ▸ hi))
    simp [this,e]
   .exact .inr ⟨k,c,e,z.sameBut hs (cne y c e)⟩
 .obtain ⟨w',z⟩:=I.cell y c e
  exact ⟨w',z.sameBut hs (cne y c e)⟩
 .obtain ⟨e,n',ne,nf,d⟩:=I.pin p hp
  exact ⟨(hs.2 p.1 ne).trans e,n',ne,nf,d⟩
end
def XO (a C:Addr) (d:Option Addr):HO:=.ext fun h=>∃ o,h.get? a = some o/\o.cls = .ref C/\o.dict = d/\∃ vs,o.data = .fields vs
theorem M5 {M:Model} {A:Around} {E:Value->Shared->Prop} {K:Frag} {h:Heap} {g:Array GenState} {d:Drawn} {t:Nat} {os:OsState} {a C D:Addr} {oe:Obj} {Q:Bool->Shared->Prop} {b:Bool} (X:K.In h)
  (qD:PySem.W.mroIn K D (.type "BaseException") = some true) (tyD:PySem.W.typeIn K (.ref D) = some (.type "type")) (he:h.get? a = some oe) (hc:oe.cls = .ref C) (qS:PySem.W.mroIn K C (.ref D) = some b)
  (hq:Q b ⟨h,g,d,t,os⟩):wpAny M A (excMatches (.ref a) (.ref D)) Q E ⟨h,g,d,t,os⟩:=by
 have l1:PySem.W.Looks M h (isInstance (.ref D) (.type "tuple")) false:=(PySem.W.looks_typeIn X tyD).andThen (PySem.W.Looks.of_pure tc_notTuple)
 have l2:PySem.W.Looks M h (isType (.ref D)) true:=by
  obtain ⟨cdD,hcD,_⟩:=Option.bind_eq_some_iff.mp qD
  unfold PySem.W.clsIn at hcD
  split at hcD
  .rename_i c' d' cd' sl' ho
   intro A' Q' E' s' k q
   unfold isType loadHead
   exact wpAny_bind (wpAny_loadPart (k _ _ (X _ _ ho)) (wpAny_pure q))
  .cases hcD
 have l3:PySem.W.Looks M h (isSubtype (.ref D) (.type "BaseException")) true:=PySem.W.looks_mroIn X qD
 have l4:PySem.W.Looks M h (isSubtype (.ref C) (.ref D)) b:=PySem.W.looks_mroIn X qS
 have l5:PySem.W.Looks M h (typeOf (.ref a)) (.ref C):=by
  intro A' Q' E' s' k q
  rw [<- hc] at q
  unfold typeOf
  exact wpAny_bind (wpAny_loadPart (k _ _ he) (wpAny_pure q))
 unfold excMatches
 refine wpAny_bind (l1.at ?_)
 simp only [Bool.false_eq_true,if_false]
 refine wpAny_bind (wpAny_pure ?_)
 simp only [List.forIn_cons,List.forIn_nil]
 unfold isExcClass
 refine wpAny_bind (wpAny_bind (wpAny_bind (wpAny_bind (l2.at ?_))))
 simp only [if_true]
 refine l3.at ?_
 simp only [Bool.not_true,Bool.false_eq_true,if_false]
 refine wpAny_pure (wpAny_pure (wpAny_bind (l5.at ?_)))
 refine wpAny_bind (wpAny_bind (wpAny_bind (l4.at ?_)))
 cases b with
 | true =>
  simp only [if_true]
  exact wpAny_pure (wpAny_pure (wpAny_pure hq))
 | false =>
  simp only [Bool.false_eq_true,if_false]
  exact wpAny_pure (wpAny_pure (wpAny_pure hq))
section
variable {X:Cx} {pos hpos np:Pos} {body suite:List Stmt} {b₀:Stmt} {n Dn:Str} {D:Addr} {i:Nat} {tb:(Value->Option Addr->L2.St->Hp->Prop)->TS} {th:TS}
def Ends.unset (R:Ends) (i:Nat):Ends:={ nx:=fun σ H=>R.nx (σ.set i none) H,rt:=R.rt,bk:=fun σ H=>R.bk (σ.set i none) H,ct:=fun σ H=>R.ct (σ.set i none) H }
def H_ (K:Frag) (D:Addr) (i:Nat) (tb:(Value->Option Addr->L2.St->Hp->Prop)->TS) (th:TS):TS:=fun R σ H =>
 ∃ Ex:Value->Option Addr->L2.St->Hp->Prop,tb Ex R σ H/\∀ C' d σ' H',Ex C' d σ' H'->∃ C,C' = .ref C/\PySem.W.mroIn K C (.ref D) = some true /\
  ∀ a,H' a = none->th (R.unset i) (σ'.set i (some (.ref a))) (upd H' a (XO a C d))
theorem Vy (hN:X.N.Nodup) (hi:X.N[i]? = some n) (hln:X.env.scope.names.lookup n = some .local) (hgD:Gl X Dn) (hmD:X.mg Dn = some (.ref D)) (qD:PySem.W.mroIn X.K D (.type "BaseException") = some true)
  (tyD:PySem.W.typeIn X.K (.ref D) = some (.type "type")) (hst:X.stack = X.env :: X.outer) (hfr:X.env.frame = some X.env.locals) (hex:X.ex = [])
  (hb:∀ pn' E' Ex,En (X.tryc pn' E') Ex->PSs (X.tryc pn' E') body (tb Ex)) (hh:∀ a E',PSs (X.marked a E') (b₀ :: suite) th) (hdb:(Dn == ("__debug__" : Str)) = false:=by decide) :
  PS X (.Try body [.ExceptHandler (some (.Name Dn np)) (some n) (b₀ :: suite) hpos] [] [] pos) (H_ X.K D i tb th):=by
 intro pins s σ H R I h
 obtain ⟨Ex,h1,h2⟩:=h
 refine wpAny_Try_except ?_
 have ends:∀ {Y:Cx} {pn:List (Addr × Obj)} {f:Flow} {s':Shared},(∀ {σ':L2.St} {H':Hp},Inv Y pn σ' H' s'->Inv X pins σ' H' s')->SP Y pn R f s'->SP X pins R f s':=fun {Y pn f s'} k q=>by
  cases f with
  | next=>obtain ⟨σ',H',J,z⟩:=q; exact ⟨σ',H',k J,z⟩
  | brk=>obtain ⟨σ',H',J,z⟩:=q; exact ⟨σ',H',k J,z⟩
  | cont=>obtain ⟨σ',H',J,z⟩:=q; exact ⟨σ',H',k J,z⟩
  | ret u=>obtain ⟨v,σ',H',J,z⟩:=q; exact ⟨v,σ',H',k J,z⟩
 refine wpAny_mono (hb (X.pn ++ pins) _ Ex ?_ [] s σ H R I.tryc h1) (fun f s1 q=>?_) fun _ _ z=>z
 rotate_left
 .have q':=ends (fun J=>J.untry) q
  cases f with
  | next=>exact wpAny_execs_nil q'
  | brk=>exact q'
  | cont=>exact q'
  | ret u=>exact q'
 intro pins' σ1 H1 s1 a C' H' s' B d J F ex
 have J0:Inv X pins σ1 H1 s1:=J.untry
 obtain ⟨C,rfl,qS,k⟩:=h2 C' d σ1 H' ex
 have F0:Fly X.prog X.w X.stack H1 s1 a (.ref C) H' s' B d:=F
 have fl0:rT B (X.env :: X.outer) a (.ref C) d .none s'.heap:=by rw [<- hst]; exact F0.fl
 show wpAny _ _ (noteFrame (.ref a) X.env) _ _ _
 refine Gm (outer:=X.outer) (L:=X.env.locals) (I.ok.frames.trans (by rw [hst])) hfr fl0 fun h₄ hheld₄ sm₄=>?_
 refine Q6 hheld₄ fun h₅ fl₅ sm₅=>?_
 have J5:Inv X pins σ1 H' { s' with heap:=h₅ }:=J0.flown F0 fl₅.1 (sm₄.trans sm₅)
 obtain ⟨oe,vs,he,hcls,_,hd⟩:=fl₅.first
 refine wpAny_handleBy_cons (codeAny_handlers_test ?_) (by intro q; cases q)
 refine pC (X:=X.marked a (fun _ _=>False)) J5.marked hgD hmD ?_ hdb
 refine M5 (K:=X.K) J5.kIn qD tyD he hcls qS ?_
 show codeAny _ _ _ _ _
 refine codeAny_handlers_suite_as ?_
 refine Q6 fl₅ fun h₆ fl₆ sm₆=>?_
 have J6:Inv X pins σ1 H' { s' with heap:=h₆ }:=J0.flown F0 fl₆.1 ((sm₄.trans sm₅).trans sm₆)
 obtain ⟨oe6,vs6,he6,hcls6,hda,hd6⟩:=fl₆.first
 have na:H' a = none:=by
  cases q:H' a with
  | none=>rfl
  | some u =>
   obtain ⟨o',e'⟩:=(F0.hok a u q).there
   have y:=F0.trk q e'
   rw [F0.fl.2.1] at y; cases y
 have ns:X.s₀.heap.get? a = none:=by
  cases q:X.s₀.heap.get? a with
  | none=>rfl
  | some o =>
   obtain ⟨⟨u,z⟩,_⟩:=J0.old hex q
   rw [F0.new] at z; cases z
 have nL:a ≠ X.env.locals:=fun z=>by
  obtain ⟨m,⟨o,es,ep,e,dd,_⟩,_⟩:=J6.loc
  rw [<- z] at e
  have e':h₆.get? a = some o:=e
  rw [he6] at e'; cases e'; rw [hd6] at dd; cases dd
 have nC:∀ x c,X.env.cells.lookup x = some c->c ≠ a:=fun x c e z=>by
  obtain ⟨v,o,e',dd⟩:=J6.cell x c e
  rw [z] at e'
  have e2:h₆.get? a = some o:=e'
  rw [he6] at e2; cases e2; rw [hd6] at dd; cases dd
 have nP:∀ p ∈ X.pn ++ pins,p.1 ≠ a:=fun p hp z=>by
  have:=(J0.pin p hp).1
  rw [z,F0.new] at this; cases this
 have okx:dM X.prog X.w (upd H' a (XO a C d)) h₆ a (XO a C d):=⟨⟨oe6,he6,hcls6,hda,vs6,hd6⟩,⟨oe6,he6⟩,fun g1 g2 ⟨o,e1,e2⟩ kk=>⟨o,kk o e1,e2⟩⟩
 have J7:Inv X pins σ1 (upd H' a (XO a C d)) { s' with heap:=h₆ }:=J6.track na ns nL nC nP okx
 refine uL (X:=X.marked a (fun _ _=>False)) J7.marked hN hi (.inl hln) (v:=.ref a) rfl (fun s8 J8=>?_) (.inr hln)
 have J8':Inv X pins (σ1.set i (some (.ref a))) (upd H' a (XO a C d)) s8:=J8.unmarked I.ok
 refine wpAny_mono (hh a _ pins s8 _ _ _ J8'.marked (k a na)) (fun f s9 q=>?_) fun _ _ z=>z
 cases f with
 | next =>
  obtain ⟨σ',H2,J9,z⟩:=q
  exact (J9.unmarked I.ok).unname hN hi hln fun s10 J10=>⟨_,_,J10,z⟩
 | brk =>
  obtain ⟨σ',H2,J9,z⟩:=q
  exact (J9.unmarked I.ok).unname hN hi hln fun s10 J10=>⟨_,_,J10,z⟩
 | cont =>
  obtain ⟨σ',H2,J9,z⟩:=q
  exact (J9.unmarked I.ok).unname hN hi hln fun s10 J10=>⟨_,_,J10,z⟩
 | ret u =>
  obtain ⟨v,σ',H2,J9,rv,z⟩:=q
  exact (J9.unmarked I.ok).unname hN hi hln fun s10 J10=>⟨v,_,_,J10,rv,z⟩
end
structure Ng (K:Frag) (C:Addr):Prop where
 ga:PySem.W.findIn K (.ref C) "__getattribute__" = some (some (.builtin "BaseException.__getattribute__"))
 gn:PySem.W.findIn K (.ref C) "__getattr__" = some none
 cl:PySem.W.findIn K (.ref C) "__class__" = some (some (.builtin "object.__class__"))
 mo:PySem.W.mroIn K C (.type "object") = some true
 mb:PySem.W.mroIn K C (.type "BaseException") = some true
section
variable {prog:Program} {w:World} {A:Around} {E:Value->Shared->Prop} {h:Heap} {g:Array GenState} {d:Drawn} {t:Nat} {os:OsState} {a C:Addr} {o:Obj} {K:Frag}
theorem k_ {M:Model} (hx:h.get? a = some o) (hc:o.cls = .ref C):PySem.W.Looks M h (typeOf (.ref a)) (.ref C):=by
 intro A' Q' E' s' k q
 rw [<- hc] at q
 unfold typeOf
 exact wpAny_bind (wpAny_loadPart (k _ _ hx) (wpAny_pure q))
theorem Fi {R:Result->Shared->Prop} (X:K.In h) (T:Ng K C) (hx:h.get? a = some o) (hc:o.cls = .ref C) (hq:R (.ok (.ret (.ref C))) ⟨h,g,d,t,os⟩) :
  codeAny (model prog w) A (.call (.builtin "getset_descriptor.__get__") ⟨[.builtin "object.__class__",.ref a,.ref C],[]⟩) R ⟨h,g,d,t,os⟩:=by
 have hT5:(⟨h,g,d,t,os⟩ : Shared).TypeIs (.builtin "object.__class__") "getset_descriptor" := F.typeOf_object_class
 have LT:=k_ (M:=model prog w) hx hc
 have LO:PySem.W.Looks (model prog w) h (isSubtype (.ref C) (.type (".".intercalate ("object.__class__".cutAt '.').dropLast))) true:=by
  rw [F.owner_object_class]; exact PySem.W.looks_mroIn X T.mo
 refine codeAny_call_builtin F.slot_gs_get.plain F.entry_gs_get (F.slot_gs_get.check _ _ _ _ _ _ _ _ hT5 (F.args_gs_get _ _ _) ?_)
 repeat (any_goals (first | assumption | with_reducible refine LT.at ?_ | with_reducible refine LO.at ?_ | (with_reducible refine wpAny_loadPart_at hx ?_; rw [hc]) | wp_step))
 refine ⟨Code.quiet_builtin _ (by decide +kernel),codeAny_builtin F.entry_object_class ?_⟩
 repeat (any_goals (first | assumption | with_reducible refine LT.at ?_ | (with_reducible refine wpAny_loadPart_at hx ?_; rw [hc]) | wp_step))
theorem Aj {tk:Tok} {Q:Fin->Shared->Prop} (X:K.In h) (T:Ng K C) (hx:h.get? a = some o) (hc:o.cls = .ref C) (hq:Q (.done (.ret (.ref C))) ⟨h,g,d,t,os⟩) :
  wpAny (model prog w) A (Builtin.«object.__getattribute__» ⟨[.ref a,.str "__class__" tk],[]⟩) Q E ⟨h,g,d,t,os⟩:=by
 have hT5:(⟨h,g,d,t,os⟩ : Shared).TypeIs (.builtin "object.__class__") "getset_descriptor" := F.typeOf_object_class
 have f5:=F.typeOf_object_class
 have f6:=F.slot_gs_get.lookup
 have f7:=F.slot_gs_set.lookup
 have LT:=k_ (M:=model prog w) hx hc
 have LC:=PySem.W.looks_findIn (M:=model prog w) X T.cl
 repeat (any_goals (first | assumption | with_reducible refine LT.at ?_ | with_reducible refine LC.at ?_ | (with_reducible refine wpAny_loadPart_at hx ?_; rw [hc]) | wp_step))
 refine Fi X T hx hc ?_
 repeat (any_goals (first | assumption | wp_step))
theorem HW {M:Model} {nameV:Value} {Q:Unit->Shared->Prop} (X:K.In h) (T:Ng K C) (hx:h.get? a = some o) (hc:o.cls = .ref C) (hq:Q () ⟨h,g,d,t,os⟩) :
  wpAny M A (checkBuiltinCall "BaseException.__getattribute__" ⟨[.ref a,nameV],[]⟩) Q E ⟨h,g,d,t,os⟩:=by
 have hk:builtinKind "BaseException.__getattribute__" = some .slot:=by decide +kernel
 have hsplit:splitId "BaseException.__getattribute__" = some ("BaseException", "__getattribute__"):=by decide +kernel
 have ha:=F.args_bexc_ga (.ref a) nameV
 have LT:=k_ (M:=M) hx hc
 have LB:=PySem.W.looks_mroIn (M:=M) X T.mb
 simp only [checkBuiltinCall,hk,hsplit]
 refine wpAny_bind ?_
 unfold isInstance
 repeat (first | with_reducible refine LT.at ?_ | with_reducible refine LB.at ?_ | (with_reducible refine wpAny_loadPart_at hx ?_; rw [hc]) | wp_step)
 exact hq
theorem JN {tk:Tok} {Q:Value->Shared->Prop} (X:K.In h) (T:Ng K C) (hx:h.get? a = some o) (hc:o.cls = .ref C) (hq:Q (.ref C) ⟨h,g,d,t,os⟩) :
  wpAny (model prog w) A (getAttrBy (.ref a) (.str "__class__" tk) false) Q E ⟨h,g,d,t,os⟩:=by
 have f3:=F.excAttr_ValueError.ga.bind (.ref a)
 have hx2:(Value.builtin "BaseException.__getattribute__" == Value.builtin "object.__getattribute__") = false:=by decide +kernel
 have hx1:(onTheHeap (Value.ref C) && Value.builtin "BaseException.__getattribute__" == Value.builtin "object.__getattribute__") = false:=by rw [hx2]; exact Bool.and_false _
 have LT:=k_ (M:=model prog w) hx hc
 have LG:=PySem.W.looks_findIn (M:=model prog w) X T.ga
 have LN:=PySem.W.looks_findIn (M:=model prog w) X T.gn
 repeat (any_goals (first | assumption | with_reducible refine LT.at ?_ | with_reducible refine LG.at ?_ | with_reducible refine LN.at ?_ | (with_reducible refine wpAny_loadPart_at hx ?_; rw [hc]) | wp_step))
 refine codeAny_call_builtin F.excAttr_ValueError.ga.plain F.entry_bexc_ga (HW X T hx hc (Aj X T hx hc ?_))
 repeat (any_goals (first | assumption | wp_step))
theorem Cj {Q:Option Value->Shared->Prop} (X:K.In h) (T:Ng K C) (hx:h.get? a = some o) (hc:o.cls = .ref C) (hq:Q (some (.ref C)) ⟨h,g,d,t + 1,os⟩) :
  wpAny (model prog w) A (getAttr? (.ref a) "__class__") Q E ⟨h,g,d,t,os⟩:=by
 unfold getAttr? getAttrBy?
 repeat (any_goals (first | assumption | with_reducible apply JN X T hx hc | wp_step))
end
def zN (cells:List (Str × Addr)):List (Str × NameKind)->List (Str × Addr)->List (Str × Addr)
 | [],acc=>acc
 | (n,k) :: r,acc=>zN cells r (if k == .free then (n,(cells.lookup n).getD 0) :: acc else acc)
theorem Nq {scope:Scope} {env:Env} (h:∀ y ∈ scope.names,y.2 = .free->∃ c,env.cells.lookup y.1 = some c):closureFor scope env = pure (zN env.cells scope.names []):=by
 unfold closureFor
 have go:∀ (l:List (Str × NameKind)) (acc:List (Str × Addr)),(∀ y ∈ l,y.2 = .free->∃ c,env.cells.lookup y.1 = some c) ->
   (forIn l acc (fun (x:Str × NameKind) (r:List (Str × Addr))=>if (x.2 == NameKind.free) = true then (do let a <- cellOf env x.1; pure (ForInStep.yield ((x.1,a) :: r))) else pure (ForInStep.yield r)):Sem (List (Str × Addr))) = pure (zN env.cells l acc):=by
  intro l
  induction l with
  | nil=>intro acc _; rfl
  | cons y r ih =>
   intro acc hy
   obtain ⟨n,k⟩:=y
   rw [List.forIn_cons]
   by_cases hk:k = .free
   .subst hk
    obtain ⟨c,hc⟩:=hy (n,.free) aP rfl
    have e1:cellOf env n = pure c:=by unfold cellOf; rw [show env.cells.lookup n = some c from hc]
    simp only [beq_self_eq_true,if_true,e1,pure_bind]
    rw [ih _ fun z hz=>hy z (aJ _ hz)]
    show pure _ = pure (zN env.cells r (if (NameKind.free == NameKind.free) = true then (n,(env.cells.lookup n).getD 0) :: acc else acc))
    rw [show env.cells.lookup n = some c from hc]
    rfl
   .have hb:(k == NameKind.free) = false:=by simpa using hk
    simp only [hb,Bool.false_eq_true,if_false,pure_bind]
    rw [ih _ fun z hz=>hy z (aJ _ hz)]
    show pure _ = pure (zN env.cells r (if (k == NameKind.free) = true then (n,(env.cells.lookup n).getD 0) :: acc else acc))
    rw [hb]
    rfl
 have e:=go scope.names [] h
 show (forIn scope.names [] (fun (x:Str × NameKind) (r:List (Str × Addr))=>if (x.2 == NameKind.free) = true then (do let a <- cellOf env x.1; pure (ForInStep.yield ((x.1,a) :: r))) else pure (ForInStep.yield r)):Sem (List (Str × Addr))) >>= (fun cs=>pure cs) = _
 rw [e]
 rfl
theorem Lp {cells:List (Str × Addr)} : ∀ {names:List (Str × NameKind)} {acc:List (Str × Addr)} {x:Str} {c:Addr},(∀ y ∈ names,y.2 = .free->∃ c,cells.lookup y.1 = some c)->(x,c) ∈ zN cells names acc->(x,c) ∈ acc\/cells.lookup x = some c
 | [],_,_,_,_,h=>.inl h
 | (n,k) :: r,acc,x,c,hf,h=>by
  unfold zN at h
  rcases Lp (fun y hy=>hf y (aJ _ hy)) h with z | z
  .by_cases hk:k = .free
   .subst hk
    simp only [beq_self_eq_true,if_true] at z
    rcases List.mem_cons.mp z with e | e
    .obtain ⟨c',hc'⟩:=hf (n,.free) aP rfl
     cases e
     rw [show cells.lookup n = some c' from hc']
     exact .inr rfl
    .exact .inl e
   .have hb:(k == NameKind.free) = false:=by simpa using hk
    simp only [hb,Bool.false_eq_true,if_false] at z
    exact .inl z
  .exact .inr z
theorem Mu {cells:List (Str × Addr)} : ∀ {names:List (Str × NameKind)} {acc:List (Str × Addr)} {x:Str},((x,NameKind.free) ∈ names\/∃ c,(x,c) ∈ acc)->∃ c,(x,c) ∈ zN cells names acc
 | [],_,_,h=>by
  rcases h with h | h
  .cases h
  .exact h
 | (n,k) :: r,acc,x,h=>by
  unfold zN
  refine Mu ?_
  rcases h with h | ⟨c,h⟩
  .rcases List.mem_cons.mp h with e | e
   .cases e
    exact .inr ⟨_,by simp only [beq_self_eq_true,if_true]; exact aP⟩
   .exact .inl e
  .refine .inr ⟨c,?_⟩
   split
   .exact aJ _ h
   .exact h
theorem oM {α:Type} {x:Str} {c:α} : ∀ {l:List (Str × α)},(x,c) ∈ l->∃ c',l.lookup x = some c'
 | (y,d) :: r,h=>by
  rw [List.lookup_cons]
  cases hb:x == y with
  | true=>exact ⟨d,rfl⟩
  | false =>
   rcases List.mem_cons.mp h with e | e
   .cases e; simp at hb
   .exact oM e
section
variable {X:Cx} {elt iter:Expr} {x:Str} {px pos:Pos} {scope:Scope} {wi:TI} {te:TE}
theorem Inv.nostk' {pins:List (Addr × Obj)} {σ:L2.St} {H:Hp} {s:Shared} (I:Inv X pins σ H s) {b:Addr} (h1:b ≠ X.env.locals) (h2:b ∉ X.fs):b ∉ frs X.stack:=fun z=>by
 rcases List.mem_cons.mp (I.stkSub b z) with e | e
 .exact h1 e
 .exact h2 e
theorem wR {env:Env} : ∀ {names:List (Str × NameKind)} {y:Str},(names.map fun (n,k)=>if (k == NameKind.free && env.scope.kind == .function && env.kindOf n == some .cell) then (n,NameKind.cell) else (n,k)).lookup y = some .cell \/
  (names.map fun (n,k)=>if (k == NameKind.free && env.scope.kind == .function && env.kindOf n == some .cell) then (n,NameKind.cell) else (n,k)).lookup y = some .free->(∀ z ∈ names,z.2 ≠ .cell)->(y,NameKind.free) ∈ names
 | [],y,h,_=>by rcases h with h | h <;> cases h
 | (n,k) :: r,y,h,hc=>by
  have ih:=@wR env r y
  simp only [List.map_cons] at h
  by_cases hcond:(k == NameKind.free && env.scope.kind == .function && env.kindOf n == some .cell) = true
  .rw [if_pos hcond] at h
   simp only [List.lookup_cons] at h
   cases hb:y == n with
   | true =>
    have hk:k = .free:=by
     simp only [Bool.and_eq_true,beq_iff_eq] at hcond
     exact hcond.1.1
    have:y = n:=by simpa using hb
    subst this hk
    exact aP
   | false =>
    rw [hb] at h
    exact aJ _ (ih h fun z hz=>hc z (aJ _ hz))
  .rw [if_neg hcond] at h
   simp only [List.lookup_cons] at h
   cases hb:y == n with
   | true =>
    rw [hb] at h
    have:y = n:=by simpa using hb
    subst this
    rcases h with h | h
    .exact absurd (Option.some.inj h) (hc (y,k) aP)
    .have:k = .free:=Option.some.inj h
     subst this
     exact aP
   | false =>
    rw [hb] at h
    exact aJ _ (ih h fun z hz=>hc z (aJ _ hz))
end
section
variable {X:Cx}
theorem qU {x:Str} {D:Addr} {pos:Pos} (hg:Gl X x) (hm:X.mg x = some (.ref D)) (hd:(x == ("__debug__" : Str)) = false:=by decide):PE X (.Name x pos) (tC (.ref D)):=Jb hg hm rfl hd
theorem W3 {K:Frag} {a C:Addr} (T:Ng K C):PySem.W.KitX K (.ref a) (.ref C) (fun h=>∃ o,h.get? a = some o/\o.cls = .ref C) where
 ty:=fun M h _ ⟨o,e,c⟩=>k_ e c
 it:=fun M h Y _=>by
  obtain ⟨cdD,hcD,_⟩:=Option.bind_eq_some_iff.mp T.mo
  unfold PySem.W.clsIn at hcD
  split at hcD
  .rename_i c' d' cd' sl' ho
   intro A' Q' E' s' k q
   unfold isType loadHead
   exact wpAny_bind (wpAny_loadPart (k _ _ (Y _ _ ho)) (wpAny_pure q))
  .cases hcD
 ne:=fun h tp dd its n sl Y htp=>by
  obtain ⟨cdD,hcD,_⟩:=Option.bind_eq_some_iff.mp T.mo
  refine Bool.eq_false_iff.mpr fun q=>?_
  have e:C = tp:=Value.ref.inj (beq_iff_eq.mp q)
  subst e
  unfold PySem.W.clsIn at hcD
  split at hcD
  .rename_i c' d' cd' sl' ho
   have z:=(Y _ _ ho).symm.trans htp
   cases z
  .cases hcD
 ca:=fun {prog w A E Q s} Y ⟨o,e,c⟩ k=>by
  obtain ⟨h,g,d,t,os⟩:=s
  exact Cj Y T e c k
def aa6 (K:Frag):List V->Hp->VK->Prop:=fun xs H Q=>∃ a C d c cv b,xs = [.ref a,c]/\H a = some (XO a C d)/\((∃ T,c = .ty T/\cv = Value.type T)\/∃ D,c = .ref D/\cv = Value.ref D)/\Ng K C/\PySem.W.kitOne K (.ref C) cv = some b/\Q (.bl b) H
theorem SX:gj X (.builtin "isinstance") (aa6 X.K):=by
 intro pins s σ H xs us Q I r h
 obtain ⟨a,C,d,c,cv,b,rfl,ha,rc,T,e,q⟩:=h
 obtain ⟨u,v,rfl,ru,rv⟩:=r.two
 cases ru
 have e2:v = cv:=by
  rcases rc with ⟨T,rfl,rfl⟩ | ⟨T,rfl,rfl⟩
  .exact rv
  .exact rv
 subst e2
 obtain ⟨⟨o,e1,e2,_⟩,_⟩:=I.hok a _ ha
 exact PySem.W.kia_one (W3 T) I.kIn ⟨o,e1,e2⟩ e (fun z=>nomatch z) fun tk=>⟨.bl b,H,I.tok _,rfl,q⟩
def acn (neg:Bool):R2:=fun x y H Q=>∃ b,y = .bl b/\Q (.bl (if neg then !decide (x = .bl b) else decide (x = .bl b))) H
def eqF:List V->List V->Bool
 | [],[]=>true
 | x :: xs,y :: ys=>eqV x y && eqF xs ys
 | _,_=>false
def eqH (H:Hp) (x y:V):Option Bool :=
 match x,y with
 | .ref a,.ref b=>match H a,H b with
  | some (.tup xs),some (.tup ys)=>if xs.all pI && ys.all pI then some (eqF xs ys) else none
  | some (.lst xs),some (.lst ys)=>if xs.all pI && ys.all pI then some (eqF xs ys) else none
  | some (.lst _),some (.tup _)=>some false
  | some (.tup _),some (.lst _)=>some false
  | _,_=>none
 | .ref a,y=>if pI y then (match H a with
  | some (.tup _)=>some false
  | some (.lst _)=>some false
  | _=>none) else none
 | x,.ref b=>if pI x then (match H b with
  | some (.tup _)=>some false
  | some (.lst _)=>some false
  | _=>none) else none
 | x,y=>if R8 x y then some (decide (x = y)) else none
def ab7:R2:=fun x y H Q=>∃ k,eqH H x y = some k/\Q (.bl k) H
theorem Inv.tupIs {pins:List (Addr × Obj)} {σ:L2.St} {H:Hp} {s:Shared} {a:Addr} {xs:List V} (I:Inv X pins σ H s) (h:H a = some (.tup xs)):∃ its,Vals xs its/\IsTup s.heap a its.toArray/\s.heap.IsTuple a its.toArray:=by
 obtain ⟨its,rv,ht,_⟩:=I.tuple (SqT.of h)
 exact ⟨its,rv,ht,ht⟩
theorem Inv.lstIs {pins:List (Addr × Obj)} {σ:L2.St} {H:Hp} {s:Shared} {a:Addr} {xs:List V} (I:Inv X pins σ H s) (h:H a = some (.lst xs)):∃ its,Vals xs its/\s.heap.IsList a its.toArray:=by
 obtain ⟨its,rv,ht,_⟩:=I.list (SqL.of h)
 exact ⟨its,rv,ht.isList⟩
theorem yq:En X (fun _ _ _ _=>False):=fun _ _ _ _ _ _ _ _ _ _ _ _ z=>z.elim
def IsX (H:Hp) (a C:Addr):Prop:=∃ d,H a = some (XO a C d)
def V_ (C D:Addr) (b:Bool):List V->Hp->VK->Prop:=fun xs H Q=>∃ a,xs = [.ref a,.ref D]/\IsX H a C/\Q (.bl b) H
def Vh (C:Addr) (T:String) (b:Bool):List V->Hp->VK->Prop:=fun xs H Q=>∃ a,xs = [.ref a,.ty T]/\IsX H a C/\Q (.bl b) H
theorem z_:bootBuiltins "ValueError" = some (.type "ValueError"):=by decide +kernel
end
def Py (tk tv:TE):TE:=fun σ H Q=>∀ p,H p = none->tk σ (upd H p (.dK [])) fun x H1=>∃ i,x = .int i/\tv σ H1 fun y H2=>H2 p = some (.dK [])/\Q (.ref p) (upd H2 p (.dK [(.inl i,y)]))
open PySem.SeqAt in
section
variable {X:Cx}
structure PEB (X:Cx) (e:Expr) (t:TE):Prop where
 out:PE X e t
structure PAB (X:Cx) (es:List Expr) (t:TA):Prop where
 out:PA X es t
structure PSB (X:Cx) (st:Stmt) (t:TS):Prop where
 out:PS X st t
structure aah (X:Cx) (b:List Stmt) (t:TS):Prop where
 out:PSs X b t
theorem uQ {i j pos} : PEB X (.Constant (.int i) j pos) (tC (.int i)):=⟨bG⟩
theorem aal {es:List Expr} {t:TA} {pos:Pos} (h:PAB X es t):PEB X (.List es pos) (Xf t):=⟨lY h.out⟩
theorem YM:PAB X [] Bq:=⟨bH⟩
theorem GZ {c:Const} {k:Nat} {p:Pos} {es:List Expr} {te:TE} {t:TA} (ha:PEB X (.Constant c k p) te) (hr:PAB X es t):PAB X (.Constant c k p :: es) (sE te t):=⟨bF ha.out hr.out rfl⟩
theorem Y7 {i:Nat} {x:Str} {e:Expr} {te:TE} {pos pos':Pos} (hN:X.N.Nodup) (hi:X.N[i]? = some x) (hx:Loc X.env.scope x) (he:PEB X e te) (hs:swapsWith e (some (.Name x pos')) pos.line X.env = pure false:=by rfl) (hf:X.fn x = true\/X.env.scope.names.lookup x = some .local:=by first | exact .inl rfl | exact .inr rfl | assumption) :
  PSB X (.Assign [.Name x pos'] e pos) (Ft te (cU i)):=⟨cA hN hi hx he.out hs hf⟩
theorem cT {st:Stmt} {rest:List Stmt} {t u:TS} (h1:PSB X st t) (h2:aah X rest u):aah X (st :: rest) (qx t u):=⟨bM h1.out h2.out⟩
end
section
variable {P:Program} {w:World} {K:Frag} {mg:Str->Option Value} {base:Heap}
theorem Fun.okB {x qual:Str} {st:Stmt} {f:Addr} {fd:FuncData} {N ps:List Str} {k:Nat} {sp:Sp} (F:Fun K x qual st f fd) (S:bZ N ps (bN st)) (len:∀ vs H Q E,sp vs H Q E->vs.length = ps.length)
  (hbody:∀ (cdv:Value) (A:Around) (outer:List Env) (s:Shared) (H:Hp) (vs:List V) (Q:VK) (E:XK),gJ k (A.deeper (envOfC qual (bN st) s.heap.objs.size f cdv))->sp vs H Q E ->
   ∃ t,aah (Dd CX0 P w K mg base N qual (bN st) f cdv A outer s H E).nox (eE st) t/\t { nx:=fun _ H'=>Q .non H',rt:=Q } (L2.start N vs) H):cC P w K mg base CX0 (k + 1) f fd ps sp :=
 F.ok S len fun cdv A outer s H vs Q E hr hsp=>let ⟨t,h1,h2⟩:=hbody cdv A outer s H vs Q E hr hsp; ⟨t,h1.out,h2⟩
end
mutual
inductive Shows (H:Hp):V->PyData->Prop
 | non:Shows H .non .none
 | bl (b:Bool):Shows H (.bl b) (.bool b)
 | int (i:Int):Shows H (.int i) (.int i)
 | str (x:Str):Shows H (.str x) (.str x)
 | lst {a:Addr} {xs:List V} {ds:List PyData} : H a = some (.lst xs)->fj H xs ds->Shows H (.ref a) (.list ds)
 | tup {a:Addr} {xs:List V} {ds:List PyData} : H a = some (.tup xs)->fj H xs ds->Shows H (.ref a) (.tuple ds)
inductive fj (H:Hp):List V->List PyData->Prop
 | nil:fj H [] []
 | cons {x:V} {xs:List V} {d:PyData} {ds:List PyData} : Shows H x d->fj H xs ds->fj H (x :: xs) (d :: ds)
end
mutual
theorem Shows.same {H H':Hp} (S:Same H H'):∀ {x:V} {d:PyData},Shows H x d->Shows H' x d
 | _,_,.non=>.non
 | _,_,.bl b=>.bl b
 | _,_,.int i=>.int i
 | _,_,.str x=>.str x
 | _,_,.lst e h=>.lst (S _ _ e) (fj.same S h)
 | _,_,.tup e h=>.tup (S _ _ e) (fj.same S h)
theorem fj.same {H H':Hp} (S:Same H H'):∀ {xs:List V} {ds:List PyData},fj H xs ds->fj H' xs ds
 | _,_,.nil=>.nil
 | _,_,.cons h t=>.cons (Shows.same S h) (fj.same S t)
end
theorem fj.ints (H:Hp):∀ ns:List Int,fj H (ns.map V.int) (ns.map PyData.int)
 | []=>.nil
 | n :: ns=>.cons (.int n) (fj.ints H ns)
section
variable {X:Cx} {pins:List (Addr × Obj)} {σ:L2.St} {H:Hp} {s:Shared}
mutual
theorem Inv.reads (I:Inv X pins σ H s):∀ {x:V} {d:PyData} {v:Value},Shows H x d->RelV x v->∃ as,Reads s.heap v d as
 | _,_,_,.non,r=>by cases r; exact ⟨_,.none⟩
 | _,_,_,.bl b,r=>by cases r; exact ⟨_,.bool b⟩
 | _,_,_,.int i,r=>by obtain ⟨t,rfl⟩:=r; exact ⟨_,.int i t⟩
 | _,_,_,.str x,r=>by obtain ⟨t,rfl⟩:=r; exact ⟨_,.str x t⟩
 | _,_,_,.lst e h,r=>by
  cases r
  obtain ⟨its,rv,⟨o,ho,hc,n,hd⟩⟩:=I.lstIs e
  obtain ⟨as,q⟩:=Inv.readsAll I h rv
  exact ⟨_,.list ho hc hd q⟩
 | _,_,_,.tup e h,r=>by
  cases r
  obtain ⟨its,rv,_,⟨o,ho,hc,n,hd⟩⟩:=I.tupIs e
  obtain ⟨as,q⟩:=Inv.readsAll I h rv
  exact ⟨_,.tuple ho hc hd q⟩
theorem Inv.readsAll (I:Inv X pins σ H s):∀ {xs:List V} {ds:List PyData} {vs:List Value},fj H xs ds->Vals xs vs->∃ as,ReadsAll s.heap vs ds as
 | _,_,_,.nil,r=>by cases r; exact ⟨_,.nil⟩
 | _,_,_,.cons h t,r=>by
  cases r with
  | cons r1 r2 =>
   obtain ⟨a,q1⟩:=Inv.reads I h r1
   obtain ⟨b,q2⟩:=Inv.readsAll I t r2
   exact ⟨_,.cons q1 q2⟩
end
def acs (neg:Bool):R2:=fun x y H Q=>∃ d e,Shows H x d/\Shows H y e/\SeqAt.shaped d = true/\SeqAt.shaped e = true/\Q (.bl (if neg then !PyData.eqv d e else PyData.eqv d e)) H
def P_:List V->Hp->VK->Prop:=fun xs H Q=>∃ (l:Addr) (ns:List Int),xs = [.ref l]/\H l = some (.lst (ns.map V.int))/\Q (.int ns.sum) H
theorem yV (hc:X.calm = true):gj X (.builtin "sum") P_:=by
 intro pins s σ H xs us Q I r h
 obtain ⟨l,ns,rfl,hl,q⟩:=h
 obtain ⟨u,rfl,ru⟩:=r.one
 cases ru
 obtain ⟨its,rv,p⟩:=I.lstIs hl
 have hI:=intsAre_of rv
 obtain ⟨xs,e⟩:=hI.allInts.items
 have hn:=hI.numsOf
 rw [show its = its.toArray.toList from rfl,e,nums_intItems] at hn
 rw [e] at p
 refine sum_intListG (I.ok.hd hc) p fun h' tk t' k=>⟨.int ns.sum,H,I.kept k,?_,q⟩
 rw [preSum_eq,aM (by simp),hn]
 exact ⟨_,rfl⟩
def Xr:List V->Hp->VK->Prop:=fun xs H Q=>∃ (l:Addr) (ns:List Int),xs = [.ref l]/\H l = some (.lst (ns.map V.int))/\0 < ns.length/\∀ M,M ∈ ns->(∀ a,a ∈ ns->a <= M)->Q (.int M) H
def Vr:List V->Hp->VK->Prop:=fun xs H Q=>∃ (l:Addr) (ns:List Int),xs = [.ref l]/\H l = some (.lst (ns.map V.int))/\0 < ns.length/\∀ M,M ∈ ns->(∀ a,a ∈ ns->M <= a)->Q (.int M) H
def aco (te ts:TE):TE:=fun σ H Q=>te σ H fun x H1=>ts σ H1 fun y H2=>y = .int (-1)/\∃ a xs,x = .ref a/\H2 a = some (.lst xs)/\∀ p,H2 p = none->Q (.ref p) (upd H2 p (.lst xs.reverse))
end
section
variable {K:Frag} {tl:TE} {ta:TA} {g:TG} {tb:TS} {D:Ends} {σ:L2.St} {H:Hp}
theorem Tt (h:tl σ H fun x H1=>∃ a xs,x = .ref a/\H1 a = some (.lst xs)/\∃ J:Nat->L2.St->Hp->Prop,J 0 σ H1 /\
   (∀ k x σ' H',xs[k]? = some x->J k σ' H'->H' a = some (.lst xs)->g x σ' H' fun σ2 H2=>tb { D with nx:=fun σ3 H3=>H3 a = some (.lst xs)/\J (k + 1) σ3 H3,ct:=fun σ3 H3=>H3 a = some (.lst xs)/\J (k + 1) σ3 H3,bk:=D.nx } σ2 H2) /\
   ∀ σ' H',J xs.length σ' H'->H' a = some (.lst xs)->D.nx σ' H') (hm:∀ (P Q:V->Hp->Prop),(∀ x H',P x H'->Q x H')->tl σ H P->tl σ H Q):Nv (Dp K tl) g tb D σ H:=by
 refine hm _ _ ?_ h
 rintro x H1 ⟨a,xs,rfl,hx,J,j0,step,fin⟩
 refine ⟨a,rfl,⟨xs,.of hx⟩,fun k m σ' H'=>k <= xs.length/\m = xs.length - k/\H' a = some (.lst xs)/\J k σ' H',⟨_,bA _,rfl,hx,j0⟩,?_⟩
 rintro k m σ' H' ⟨hk,rfl,hx',j⟩
 by_cases e:k = xs.length
 .subst e
  exact .inl ⟨⟨xs,.of hx',aG _⟩,fin σ' H' j hx'⟩
 .have hlt:k < xs.length:=by omega
  have e1:xs[k]? = some xs[k]:=aj hlt
  refine .inr ⟨⟨xs,_,.of hx',e1⟩,fun σ3 H3=>H3 a = some (.lst xs)/\J (k + 1) σ3 H3,fun σ3 H3 ⟨z1,z2⟩=>⟨xs.length - (k + 1),by omega,by omega,rfl,z1,z2⟩,?_⟩
  rintro x H'' ⟨rfl,y⟩
  exact step k x σ' H'' (y xs (.of hx')) j hx'
theorem SQ (h:ta σ H fun vs H1=>∃ n:Nat,vs = [.int n]/\n < 2 ^ 61/\∃ J:Nat->L2.St->Hp->Prop,J 0 σ H1 /\
   (∀ (k:Nat) σ' H',k < n->J k σ' H'->g (.int k) σ' H' fun σ2 H2=>tb { D with nx:=J (k + 1),ct:=J (k + 1),bk:=D.nx } σ2 H2)/\∀ σ' H',J n σ' H'->D.nx σ' H')
  (hm:∀ (P Q:List V->Hp->Prop),(∀ x H',P x H'->Q x H')->ta σ H P->ta σ H Q):Nv (Rj ta) g tb D σ H:=by
 refine hm _ _ ?_ h
 rintro x H1 ⟨n,rfl,hn,J,j0,step,fin⟩
 refine ⟨n,rfl,by omega,by omega,?_⟩
 rw [Int.toNat_natCast]
 refine ⟨fun k m σ' H'=>k <= n/\m = n - k/\J k σ' H',⟨_,bA _,rfl,j0⟩,?_⟩
 rintro k m σ' H' ⟨hk,rfl,j⟩
 by_cases e:k = n
 .subst e
  exact .inl ⟨aG _,fin σ' H' j⟩
 .have hlt:k < n:=by omega
  refine .inr ⟨hlt,J (k + 1),fun σ3 H3 z=>⟨n - (k + 1),by omega,by omega,rfl,z⟩,?_⟩
  rintro x H'' ⟨rfl,rfl⟩
  rw [Int.zero_add]
  exact step k σ' H'' hlt j
end
section
variable {X:Cx}
def tM (t:TE):TE:=fun σ H Q=>∃ R:VK,t σ H R/\∀ x H',R x H'->Q x H'
def tMA (t:TA):TA:=fun σ H Q=>∃ R:List V->Hp->Prop,t σ H R/\∀ x H',R x H'->Q x H'
theorem PE.mono {a:Expr} {t:TE} (h:PE X a t):PE X a (tM t):=fun pins s σ H Q I ⟨R,h1,h2⟩ =>
 thn (h pins s σ H R I h1) fun v s' ⟨x,H',I',r,q⟩=>⟨x,H',I',r,h2 x H' q⟩
theorem PA.mono {es:List Expr} {t:TA} (h:PA X es t):PA X es (tMA t):=fun pos pins s σ H Q I ⟨R,h1,h2⟩ =>
 thn (h pos pins s σ H R I h1) fun v s' ⟨x,H',I',r,q⟩=>⟨x,H',I',r,h2 x H' q⟩
theorem PE.imp {a:Expr} {t t':TE} (h:PE X a t) (i:∀ σ H Q,t' σ H Q->t σ H Q):PE X a t':=fun pins s σ H Q I q=>h pins s σ H Q I (i σ H Q q)
theorem aaR {t:TE} {σ:L2.St} {H:Hp} {Q:VK} (h:t σ H Q):tM t σ H Q:=⟨Q,h,fun _ _ q=>q⟩
theorem fY {K:Frag} {tl:TE} {g:TG} {tb:TS} {D:Ends} {σ:L2.St} {H:Hp} (h:tl σ H fun x H1=>∃ a xs,x = .ref a/\H1 a = some (.lst xs)/\∃ J:Nat->L2.St->Hp->Prop,J 0 σ H1 /\
   (∀ k x σ' H',xs[k]? = some x->J k σ' H'->H' a = some (.lst xs)->g x σ' H' fun σ2 H2=>tb { D with nx:=fun σ3 H3=>H3 a = some (.lst xs)/\J (k + 1) σ3 H3,ct:=fun σ3 H3=>H3 a = some (.lst xs)/\J (k + 1) σ3 H3,bk:=D.nx } σ2 H2) /\
   ∀ σ' H',J xs.length σ' H'->H' a = some (.lst xs)->D.nx σ' H'):Nv (Dp K (tM tl)) g tb D σ H :=
 Tt (aaR h) fun _ _ i ⟨R,a,b⟩=>⟨R,a,fun x H' q=>i x H' (b x H' q)⟩
theorem qt {ta:TA} {g:TG} {tb:TS} {D:Ends} {σ:L2.St} {H:Hp} (h:ta σ H fun vs H1=>∃ n:Nat,vs = [.int n]/\n < 2 ^ 61/\∃ J:Nat->L2.St->Hp->Prop,J 0 σ H1 /\
   (∀ (k:Nat) σ' H',k < n->J k σ' H'->g (.int k) σ' H' fun σ2 H2=>tb { D with nx:=J (k + 1),ct:=J (k + 1),bk:=D.nx } σ2 H2)/\∀ σ' H',J n σ' H'->D.nx σ' H'):Nv (Rj (tMA ta)) g tb D σ H :=
 SQ (ta:=tMA ta) ⟨_,h,fun _ _ q=>q⟩ fun _ _ i ⟨R,a,b⟩=>⟨R,a,fun x H' q=>i x H' (b x H' q)⟩
def aaE (to:TE) (t:TA):TE:=fun σ H Q=>to σ H fun x H1=>∃ l xs,x = .ref l/\H1 l = some (.lst xs)/\t σ H1 fun vs H2=>∃ y ys,vs = [y]/\H2 l = some (.lst ys)/\ys.length < sizeLine/\Q .non (upd H2 l (.lst (ys ++ [y])))
theorem sU {o e:Expr} {to:TE} {t:TA} {apos cpos:Pos} (ho:PE X o to) (ha:PA X [e] t) (hb:attributeBase o "append" X.env (eval o X.env) = eval o X.env:=by rfl)
  (hf:((backTo cpos (starEach [e] X.env)).all (fun x=>!x.1) && (backToKw cpos (keywordEach [] X.env)).all (fun x=>x.1.isSome) && decide ([e].length + ([] : List Keyword).length + (if ([] : List Keyword).isEmpty then 0 else 1) < 30)) = true:=by rfl)
  (hl:(apos.endLine == cpos.line) = true:=by rfl) (hs:starEach [e] X.env = (false,eval e X.env) :: starEach [] X.env:=by rfl) (hp:(backTo cpos (starEach [] X.env)).any (·.1) = false:=by rfl) :
  PE X (.Call (.Attribute o "append" apos) [e] [] cpos) (aaE to t):=by
 refine (aaU PySem.F.plainAttrs_list PySem.F.slot_list_append PySem.F.type_list_append GP ho.mono ha.mono hb hf hl hs hp).imp fun σ H Q h=>?_
 refine ⟨_,h,?_⟩
 rintro x H1 ⟨l,xs,rfl,hx,h2⟩
 refine ⟨.inl ⟨rfl,_,SqL.of hx⟩,_,h2,?_⟩
 rintro vs H2 ⟨y,ys,rfl,hy,hz,q⟩
 exact ⟨l,ys,y,rfl,rfl,hy,hz,q⟩
def abC (to:TE):TE:=fun σ H Q=>to σ H fun x H1=>∃ l xs,x = .ref l/\H1 l = some (.lst xs)/\Q .non (upd H1 l (.lst []))
def Kc:List V->Hp->VK->Prop:=fun xs H Q=>∃ p ys,xs = [.ref p]/\H p = some (.lst ys)/\∀ l,H l = none->Q (.ref l) (upd H l (.lst ys))
theorem Ea:gj X (.type "list") Kc:=Hs.imp fun xs H Q ⟨p,ys,a,b,c⟩=>⟨p,ys,a,.inl (.of b),c⟩
end
mutual
theorem Ob:∀ ns:List Int,PyData.canLayAll0 (ns.map PyData.int) = true
 | []=>rfl
 | n :: ns=>by
  rw [List.map_cons]; unfold PyData.canLayAll0
  rw [Ob ns]; rfl
end
inductive FL (H:Hp):List V->List (Int × Int)->Prop
 | nil:FL H [] []
 | cons {p:Addr} {f:Int × Int} {xs:List V} {fs:List (Int × Int)} : H p = some (.tup [.int f.1,.int f.2])->FL H xs fs->FL H (.ref p :: xs) (f :: fs)
theorem FL.imp {H H':Hp} (h:∀ p a b,H p = some (.tup [.int a,.int b])->H' p = some (.tup [.int a,.int b])):∀ {xs:List V} {fs:List (Int × Int)},FL H xs fs->FL H' xs fs
 | _,_,.nil=>.nil
 | _,_,.cons e t=>.cons (h _ _ _ e) (FL.imp h t)
theorem FL.same {H H':Hp} (S:Same H H') {xs:List V} {fs:List (Int × Int)} (h:FL H xs fs):FL H' xs fs:=h.imp fun p _ _ e=>S p _ e
theorem FL.length {H:Hp} : ∀ {xs:List V} {fs:List (Int × Int)},FL H xs fs->xs.length = fs.length
 | _,_,.nil=>rfl
 | _,_,.cons _ t=>by rw [List.length_cons,List.length_cons,FL.length t]
theorem FL.get {H:Hp} {xs:List V} {fs:List (Int × Int)} {k:Nat} {x:V} (g:FL H xs fs) (h:xs[k]? = some x):∃ p f,x = .ref p/\fs[k]? = some f/\H p = some (.tup [.int f.1,.int f.2]):=by
 induction g generalizing k with
 | nil=>cases h
 | cons e t ih =>
  cases k with
  | zero=>cases h; exact ⟨_,_,rfl,rfl,e⟩
  | succ k=>exact ih h
theorem FL.append {H:Hp} : ∀ {xs ys:List V} {fs gs:List (Int × Int)},FL H xs fs->FL H ys gs->FL H (xs ++ ys) (fs ++ gs)
 | _,_,_,_,.nil,h=>h
 | _,_,_,_,.cons e t,h=>.cons e (FL.append t h)
theorem FL.one {H:Hp} {p:Addr} {a b:Int} (h:H p = some (.tup [.int a,.int b])):FL H [.ref p] [(a,b)]:=.cons (f:=(a,b)) h .nil
def Its (x:Str):It:=⟨fun i _=>i < x.cps.size,fun i H v H'=>H' = H/\∃ c,x.cps[i]? = some c/\v = .str ⟨#[c]⟩,fun i _=>i = x.cps.size⟩
theorem Lz {P:Program} {w:World} {K:Frag} {tg:Expr} (it:Addr) (x:Str) (t:Tok) (ty:String) (hty : ["enumerate", "zip", "dict_itemiterator", "dict_reverseitemiterator", "odict_iterator", "itertools.zip_longest", "itertools.pairwise"].contains ty = false)
  (W:∀ A:Around,A.handled = none->Walks P w A it [it] [it] x.cps.size (SignAt x) (fun i h=>h.IsStrIter it ty x t i))
  (hself:∀ (A:Around) (i:Nat) (s:Shared) (Q:Value->Shared->Prop) (E:Value->Shared->Prop),s.heap.IsStrIter it ty x t i->Q (.ref it) s->wpAny (model P w) A (pyIter (.ref it)) Q E s):Turn P w K tg (Its x) [it] it (fun i h=>h.IsStrIter it ty x t i) where
 mem:=by simp
 obj:=fun i h st b hb=>by
  have e:b = it:=by simpa using hb
  subst e
  obtain ⟨o,ho,_,hd⟩:=st
  exact ⟨o,ho,fun v z=>by rw [hd] at z; cases z⟩
 keep:=fun i h h' st k=>let ⟨o,ho,r⟩:=st; ⟨o,k it (by simp) o ho,r⟩
 item:=by
  intro X hP hw hK hc i pins s σ H E I hf st hg
  subst hP hw hK
  obtain ⟨f0,f1,f2,f3,f4,f5⟩:=hf it (by simp)
  refine (W X.A (I.ok.hd hc)).item i s _ _ hg st fun v h' tk hv st' kk=>?_
  obtain ⟨c,u,hx,rfl⟩:=hv
  have I1:Inv X pins σ H { s with heap:=h',toks:=tk }:=I.turned (fun b o hb e=>kk b o (by simpa using hb) e) f0 f1 f3 f4 f5
  obtain ⟨o,ho,hcl,hd⟩:=id st'
  exact ⟨_,rfl,Lj (s:={ s with heap:=h',toks:=tk }) ho hcl hd hty ⟨.str ⟨#[c]⟩,H,I1,⟨u,rfl⟩,⟨rfl,c,hx,rfl⟩,st',fun b hb=>(hf b hb).1⟩⟩
 done:=by
  intro X hP hw hK hc i pins s σ H E I hf st hg
  subst hP hw hK
  obtain ⟨f0,f1,f2,f3,f4,f5⟩:=hf it (by simp)
  have hg':i = x.cps.size:=hg
  subst hg'
  exact (W X.A (I.ok.hd hc)).done s _ _ st fun h' tk kk=>⟨rfl,I.turned (fun b o hb e=>kk b o (by simpa using hb) e) f0 f1 f3 f4 f5⟩
 self:=hself
section
variable {X:Cx} {tg:Expr}
def aeL (te:TE):TI:=fun σ H R=>te σ H fun v H1=>∃ x,v = .str x/\R (Its x) H1
theorem abw {l:Expr} {tl:TE} (hl:PE X l tl):PI X tg l (aeL tl):=by
 intro pins s σ H R I h
 refine thn (hl pins s σ H _ I h) fun v s1 ⟨x,H1,I1,r1,y,ey,q⟩=>?_
 subst ey
 obtain ⟨t,rfl⟩:=r1
 have fp:∀ b ∈ [s1.heap.objs.size],Ag X pins H1 b:=fun b hb=>by
  have e:b = s1.heap.objs.size:=by simpa using hb
  subst e
  exact I1.fpOk (aG _) (I1.hok.fresh (aG _))
 have k:∀ o:Obj,Inv X pins σ H1 { s1 with heap:=s1.heap.push o }:=fun o=>I1.kept (t':=s1.toks) fun b ob z=>aH _ z
 cases ha:y.cps.all (· < 128)
 .exact wpAny_pyIter_wide ha ⟨s1.heap.objs.size,[s1.heap.objs.size],_,Its y,H1,rfl,k _,Lz _ y t "str_iterator" (by decide) (fun A hA=>Walks.strWide hA _ y t) (fun A i s Q E st h=>wpAny_pyIter_striter_wide st h),⟨_,aZ _ rfl,rfl,rfl⟩,fp,q⟩
 .exact wpAny_pyIter_ascii ha ⟨s1.heap.objs.size,[s1.heap.objs.size],_,Its y,H1,rfl,k _,Lz _ y t "str_ascii_iterator" (by decide) (fun A hA=>Walks.strAscii hA _ y t) (fun A i s Q E st h=>wpAny_pyIter_striter_ascii st h),⟨_,aZ _ rfl,rfl,rfl⟩,fp,q⟩
end
def Ed (x:Str) (lo hi:Option Int):Str:=⟨((x.cps.toList.drop (HT.sIx x.length 0 lo)).take (HT.sIx x.length x.length hi - HT.sIx x.length 0 lo)).toArray⟩
theorem strIdx (lo hi:Option Int) (n:Nat):Builtin.Str.strSliceIndices lo hi 1 n = (List.range (HT.sIx n n hi - HT.sIx n 0 lo)).map (HT.sIx n 0 lo + ·):=by
 rw [<- sliceRange_one]
 unfold Builtin.Str.strSliceIndices
 have h1:∀ (o:Option Int) (d:Nat),d <= n->(match o with
   | none=>(d:Int)
   | some i=>(let i:=if i < 0 then i + (n:Int) else i; if (1:Int) > 0 then max 0 (min i n) else max (-1) (min i (n - 1)))) = ((HT.sIx n d o:Nat):Int):=by
  intro o d hd
  cases o with
  | none=>rfl
  | some i =>
   simp only [HT.sIx,show (1:Int) > 0 by decide,if_true]
   by_cases h:i < 0
   .simp only [h,if_true] <;> omega
   .simp only [h,if_false] <;> omega
 have e1:=h1 lo 0 (bA _)
 have e2:=h1 hi n (aG _)
 simp only [show (1:Int) > 0 by decide,if_true] at e1 e2 ⊢
 rw [<- e1,<- e2]
 rfl
theorem ZF (x:Str) (lo hi:Option Int):(⟨((Builtin.Str.strSliceIndices lo hi 1 x.length).filterMap (x.cps[·]?)).toArray⟩ : Str) = Ed x lo hi:=by
 rw [strIdx,pick_run]; rfl
theorem Oc (x:Str) (lo hi:Option Int) (h:(Builtin.Str.strSliceIndices lo hi 1 x.length).length = x.length):Ed x lo hi = x:=by
 rw [strIdx,ao,List.length_range] at h
 have h2:=HT.acj x.length x.length (aG _) hi
 unfold Ed
 have hx:x.length = x.cps.size:=rfl
 have e:x.cps.toList.length = x.length:=by simp [hx]
 by_cases z:x.length = 0
 .have:x.cps.toList = []:=List.length_eq_zero_iff.mp (by omega)
  rw [this]
  obtain ⟨⟨l⟩⟩:=x
  simp at this
  subst this
  simp
 .have e0:HT.sIx x.length 0 lo = 0:=by omega
  rw [e0,List.drop_zero,aM (by omega)]
def aar:V->Option Int->Option Int->Hp->VK->Prop:=fun x lo hi H Q=>∃ y,x = .str y/\y.length <= sizeLine/\Q (.str (Ed y lo hi)) H
theorem part_of {v:Value} {o:Option Int} (h:IsPart v o):∃ l:Option (Int × Tok),v = partValue l/\l.map (·.1) = o:=by
 cases h with
 | none=>exact ⟨none,rfl,rfl⟩
 | int i t=>exact ⟨some (i,t),rfl,rfl⟩
theorem Uw {X:Cx} : SlR X aar:=by
 intro pins s σ H x v vl vu lo hi sl Q I rx hs pl pu h
 obtain ⟨y,rfl,hz,q⟩:=h
 obtain ⟨t,rfl⟩:=rx
 obtain ⟨l,rfl,el⟩:=part_of pl
 obtain ⟨u,rfl,eu⟩:=part_of pu
 refine ⟨"str",_,F.slot_str_getitem.lookup,typeIs_str s y t,wpAny_getItem_str_slice (l:=l) (u:=u) (st:=none) hs rfl ?_⟩
 unfold sliceMade slicePicked
 rw [el,eu]
 split
 .rename_i hw
  have hw':=(Bool.and_eq_true_iff.mp hw).2
  rw [beq_iff_eq] at hw'
  have e:=Oc y lo hi hw'
  rw [e] at q
  exact ⟨.str y,H,I,⟨t,rfl⟩,q⟩
 .have e:=ZF y lo hi
  refine ⟨?_,.str (Ed y lo hi),H,I.tok _,⟨s.toks,?_⟩,q⟩
  .refine aN ?_ hz
   refine aN (Nat.le_of_eq (congrArg Str.length e)) ?_
   show ((y.cps.toList.drop _).take _).toArray.size <= y.cps.size
   rw [bh,bw,List.length_drop,Array.length_toList]
   omega
  .rw [<- e]; rfl
def Nm (tk tv:TE):TE:=fun σ H Q=>∀ p,H p = none->tk σ (upd H p (.dK [])) fun x H1=>∃ i,x = .str i/\tv σ H1 fun y H2=>H2 p = some (.dK [])/\Q (.ref p) (upd H2 p (.dK [(.inr i,y)]))
section
variable {X:Cx}
def QT:R2:=fun x y H Q=>∃ i j,x = .str i/\y = .str j/\i.length + j.length <= sizeLine/\Q (.str (i ++ j)) H
theorem Q8:OpR X (binaryOp .Add) QT:=Om
def aai:R2:=fun x y H Q=>∃ i j,x = .str i/\y = .str j/\Q (.bl (!decide (j.cps.toList < i.cps.toList))) H
theorem Ux:OpR X (compareOp .LtE) aai:=by
 intro pins s σ H x y v u Q I rx ry h
 obtain ⟨i,j,rfl,rfl,q⟩:=h
 obtain ⟨t,rfl⟩:=rx
 obtain ⟨t',rfl⟩:=ry
 exact PySem.P.le_str (dw I q rfl)
def abQ (neg:Bool):R2:=fun x y H Q=>∃ i j,x = .str i/\y = .str j/\∃ c,i = ⟨#[c]⟩/\Q (.bl (if neg then !decide (c ∈ j.cps.toList) else decide (c ∈ j.cps.toList))) H
theorem OpR.imp {f:Value->Value->Sem Value} {r r':R2} (h:OpR X f r) (i:∀ x y H Q,r' x y H Q->r x y H Q):OpR X f r':=fun pins s σ H x y v u Q I rx ry q=>h pins s σ H x y v u Q I rx ry (i _ _ _ _ q)
def XF:List V->Hp->VK->Prop:=fun xs H Q=>∃ x n,xs = [.str x]/\x.length <= 640/\PySem.intText? x = some n/\Q (.int n) H
theorem yU:∀ {bs:List Bool} {us:List Value},Vals (bs.map V.bl) us->∀ (i:Nat) (v:Value),us[i]? = some v->∃ b,bs[i]? = some b/\v = .bool b
 | [],_,.nil,i,v,h=>by cases i <;> cases h
 | b :: bs,_,.cons r t,0,v,h=>by
  rw [List.getElem?_cons_zero] at h
  cases h
  exact ⟨b,rfl,r⟩
 | b :: bs,_,.cons r t,i + 1,v,h=>by
  rw [List.getElem?_cons_succ] at h
  exact yU t i v h
def Ro:List V->Hp->VK->Prop:=fun xs H Q=>∃ (l:Addr) (bs:List Bool),xs = [.ref l]/\H l = some (.lst (bs.map V.bl))/\Q (.bl (bs.all id)) H
theorem rO:∀ bs:List Bool,((List.range bs.length).all fun i=>(bs[i]?).getD true) = bs.all id
 | []=>rfl
 | b :: bs=>by
  rw [List.length_cons,List.range_succ_eq_map,List.all_cons,List.all_map,List.all_cons]
  have:=rO bs
  simp only [Function.comp_def,List.getElem?_cons_succ,List.getElem?_cons_zero,Option.getD_some,id] at this ⊢
  rw [this]
theorem zP (hc:X.calm = true):gj X (.builtin "all") Ro:=by
 intro pins s σ H xs us Q I r h
 obtain ⟨l,bs,rfl,hl,q⟩:=h
 obtain ⟨u,rfl,ru⟩:=r.one
 cases ru
 obtain ⟨its,rv,p⟩:=I.lstIs hl
 have hlt:l < s.heap.objs.size:=by obtain ⟨_,e,_⟩:=p; exact aK e
 refine call_all_walk (wpAny_pyIter_list p ?_)
 refine ⟨s.heap.objs.size,[s.heap.objs.size,l],[s.heap.objs.size],its.toArray.size,_,_,fun i=>(bs[i]?).getD true,rfl,Walks.list (A:=X.A.in1) (I.ok.hd hc) _ l (aU hlt) its.toArray,
  ⟨⟨_,aZ _ rfl,rfl,rfl⟩,p.push _⟩,fun i v s' Q' E' hP hQ=>?_,fun h' tk hk=>?_⟩
 .obtain ⟨b,e,rfl⟩:=yU rv i v (by simpa using hP)
  simp only [e,Option.getD_some] at hQ
  exact wpAny_truthy_bool hQ
 .have e:((List.range its.toArray.size).all fun i=>(bs[i]?).getD true) = bs.all id:=by
   rw [bh,<- rv.length,ao]; exact rO bs
  refine ⟨.bl (bs.all id),H,I.kept (t':=tk) fun b o q=>hk b o (fun hm=>?_) (aH _ q),?_,q⟩
  .rw [List.mem_singleton.mp hm] at q
   exact Nat.lt_irrefl _ (aK q)
  .rw [e]; rfl
def Io:V->List V->Hp->VK->Prop:=fun x vs H Q=>∃ a b,x = .str a/\vs = [.str b]/\Q (.bl (decide (0 + b.length <= a.length) && Builtin.Str.subAt a b 0)) H
def adH:List Nat->Int
 | i :: _=>(i:Int)
 | []=>-1
def V0:V->List V->Hp->VK->Prop:=fun x vs H Q=>∃ a b,x = .str a/\vs = [.str b]/\Q (.int (adH (Builtin.Str.occurrences a b 0 a.length 1))) H
def Ow:V->List V->Hp->VK->Prop:=fun x vs H Q=>∃ a b,x = .str a/\vs = [.str b]/\1 <= b.length/\a.length < sizeLine/\∀ p,H p = none->Q (.ref p) (upd H p (.lst ((Txt.split a b).map V.str)))
def tSM (r:V->List V->Hp->VK->Prop) (to:TE) (t:TA):TE:=fun σ H Q=>to σ H fun x H1=>(∃ y,x = .str y)/\t σ H1 fun vs H2=>r x vs H2 Q
theorem ad1 {o e:Expr} {to:TE} {t:TA} {name:Str} {id:String} {r:V->List V->Hp->VK->Prop} {apos cpos:Pos} (slot:Slot "str" name id) (hty:typeOf (.builtin id) = pure (.type "method_descriptor")) (hm:MtM X id r) (ho:PE X o to) (ha:PA X [e] t)
  (hb:attributeBase o name X.env (eval o X.env) = eval o X.env:=by rfl)
  (hf:((backTo cpos (starEach [e] X.env)).all (fun x=>!x.1) && (backToKw cpos (keywordEach [] X.env)).all (fun x=>x.1.isSome) && decide ([e].length + ([] : List Keyword).length + (if ([] : List Keyword).isEmpty then 0 else 1) < 30)) = true:=by rfl)
  (hl:(apos.endLine == cpos.line) = true:=by rfl) (hs:starEach [e] X.env = (false,eval e X.env) :: starEach [] X.env:=by rfl) (hp:(backTo cpos (starEach [] X.env)).any (·.1) = false:=by rfl) :
  PE X (.Call (.Attribute o name apos) [e] [] cpos) (tSM r to t):=by
 refine (aaU PySem.F.plainAttrs_str slot hty hm ho.mono ha hb hf hl hs hp).imp fun σ H Q h=>?_
 refine ⟨_,h,?_⟩
 rintro x H1 ⟨⟨y,rfl⟩,h2⟩
 exact ⟨rfl,h2⟩
theorem Ls {x:Str} {v:V} {pos:Pos} (hg:Gl X x) (hm:∃ u,X.mg x = some u/\RelV v u) (hd:(x == ("__debug__" : Str)) = false:=by decide):PE X (.Name x pos) (tC v):=by
 obtain ⟨u,h1,h2⟩:=hm
 exact Jb hg h1 h2 hd
def VR:R2:=fun x y H Q=>∃ i n,x = .str i/\y = .int n/\i.length = 1/\0 <= n/\n <= 1000/\∀ z:Str,z.length <= n.toNat + 1->Q (.str z) H
theorem aaP {a b:Expr} {ta tb:TE} {pos:Pos} (ha:PEB X a ta) (hb:PE X b tb) (hs:Qt b):PEB X (.Subscript a b pos) (tOp Ks ta tb):=⟨bV bY ha.out hb hs⟩
theorem Bl {st:Stmt} {t:TS} (h1:PSB X st t):aah X [st] t:=⟨bO h1.out⟩
end
theorem cC.calm {P:Program} {w:World} {K:Frag} {mg:Str->Option Value} {base:Heap} {k:Nat} {f:Addr} {fd:FuncData} {ps:List Str} {sp:Sp} (F:cC P w K mg base (CXO P w) k f fd ps sp) :
  cC P w K mg base CX0 k f fd ps (fun vs H Q _=>sp vs H Q fun _ _ _=>False):=by
 refine ⟨fun vs H Q E h=>F.len _ _ _ _ h,fun A outer s H args us vs Q E hr e0 hb r h=>?_⟩
 refine codeAny_mono (F.run A outer s H args us vs Q _ hr e0 hb r h) fun res s' hs=>?_
 cases res with
 | error e =>
  obtain ⟨_,_,_,_,_,_,_,z⟩:=hs
  exact z.elim
 | ok fl =>
  cases fl with
  | ret u=>exact hs
  | next=>exact hs
  | brk=>exact hs
  | cont=>exact hs
theorem OkX.calm {P:Program} {w:World} {K:Frag} {mg:Str->Option Value} {base:Heap} {k:Nat} {x:Str} {ps:List Str} {sp:Sp} (F:OkX P w K mg base k x ps sp) :
  OkF P w K mg base k x ps (fun vs H Q _=>sp vs H Q fun _ _ _=>False):=let ⟨f,fd,a,b⟩:=F; ⟨f,fd,a.calm,b⟩
def hid (y:Str):Str:=Str.ofString "?" ++ y
def Gx (xs:List Str) (N:List Str):List Str:=N.map fun y=>if y ∈ xs then hid y else y
def Cx.compG (X:Cx) (N':List Str) (scope:Scope) (xs:List Str) (C:Addr) (s₀:Shared) (H₀:Hp) (ex:List Addr) (pn:List (Addr × Obj)):Cx :=
 { X with env:=compEnvC scope (zN X.env.cells scope.names []) C X.env,N:=xs ++ N',s₀:=s₀,H₀:=H₀,outer:=X.stack,ex:=ex,fn:=fun _=>false,pn:=pn,xe:=fun _ _=>False }
def PTs (X:Cx) (ifs:List Expr) (tc:TT):Prop:=∀ (pins:List (Addr × Obj)) (s:Shared) (σ:L2.St) (H:Hp) (Q:Bool->Hp->Prop),Inv X pins σ H s->tc σ H Q ->
 wpAny (model X.prog X.w) X.A (forIn ifs true fun c r=>if r = true then do let ok <- isTrue c X.env (eval c X.env); pure (ForInStep.yield ok) else pure (ForInStep.yield r)) (fun b s'=>∃ H',Inv X pins σ H' s'/\Q b H') X.xe s
def Lw:TT:=fun _ H Q=>Q true H
theorem dj {X:Cx} : PTs X [] Lw:=fun _ _ _ H _ I q=>wpAny_tests_nil ⟨H,I,q⟩
theorem aav {X:Cx} {c:Expr} {tc:TT} (h:PT X c tc):PTs X [c] tc:=fun pins s σ H Q I q=>wpAny_tests_one (h pins s σ H Q I q)
def lX (wi:TI) (n:Nat) (gt:TG) (tc:TT) (te:TE):TE:=fun σ H Q=>wi σ H fun J H1=>∀ D,H1 D = none->∃ W:Nat->Nat->List V->Hp->Prop,(∃ m,W 0 m [] (upd H1 D (.lst [])))/\∀ i m ys Hc,W i m ys Hc ->
 (J.stop i Hc/\Q (.ref D) Hc)\/(J.go i Hc/\∀ x H',J.yld i Hc x H'->∀ pre:L2.St,pre.length = n->gt x (pre ++ σ) H' fun σ2 H2=>∃ pre':L2.St,pre'.length = n/\σ2 = pre' ++ σ/\tc σ2 H2 fun b H3 =>
  match b with
  | true=>te σ2 H3 fun y H4=>ys.length < sizeLine/\H4 D = some (.lst ys)/\∃ m',m' < m/\W (i + 1) m' (ys ++ [y]) (upd H4 D (.lst (ys ++ [y])))
  | false=>∃ m',m' < m/\W (i + 1) m' ys H3)
section
variable {X:Cx} {elt iter:Expr} {pos:Pos} {scope:Scope} {wi:TI} {te:TE}
theorem El {use:Option (Value->Sem Unit)} {post:Value->Shared->Prop} {Qv:VK} {pins:List (Addr × Obj)} {s:Shared} {σ:L2.St} {H:Hp} {pp:Pos} {xs N':List Str} {tg:Expr} {ifs:List Expr} {gt:TG} {tc:TT} (hc:X.calm = true) (hsh:Gx xs X.N = N') (hN:(xs ++ N').Nodup) (hkind:scope.kind = .function) (hcell:∀ y ∈ scope.names,y.2 ≠ .cell) (hnames:∀ y ∈ scope.names,y.2 = .local->scope.names.lookup y.1 = some .local)
  (hfree:∀ y ∈ scope.names,y.2 = .free->X.env.kindOf y.1 = some .cell\/X.env.kindOf y.1 = some .free) (hloc:∀ y ∈ X.N,y ∉ xs->(relabel scope X.env).names.lookup y ≠ some .local) (hq:∀ y ∈ X.N,y ∈ xs->(relabel scope X.env).names.lookup (hid y) = none) (hi:PI X tg iter wi)
  (hg:∀ C s₀ H₀ ex pn,PG (X.compG N' scope xs C s₀ H₀ ex pn) tg gt) (ht:∀ C s₀ H₀ ex pn,PTs (X.compG N' scope xs C s₀ H₀ ex pn) ifs tc) (he:∀ C s₀ H₀ ex pn,PE (X.compG N' scope xs C s₀ H₀ ex pn) elt te) (hs:∀ z,foldedSetIterable iter X.env z = pure z) (I:Inv X pins σ H s) (h:lX wi xs.length gt tc te σ H Qv)
  (endC:∀ (C D:Addr) (Hc:Hp) (s6:Shared) (m:Str->Option Value) (fl:Flow),s6.heap.Ns C m->Inv X pins σ Hc s6->Ag X pins Hc C->Qv (.ref D) Hc->compPost (model X.prog X.w) X.A X.xe use post (.ref D) C (.ok fl) s6) :
  wpAny (model X.prog X.w) X.A (comprehension (.ListComp elt [⟨tg,iter,ifs,0⟩] scope pos) scope X.env pp (newList []) false (eval iter X.env) use) post X.xe s:=by
 have hfr:∀ y ∈ scope.names,y.2 = .free->∃ c,X.env.cells.lookup y.1 = some c:=fun y hy e=>I.ok.has y.1 (hfree y hy e)
 refine wpAny_comprehension_free (use:=use) (Q:=post) rfl hs (Nq hfr) hkind hnames (thn (hi pins s σ H _ I h) fun v s1 h1=>thn h1 fun itv s2 h2=>?_)
 obtain ⟨it,fp,tn,J,H2,e,I2,T,st2,f2,R⟩:=h2
 subst e
 have nD:H2 s2.heap.objs.size = none:=I2.hok.fresh (aG _)
 obtain ⟨W,⟨m0,w0⟩,turn⟩:=R s2.heap.objs.size nD
 refine wpAny_newObj_type ?_ (by show 0 <= sizeLine; exact bA _)
 have I3:Inv X pins σ (upd H2 s2.heap.objs.size (.lst [])) { s2 with heap:=s2.heap.push { cls:=.type "list",dict:=none,data:=.seq ([] : List Value).toArray } }:=I2.lnew (t':=s2.toks) (ys:=[]) (its:=[]) .nil (bA _)
 have oldT:∀ b o,s2.heap.get? b = some o->(s2.heap.push { cls:=.type "list",dict:=none,data:=.seq ([] : List Value).toArray }).get? b = some o:=fun b o e=>aH _ e
 generalize hs3:({ s2 with heap:=s2.heap.push { cls:=.type "list",dict:=none,data:=.seq ([] : List Value).toArray } } : Shared) = s3 at I3 ⊢
 have st3:tn 0 s3.heap:=T.keep _ _ _ st2 fun b _ o e=>by rw [<- hs3]; exact oldT b o e
 generalize hH3:upd H2 s2.heap.objs.size (.lst []) = H3 at I3 w0
 have f3:∀ b ∈ fp,Ag X pins H3 b:=fun b hb=>by
  obtain ⟨a1,a2⟩:=f2 b hb
  refine ⟨?_,a2⟩
  obtain ⟨o,e,_⟩:=T.obj _ _ st2 b hb
  rw [<- hH3,bL (aU (aK e))]
  exact a1
 refine wpAny_newFunctionEnv hcell (by intro y hy; simp at hy) (fun g hns hsb=>?_) hkind
 have kg:∀ b o,s3.heap.get? b = some o->g.get? b = some o:=fun b o e=>(hsb.2 b (aU (aK e))).trans (aH _ e)
 have clm:∀ {y:Str} {c:Addr},(zN X.env.cells scope.names []).lookup y = some c->X.env.cells.lookup y = some c:=fun {y c} e=>by
  rcases Lp hfr (PySem.mem_of_lookup e) with z | z
  .cases z
  .exact z
 have kinds:∀ {y:Str},((relabel scope X.env).names.lookup y = some .cell\/(relabel scope X.env).names.lookup y = some .free)->(X.env.kindOf y = some .cell\/X.env.kindOf y = some .free)/\∃ c,(zN X.env.cells scope.names []).lookup y = some c:=fun {y} e=>by
  have z:=wR e hcell
  obtain ⟨c,hc'⟩:=Mu (cells:=X.env.cells) (acc:=[]) (.inl z)
  exact ⟨hfree _ z rfl,oM hc'⟩
 have lt3:∀ b ∈ fp,b < s3.heap.objs.size:=fun b hb=>by
  obtain ⟨o,e,_⟩:=T.obj _ _ st3 b hb
  exact aK e
 have nst:∀ b ∈ fp,b ∉ frs X.stack:=fun b hb=>I3.nostk' (f3 b hb).2.1 (f3 b hb).2.2.1
 generalize hX:X.compG N' scope xs s3.heap.objs.size s3 H3 fp (X.pn ++ pins) = Y
 have ok':Y.Ok:=by
  subst hX
  exact ⟨I3.ok.mod,hkind,I3.ok.glob,I3.ok.blt,aG _,fun y z c h1 h2=>I3.ok.inj y z c (clm h1) (clm h2),fun y hy=>(kinds hy).2,fun _ _ z=>(nomatch z),I3.ok.hd,I3.ok.frames,.inl rfl,
   fun b hb=>⟨aU (lt3 b hb),fun y c e=>(f3 b hb).2.2.2.2.1 y c (clm e)⟩,I3.bs,aN I3.ok.bsz I3.sz,fun b o e hb=>by
    rcases (f3 b hb).2.2.2.1 with z | z
    .exact I3.ok.noex b o e z
    .exact absurd (aV (aV (aK e) I3.ok.bsz) z) (Nat.lt_irrefl _),nst,I3.stack,I3.stkFree⟩
 have J4:∀ tk,Inv Y [] (List.replicate xs.length none ++ σ) H3 { s3 with heap:=g,toks:=tk }:=fun tk=>by
  subst hX
  refine ⟨ok',rfl,I3.bare,Un.kept kg,⟨_,hns,fun i y v e1 e2 e3=>?_⟩,fun y c e=>?_,I3.hok.fresh (aG _),fun y c e=>I3.freeC y c (clm e),fun p hp=>?_,I3.hok.kept kg,?_⟩
  .by_cases hin:i < xs.length
   .rw [aF (by rw [aO]; exact hin),List.getElem?_replicate,if_pos hin] at e2
    cases e2
   .obtain ⟨j,rfl⟩ : ∃ j,i = xs.length + j:=⟨i - xs.length,by omega⟩
    have e0:N'[j]? = some y:=by
     have e1:(xs ++ N')[xs.length + j]? = some y:=e1
     rw [aD (by omega)] at e1
     rw [show xs.length + j - xs.length = j by omega] at e1
     exact e1
    have e2':σ[j]? = some (some v):=by
     rw [aD (by rw [aO]; omega),aO] at e2
     rw [show xs.length + j - xs.length = j by omega] at e2
     exact e2
    rw [<- hsh] at e0
    obtain ⟨y0,e1',ey⟩ : ∃ y0,X.N[j]? = some y0/\(if y0 ∈ xs then hid y0 else y0) = y:=by
     unfold Gx at e0
     rw [au] at e0
     cases hz:X.N[j]? with
     | none=>rw [hz] at e0; cases e0
     | some y0=>rw [hz] at e0; exact ⟨y0,rfl,Option.some.inj e0⟩
    have e3:(relabel scope X.env).names.lookup y = some .local\/(relabel scope X.env).names.lookup y = some .cell\/(relabel scope X.env).names.lookup y = some .free:=e3
    have ne:¬ y0 ∈ xs:=fun z=>by
     rw [if_pos z] at ey
     subst ey
     rw [hq y0 (aC e1') z] at e3
     rcases e3 with z | z | z <;> cases z
    rw [if_neg ne] at ey
    subst ey
    have e3':(relabel scope X.env).names.lookup y0 = some .cell\/(relabel scope X.env).names.lookup y0 = some .free:=by
     rcases e3 with z | z
     .exact absurd z (hloc y0 (aC e1') ne)
     .exact z
    obtain ⟨kd,c,hcl⟩:=kinds e3'
    obtain ⟨m,_,hl⟩:=I3.loc
    obtain ⟨u,r,lk⟩:=hl j y0 v e1' e2' (.inr kd)
    refine ⟨u,r,.inr ⟨e3',c,hcl,?_⟩⟩
    rcases lk with ⟨k1,_⟩ | ⟨_,c',q1,o,q2,q3⟩
    .exfalso
     have k1':X.env.kindOf y0 = some .local:=k1
     rcases kd with k2 | k2 <;> rw [k1'] at k2 <;> cases k2
    .rw [clm hcl] at q1
     cases q1
     exact ⟨o,kg _ _ q2,q3⟩
  .obtain ⟨v,o,q2,q3⟩:=I3.cell y c (clm e)
   exact ⟨v,o,kg _ _ q2,q3⟩
  .have hp':p ∈ X.pn ++ pins:=by simpa [Cx.compG] using hp
   obtain ⟨a1,a2,a3,a4,a5⟩:=I3.pin p hp'
   exact ⟨kg _ _ a1,a2,aU (aK a1),I3.nostk' a3 a4,a5⟩
  .show (List.replicate xs.length none ++ σ).length = (xs ++ N').length
   have hln:N'.length = X.N.length:=by rw [<- hsh]; unfold Gx; rw [ao]
   rw [aB,aO,aB,I3.len,hln]
 have fpY:∀ {Hc:Hp},(∀ b ∈ fp,Hc b = none)->∀ b ∈ fp,Ag Y [] Hc b:=fun {Hc} hn b hb=>by
  subst hX
  exact ⟨hn b hb,aU (lt3 b hb),nst b hb,.inl hb,fun y c e=>(f3 b hb).2.2.2.2.1 y c (clm e),fun p hp=>(f3 b hb).2.2.2.2.2 p (by simpa [Cx.compG] using hp)⟩
 have loop:∀ s4:Shared,s4 = { s3 with heap:=g,toks:=s3.toks + ([] : List (Str × Value)).length } ->
   codeAny (model X.prog X.w) X.A (.compLoop (.ListComp elt [⟨tg,iter,ifs,0⟩] scope pos) 0 (.ref it) (.ref s2.heap.objs.size) Y.env) (compPost (model X.prog X.w) X.A X.xe use post (.ref s2.heap.objs.size) s3.heap.objs.size) s4:=by
  rintro s4 rfl
  have YP:Y.prog = X.prog/\Y.w = X.w/\Y.K = X.K/\Y.calm = X.calm/\Y.A = X.A/\Y.env.locals = s3.heap.objs.size:=by subst hX; exact ⟨rfl,rfl,rfl,rfl,rfl,rfl⟩
  obtain ⟨y1,y2,y3,y4,y5,y6⟩:=YP
  have he':PE Y elt te:=by subst hX; exact he _ _ _ _ _
  have hg':PG Y tg gt:=by subst hX; exact hg _ _ _ _ _
  have ht':PTs Y ifs tc:=by subst hX; exact ht _ _ _ _ _
  have xeY:Y.xe = fun _ _=>False:=by subst hX; rfl
  have yb:∀ {Hc:Hp} {w':L2.St} {pn:List (Addr × Obj)} {s':Shared},Inv Y pn w' Hc s'->Un (frs X.stack) fp H3 Hc s3.heap s'.heap:=fun {Hc w' pn s'} Z=>by
   have:=Z.base
   subst hX
   exact this
  have yos:∀ {Hc:Hp} {w':L2.St} {pn:List (Addr × Obj)} {s':Shared},Inv Y pn w' Hc s'->s'.os = s3.os:=fun {Hc w' pn s'} Z=>by
   have:=Z.os
   subst hX
   exact this
  refine codeAny_loop rfl (fun n s'=>∃ i ys Hc,∃ w':L2.St,w'.length = xs.length/\Inv Y [] (w' ++ σ) Hc s'/\tn i s'.heap/\(∀ b ∈ fp,Hc b = none)/\W i n ys Hc) (fun n s5 hI=>?_) m0 ⟨0,[],H3,List.replicate xs.length none,aO,J4 _,T.keep _ _ _ st3 fun b _ o e=>kg b o e,fun b hb=>(f3 b hb).1,w0⟩
  obtain ⟨i,ys,Hc,w',hw',Z,stc,frc,wc⟩:=hI
  show wpAny _ _ ((compTurn (.ListComp elt [⟨tg,iter,ifs,0⟩] scope pos) 0 (.ref it) (.ref s2.heap.objs.size) Y.env).onRaise (fun z=>do noteFrame z Y.env; theTreesLotGoes z)) _ _ s5
  refine wpAny_noted (wpAny_noRaise ?_)
  rw [compTurn_list]
  show wpAny (model X.prog X.w) X.A _ _ _ _
  rcases turn i n ys Hc wc with ⟨stop,qn⟩ | ⟨go,step⟩
  .have hd:=T.done Y y1 y2 y3 (y4.trans hc) i [] s5 (w' ++ σ) Hc (fun _ _=>False) Z (fpY frc) stc stop
   rw [y5] at hd
   refine wpAny_bind (wpAny_standAt (wpAny_bind (thn hd fun r s6 ⟨hr,Z6⟩=>?_)))
   subst hr
   refine wpAny_pure ?_
   obtain ⟨m,hn6,_⟩:=Z6.loc
   rw [y6] at hn6
   have u6:=yb Z6
   have hok:HOk X.prog X.w Hc s6.heap:=by
    have z:=Z6.hok
    rw [y1,y2] at z
    exact z
   have cn:Hc s3.heap.objs.size = none:=by
    have z:=Z6.free
    rw [y6] at z
    exact z
   have I6:Inv X pins σ Hc s6:=I3.call' (s':=s6) (ch:=fp) (yos Z6) u6 hok Z6.bare fun b hb=>⟨(f3 b hb).2.2.2.1,(f3 b hb).2.1,(f3 b hb).2.2.2.2.1,(f3 b hb).2.2.2.2.2⟩
   have fC:Ag X pins Hc s3.heap.objs.size:=I3.fpOk (aG _) cn
   exact endC _ _ Hc s6 m _ hn6 I6 fC qn
  .have hd:=T.item Y y1 y2 y3 (y4.trans hc) i [] s5 (w' ++ σ) Hc (fun _ _=>False) Z (fpY frc) stc go
   rw [y5] at hd
   refine wpAny_bind (wpAny_standAt (wpAny_bind (thn hd fun r s6 ⟨u,hr,h6⟩=>?_)))
   subst hr
   refine wpAny_bind (thn h6 fun _ s7 ⟨xv,H7,Z7,r7,yl,st7,fr7⟩=>?_)
   have Z7':=Z7.pinned (fpY fr7) (T.obj _ _ st7)
   have hst:=hg' _ s7 _ H7 xv u _ Z7' r7 (step xv H7 yl w' hw')
   rw [y1,y2,y5,xeY] at hst
   refine wpAny_bind (thn hst fun _ s8 ⟨σ8,H8,Z8,pre,hpre,e8,q8⟩=>?_)
   subst e8
   have hte:=ht' _ s8 _ H8 _ Z8 q8
   rw [y1,y2,y5,xeY] at hte
   have fin:∀ {m':Nat} {ys':List V} {H9:Hp} {s9:Shared},Inv Y ([] ++ Ec fp s7.heap) (pre ++ σ) H9 s9->m' < n->W (i + 1) m' ys' H9->∃ m,m < n/\∃ i ys Hc,∃ w':L2.St,w'.length = xs.length/\Inv Y [] (w' ++ σ) Hc s9/\tn i s9.heap/\(∀ b ∈ fp,Hc b = none)/\W i m ys Hc:=fun {m' ys' H9 s9} Z9 hm' w9 =>
    ⟨m',hm',i + 1,ys',H9,pre,hpre,Z9.unpinned,T.keep _ _ _ st7 fun b hb o e=>(Z9.pin (b,o) (aR _ (aR _ (oY hb e)))).1,fun b hb=>by
     obtain ⟨o,e,_⟩:=T.obj _ _ st7 b hb
     exact (Z9.pin (b,o) (aR _ (aR _ (oY hb e)))).2.1,w9⟩
   refine wpAny_bind (thn hte fun ok s9 ⟨H9,Z9,q9⟩=>?_)
   cases ok with
   | false =>
    obtain ⟨m',hm',w9⟩:=q9
    exact wpAny_pure ⟨rfl,fin Z9 hm' w9⟩
   | true =>
    have hel:=he' _ s9 _ H9 _ Z9 q9
    rw [y1,y2,y5,xeY] at hel
    refine wpAny_bind (wpAny_bind (thn hel fun ev s10 ⟨yv,H10,Z10,r10,hz,hD10,m',hm',w10⟩=>?_))
    have hap:=GP (X:=Y) _ s10 _ H10 (.ref s2.heap.objs.size) [yv] (.ref s2.heap.objs.size) [ev] (fun _ Hf=>Hf = upd H10 s2.heap.objs.size (.lst (ys ++ [yv]))) Z10 rfl (.cons r10 .nil) ⟨_,ys,yv,rfl,rfl,hD10,hz,rfl⟩
    rw [y1,y2,y5,xeY] at hap
    refine wpAny_bind (thn hap fun av s11 ⟨_,H11,Z11,_,e11⟩=>?_)
    subst e11
    exact wpAny_pure (wpAny_pure ⟨rfl,fin Z11 hm' w10⟩)
 have henv:Y.env = compEnvC scope (zN X.env.cells scope.names []) s3.heap.objs.size X.env:=by subst hX; rfl
 rw [henv] at loop
 exact codeAny_compStart_list (loop _ rfl) (T.self _ 0 _ _ _ (T.keep _ _ _ st3 fun b _ o e=>kg b o e) (loop _ rfl))
theorem WW {xs N':List Str} {tg:Expr} {ifs:List Expr} {gt:TG} {tc:TT} (hc:X.calm = true) (hsh:Gx xs X.N = N') (hN:(xs ++ N').Nodup) (hkind:scope.kind = .function) (hcell:∀ y ∈ scope.names,y.2 ≠ .cell) (hnames:∀ y ∈ scope.names,y.2 = .local->scope.names.lookup y.1 = some .local)
  (hfree:∀ y ∈ scope.names,y.2 = .free->X.env.kindOf y.1 = some .cell\/X.env.kindOf y.1 = some .free) (hloc:∀ y ∈ X.N,y ∉ xs->(relabel scope X.env).names.lookup y ≠ some .local) (hq:∀ y ∈ X.N,y ∈ xs->(relabel scope X.env).names.lookup (hid y) = none) (hi:PI X tg iter wi)
  (hg:∀ C s₀ H₀ ex pn,PG (X.compG N' scope xs C s₀ H₀ ex pn) tg gt) (ht:∀ C s₀ H₀ ex pn,PTs (X.compG N' scope xs C s₀ H₀ ex pn) ifs tc) (he:∀ C s₀ H₀ ex pn,PE (X.compG N' scope xs C s₀ H₀ ex pn) elt te) (hs:∀ z,foldedSetIterable iter X.env z = pure z:=by intro _; rfl) :
  PE X (.ListComp elt [⟨tg,iter,ifs,0⟩] scope pos) (lX wi xs.length gt tc te):=by
 intro pins s σ H Q I h
 rw [eval_ListComp]
 exact El hc hsh hN hkind hcell hnames hfree hloc hq hi hg ht he hs I h fun C D Hc s6 m fl hn I6 fC q=>⟨m,hn,fun h' hs'=>⟨.ref D,Hc,I6.turned (it:=C) (h':=h') (t':=s6.toks) (fun b o hb e=>(hs'.2 b hb).trans e) fC.1 fC.2.1 fC.2.2.2.1 fC.2.2.2.2.1 fC.2.2.2.2.2,rfl,q⟩⟩
end
section
variable {X:Cx} {k:Nat} {f C:Addr} {fd:FuncData} {ps:List Str} {sp:Sp} {dvs:List V} {ds:List Value} {x m:Str} {p pos apos:Pos} {e o:Expr} {es:List Expr} {ta:TE} {t:TA} {Ex:Value->Option Addr->L2.St->Hp->Prop}
def abL (C:Addr) (sp:Sp) (dvs:List V) (Ex:Value->Option Addr->L2.St->Hp->Prop) (t:TA):TE:=fun σ H Q=>t σ H fun vs H1=>∀ x dx,H1 x = none->H1 dx = none->dx ≠ x->sp (.ref x :: (vs ++ dvs)) (upd (upd H1 dx (.own x)) x (.ins C dx [])) (fun v H2=>v = .non/\Q (.ref x) H2) fun C d H'=>Ex C d σ H'
theorem Y5 {pins:List (Addr × Obj)} {σ:St} {H:Hp} {s:Shared} {Q:VK} {us:List Value} {vs:List V} (F:cC X.prog X.w X.K X.mg X.base (CXO X.prog X.w) k f fd ps sp) (hr:gJ k X.A) (hb:Binds X.K fd ps ds) (hd:Vals dvs ds) (hx:En X Ex)
  (I:Inv X pins σ H s) (r:Vals vs us) (h:sp (vs ++ dvs) H Q fun C d H'=>Ex C d σ H'):wpAny (model X.prog X.w) X.A (call (.ref f) us) (EP X pins σ Q) X.xe s:=by
 have r2:Vals (vs ++ dvs) (us ++ ds):=r.append hd
 have hl:(us ++ ds).length = ps.length:=by rw [<- r2.length]; exact F.len _ _ _ _ h
 refine wpAny_call (codeAny_mono (F.run X.A X.stack s H ⟨us,[]⟩ (us ++ ds) (vs ++ dvs) Q _ hr I.env0 (hb s us I.kIn hl) r2 h) fun r s' hq=>?_)
 cases r with
 | error e =>
  obtain ⟨a,C,d,H',B,rfl,Fl,q'⟩:=hq
  exact hx pins σ H s a C H' s' B d I Fl q'
 | ok fl =>
  cases fl with
  | ret u=>exact I.after hq
  | next=>exact False.elim hq
  | brk=>exact False.elim hq
  | cont=>exact False.elim hq
theorem Tw {pins:List (Addr × Obj)} {σ:St} {H:Hp} {s:Shared} {Q:VK} {us:List Value} {vs:List V} (M:Mk X.K C f) (F:cC X.prog X.w X.K X.mg X.base (CXO X.prog X.w) k f fd ps sp) (hr:gJ (k + 1) X.A) (hb:Binds X.K fd ps ds) (hd:Vals dvs ds)
  (hx:En X Ex) (I:Inv X pins σ H s) (r:Vals vs us)
  (h:∀ x dx,H x = none->H dx = none->dx ≠ x->sp (.ref x :: (vs ++ dvs)) (upd (upd H dx (.own x)) x (.ins C dx [])) (fun v H2=>v = .non/\Q (.ref x) H2) fun C d H'=>Ex C d σ H') :
  wpAny (model X.prog X.w) X.A (call (.ref C) us) (EP X pins σ Q) X.xe s:=by
 have hq:=h (s.heap.objs.size + 1) s.heap.objs.size (I.hok.fresh (Nat.le_succ _)) (I.hok.fresh (aG _)) (aU (Nat.lt_succ_self _))
 have I2:=Inv.made (C:=C) I
 have r2:Vals (V.ref (s.heap.objs.size + 1) :: (vs ++ dvs)) (Value.ref (s.heap.objs.size + 1) :: (us ++ ds)):=.cons rfl (r.append hd)
 have hl:(Value.ref (s.heap.objs.size + 1) :: us ++ ds).length = ps.length:=by
  have e:=r2.length
  rw [F.len _ _ _ _ hq] at e
  exact e.symm
 refine wpAny_call (VJ (f:=f) I.kIn M.makes M.init (beq_iff_eq.mp M.fn) (codeAny_mono (F.run _ X.stack _ _ ⟨Value.ref (s.heap.objs.size + 1) :: us,[]⟩ (Value.ref (s.heap.objs.size + 1) :: (us ++ ds)) _ _ _ (hr.make C us [])
  (I2.env0.make C us []) (hb _ (Value.ref (s.heap.objs.size + 1) :: us) I2.kIn hl) r2 hq) fun r s' hq'=>?_))
 cases r with
 | error e =>
  obtain ⟨a,C,d,H',B,rfl,Fl,q'⟩:=hq'
  exact hx pins σ _ _ a C H' s' B d I2 Fl q'
 | ok fl =>
  cases fl with
  | ret u =>
   obtain ⟨v,H',I3,rv,ev,q3⟩:=I2.after hq'
   subst ev
   exact ⟨rv,⟨V.ref (s.heap.objs.size + 1),H',I3,rfl,q3⟩⟩
  | next=>exact False.elim hq'
  | brk=>exact False.elim hq'
  | cont=>exact False.elim hq'
theorem U5 (M:Mk X.K C f) (F:cC X.prog X.w X.K X.mg X.base (CXO X.prog X.w) k f fd ps sp) (hr:gJ (k + 1) X.A) (hg:Gl X x) (hm:X.mg x = some (.ref C)) (hb:Binds X.K fd ps ds) (hd:Vals dvs ds) (hx:En X Ex)
  (ha:PA X (e :: es) t) (hdb:(x == ("__debug__" : Str)) = false:=by decide) (he:starEach (e :: es) X.env = (false,eval e X.env) :: starEach es X.env:=by rfl) (hpl:(backTo pos (starEach es X.env)).any (·.1) = false:=by rfl) :
  PE X (.Call (.Name x p) (e :: es) [] pos) (abL C sp dvs Ex t):=by
 intro pins s σ H Q I h
 refine wpAny_Call_Name_kw (pC I hg hm ?_ hdb)
 refine PySem.W.callWith_K (h₀:=X.base) I.ok.mod.kin M.kp (thn (ha pos pins s σ H _ I h) fun us s1 ⟨vs,H1,I1,r,q⟩=>⟨I1.kIn,?_⟩) he hpl
 exact Tw M F hr hb hd hx I1 r q
end
structure kY (K:Frag) (B:Addr) (m:Str) (f:Addr):Prop where
 ga:PySem.W.specialIn K (.ref B) "__getattribute__" = some (some (.builtin "type.__getattribute__"))
 rd:PySem.W.readsIn K B (.type "type") = true
 at_:PySem.W.findCls K (.ref B) (.type "type") m = some (.val (.ref f))
 hd:PySem.W.handedIn (.ref f) = true
 kp:PySem.W.keepIn K (.ref f) = true
section
variable {X:Cx} {k:Nat} {f B:Addr} {fd:FuncData} {ps:List Str} {sp:Sp} {dvs:List V} {ds:List Value} {x m:Str} {p pos apos:Pos} {e:Expr} {es:List Expr} {t:TA} {Ex:Value->Option Addr->L2.St->Hp->Prop}
theorem kY.get {pins:List (Addr × Obj)} {σ:L2.St} {H:Hp} {s:Shared} {pl:Sem Bool} {A:Around} {E:Value->Shared->Prop} {Q:Value × List Value->Shared->Prop} (c:kY X.K B m f) (I:Inv X pins σ H s) (h:∀ t,Q (.ref f,[]) { s with toks:=t }) :
  wpAny (model X.prog X.w) A (getMethod (.ref B) m pl) Q E s :=
 PySem.W.method_cls I.kIn c.ga (PySem.W.cls_value I.kIn c.rd c.at_ c.hd (h _))
theorem Xl {pl:Sem Bool} (c:kY X.K B m f) (F:cC X.prog X.w X.K X.mg X.base (CXO X.prog X.w) k f fd ps sp) (hr:gJ k X.A) (hg:Gl X x) (hm:X.mg x = some (.ref B)) (hb:Binds X.K fd ps []) (hx:En X Ex) (ha:PA X (e :: es) t) (hdb:(x == ("__debug__" : Str)) = false:=by decide)
  (hst:starEach (e :: es) X.env = (false,eval e X.env) :: starEach es X.env:=by rfl) (hpl:(backTo pos (starEach es X.env)).any (·.1) = false:=by rfl)
  (ht:eval (.Call (.Attribute (.Name x p) m apos) (e :: es) [] pos) X.env = (do
   let ov <- eval (.Name x p) X.env
   standAt apos.atName
   let (f,first) <- holding [ov] (getMethod ov m pl)
   callWith pos f first (backTo pos (starEach (e :: es) X.env)) (backToKw pos (keywordEach [] X.env))):=by rfl) :
  PE X (.Call (.Attribute (.Name x p) m apos) (e :: es) [] pos) (zK sp Ex t):=by
 intro pins s σ H Q I h
 refine PySem.W.methodCall_KW (pl:=pl) (pC I hg hm (c.get I fun tk=>?_) hdb) ht
 refine PySem.W.callWith_K (first:=[]) (h₀:=X.base) I.ok.mod.kin c.kp (thn (ha pos pins _ σ H _ (I.tok tk) h) fun us s2 ⟨vs,H2,I2,r,q2⟩=>⟨I2.kIn,?_⟩) hst hpl
 exact Y5 (us:=us) (vs:=vs) F hr hb .nil hx I2 r (by rw [List.append_nil]; exact q2)
end
section
variable {κ:Type} [DecidableEq κ]
def pB (kvs:List (κ × V)) (k:κ):Option V:=(kvs.find? fun kv=>decide (kv.1 = k)).map (·.2)
def putK (kvs:List (κ × V)) (k:κ) (v:V):List (κ × V) :=
 if (kvs.any fun kv=>decide (kv.1 = k)) = true then kvs.map (fun kv=>if kv.1 = k then (kv.1,v) else kv) else kvs ++ [(k,v)]
theorem DW {p:κ × V} {r:List (κ × V)} {k:κ} (e:p.1 = k):pB (p :: r) k = some p.2:=by simp [pB,List.find?_cons,e]
theorem Dg {p:κ × V} {r:List (κ × V)} {k:κ} (e:¬ p.1 = k):pB (p :: r) k = pB r k:=by simp [pB,List.find?_cons,e]
theorem Lh (kvs:List (κ × V)) (k:κ) (v:V):(putK kvs k v).length <= kvs.length + 1:=by
 unfold putK
 split
 .rw [ao]; omega
 .rw [aB,List.length_cons,List.length_nil]; omega
theorem vA.isSome_eq {o:Option V} {u:Option Value} (r:vA o u):o.isSome = u.isSome:=by
 cases o with
 | none=>cases u with
  | none=>rfl
  | some _=>exact (show False from r).elim
 | some _=>cases u with
  | none=>exact (show False from r).elim
  | some _=>rfl
theorem vA.getD {o:Option V} {u:Option Value} {d:V} {d':Value} (r:vA o u) (rd:RelV d d'):RelV (o.getD d) (u.getD d'):=by
 cases o with
 | none=>cases u with
  | none=>exact rd
  | some _=>exact (show False from r).elim
 | some _=>cases u with
  | none=>exact (show False from r).elim
  | some _=>exact r
theorem KV.val {kvs:List (κ × V)} {vs:List (κ × Value)} (r:KV kvs vs) (k:κ):vA (pB kvs k) (valueAt vs k):=by
 unfold KV at r
 induction r with
 | nil=>exact True.intro
 | @cons p q ps qs h t ih =>
  obtain ⟨h1,h2⟩:=h
  by_cases e:p.1 = k
  .have e':q.1 = k:=h1.symm.trans e
   have b:valueAt (q :: qs) k = some q.2:=by simp [valueAt,List.find?_cons,e']
   rw [DW e,b]; exact h2
  .have e':¬ q.1 = k:=fun z=>e (h1.trans z)
   have b:valueAt (q :: qs) k = valueAt qs k:=by simp [valueAt,List.find?_cons,e']
   rw [Dg e,b]; exact ih
theorem KV.any {kvs:List (κ × V)} {vs:List (κ × Value)} (r:KV kvs vs) (k:κ):(kvs.any fun kv=>decide (kv.1 = k)) = vs.any fun kv=>decide (kv.1 = k):=by
 unfold KV at r
 induction r with
 | nil=>rfl
 | cons h t ih=>rw [List.any_cons,List.any_cons,ih,h.1]
theorem KV.repl {kvs:List (κ × V)} {vs:List (κ × Value)} (r:KV kvs vs) (k:κ) {y:V} {u:Value} (ry:RelV y u) :
  KV (kvs.map fun kv=>if kv.1 = k then (kv.1,y) else kv) (vs.map fun kv=>if kv.1 = k then (kv.1,u) else kv):=by
 unfold KV at r ⊢
 induction r with
 | nil=>exact .nil
 | @cons p q ps qs h t ih =>
  rw [List.map_cons,List.map_cons]
  refine .cons ?_ ih
  obtain ⟨h1,h2⟩:=h
  by_cases e:p.1 = k
  .rw [if_pos e,if_pos (h1.symm.trans e)]; exact ⟨h1,ry⟩
  .rw [if_neg e,if_neg (fun z=>e (h1.trans z))]; exact ⟨h1,h2⟩
theorem KV.put {kvs:List (κ × V)} {vs:List (κ × Value)} (r:KV kvs vs) (k:κ) {y:V} {u:Value} (ry:RelV y u):KV (putK kvs k y) (stored vs k u):=by
 unfold putK stored
 rw [r.any k]
 by_cases e:(vs.any fun kv=>decide (kv.1 = k)) = true
 .rw [if_pos e,if_pos e]; exact r.repl k ry
 .rw [if_neg e,if_neg e]; exact Paired.snoc r ⟨rfl,ry⟩
theorem KV.length {kvs:List (κ × V)} {vs:List (κ × Value)} (r:KV kvs vs):kvs.length = vs.length:=Paired.length r
end
theorem M8 {P:Program} {w:World} {k:Key} {u:Value} (r:RelV (kV k) u):(jW P w).is k u = true:=by
 cases k with
 | inl i=>obtain ⟨t,e⟩:=(show ∃ t,u = Value.int i t from r); subst e; exact Mq P w i t
 | inr x=>obtain ⟨t,e⟩:=(show ∃ t,u = Value.str x t from r); subst e; exact K_ P w x t
section
variable {P:Program} {w:World} {H:Hp} {h:Heap} {a:Addr}
theorem aeb {u:HO} (ok:HOk P w H h) (e:Rd H a u):dM P w H h a u:=e.ok ok
theorem BW {kvs:List (Key × V)} (ok:HOk P w H h) (e:Rd H a (.dK kvs)):kvs.length <= sizeLine/\(a == sysModules) = false/\∃ vs,KV kvs vs/\h.DictOf (jW P w) a vs :=
 show dM P w H h a (.dK kvs) from aeb ok e
theorem ady {kvs:List (Key × V)} (ok:HOk P w H h) (e:H a = some (.dK kvs)):kvs.length <= sizeLine/\(a == sysModules) = false/\∃ vs,KV kvs vs/\h.DictOf (jW P w) a vs:=BW ok (.inl e)
end
def uz (H:Hp) (a:Addr) (y:V) (r:Option V):Prop :=
 (∃ kvs k,Rd H a (.dK kvs)/\y = kV k/\r = pB kvs k)\/False
def PB (H:Hp) (a:Addr) (y v:V) (H':Hp):Prop :=
 (∃ kvs k,H a = some (.dK kvs)/\y = kV k/\kvs.length < sizeLine/\H' = upd H a (.dK (putK kvs k v)))\/False
theorem uz.k {H:Hp} {a:Addr} {kvs:List (Key × V)} {k:Key} (e:H a = some (.dK kvs)):uz H a (kV k) (pB kvs k):=.inl ⟨kvs,k,.inl e,rfl,rfl⟩
theorem PB.k {H:Hp} {a:Addr} {kvs:List (Key × V)} {k:Key} {v:V} (e:H a = some (.dK kvs)) (hl:kvs.length < sizeLine):PB H a (kV k) v (upd H a (.dK (putK kvs k v))):=.inl ⟨kvs,k,e,rfl,hl,rfl⟩
section
variable {X:Cx} {pins:List (Addr × Obj)} {σ:St} {H:Hp} {s:Shared} {a:Addr} {y v:V} {u r:Value} {o:Option V} {A:Around} {E:Value->Shared->Prop}
theorem Inv.big (I:Inv X pins σ H s):sysModules < s.heap.objs.size:=by
 have h:mainGlobals < s.heap.objs.size:=(I.mod.glob.keeps I.bk).lt
 exact Nat.lt_trans (by decide) h
theorem Tj {Q:Value->Shared->Prop} (hu:A.units + 1 < cLine) (I:Inv X pins σ H s) (g:uz H a y (some v)) (ry:RelV y u) (h:∀ w' s',Inv X pins σ H s'->RelV v w'->Q w' s') :
  wpAny (model X.prog X.w) A (getItem (.ref a) u) Q E s:=by
 rcases g with ⟨kvs,k,e,ey,l⟩ | hF
 .subst ey
  obtain ⟨z,hd,vs,rel,dd⟩:=BW I.hok e
  obtain ⟨w',hw,rw'⟩:=vA.some_of (v:=v) (o:=valueAt vs k) (by rw [l]; exact rel.val k)
  exact wpAny_getItem_of (M8 ry) dd.mapOf hw (h w' _ (I.tok _) rw')
 .exact hF.elim
theorem ahh {Q:Value->Shared->Prop} (hu:A.units + 1 < cLine) (I:Inv X pins σ H s) (g:uz H a y o) (ry:RelV y u) (h:∀ s',Inv X pins σ H s'->Q (.bool o.isSome) s') :
  wpAny (model X.prog X.w) A (compareOp .In u (.ref a)) Q E s:=by
 rcases g with ⟨kvs,k,e,ey,l⟩ | hF
 .subst ey
  obtain ⟨z,hd,vs,rel,dd⟩:=BW I.hok e
  refine wpAny_in_of (M8 ry) hd dd.mapOf ?_
  rw [<- (rel.val k).isSome_eq,<- l]
  exact h _ (I.tok _)
 .exact hF.elim
theorem ZS {Q:Value->Shared->Prop} (hu:A.units + 1 < cLine) (I:Inv X pins σ H s) (g:uz H a y o) (ry:RelV y u) (h:∀ s',Inv X pins σ H s'->Q (.bool (!o.isSome)) s') :
  wpAny (model X.prog X.w) A (compareOp .NotIn u (.ref a)) Q E s:=by
 rcases g with ⟨kvs,k,e,ey,l⟩ | hF
 .subst ey
  obtain ⟨z,hd,vs,rel,dd⟩:=BW I.hok e
  refine wpAny_notIn_of (M8 ry) hd dd.mapOf ?_
  rw [<- (rel.val k).isSome_eq,<- l]
  exact h _ (I.tok _)
 .exact hF.elim
theorem Y9 {h':Heap} {t':Nat} {ob:HO} (I:Inv X pins σ H s) (mu:Mut (H a)) (hs:Heap.SameBut a s.heap h') (he:∃ q,h'.get? a = some q) (new:dM X.prog X.w (upd H a ob) h' a ob) :
  Inv X pins σ (upd H a ob) { s with heap:=h',toks:=t' } :=
 I.write (x:=a) (e:=a) mu (.inl rfl) (fun b q hb z=>(hs.2 b hb).trans z) he new
theorem abm {P:Program} {w:World} {H':Hp} {h':Heap} {kvs:List (Key × V)} {vs:List (Key × Value)} (z:kvs.length <= sizeLine) (hd:(a == sysModules) = false) (rel:KV kvs vs) (dd:h'.DictOf (jW P w) a vs) :
  dM P w H' h' a (.dK kvs):=⟨z,hd,vs,rel,dd⟩
theorem TJ {H':Hp} {Q:Unit->Shared->Prop} (hu:A.units + 1 < cLine) (I:Inv X pins σ H s) (g:PB H a y v H') (ry:RelV y u) (rv:RelV v r) (h:∀ s',Inv X pins σ H' s'->Q () s') :
  wpAny (model X.prog X.w) A (setItem (.ref a) u r) Q E s:=by
 rcases g with ⟨kvs,k,e,ey,l,eH⟩ | hF
 .subst ey eH
  obtain ⟨z,hd,vs,rel,dd⟩:=ady I.hok e
  have hz:vs.length <= sizeLine:=by rw [<- rel.length]; exact z
  have hl:(putK kvs k v).length <= sizeLine:=by have:=Lh kvs k v; omega
  refine wpAny_setItem_pairs (hsz:=hz) (M8 ry) dd fun h' dd' hs=>h _ ?_
  have he:∃ q,h'.get? a = some q:=let ⟨q,_,_,hq,_⟩:=dd'; ⟨q,hq⟩
  exact Y9 I (by rw [e]; exact True.intro) hs he (abm hl hd (rel.put k rv) dd')
 .exact hF.elim
end
def aex (i:Expr):Prop:=∀ ov iv,subscripted i false ov iv = operate [ov,iv] (getItem ov iv)
theorem Zf {prog:Program} {w:World} {A:Around} {E:Value->Shared->Prop} {s:Shared} {env:Env} {value slice:Expr} {pos:Pos} {T id:String} {Q:Value->Shared->Prop}
  (hl:typeLookup (.type T) "__getitem__" = pure (some (.builtin id))) (hs:aex slice)
  (h:wpAny (model prog w) A (eval value env) (fun o s₁=>wpAny (model prog w) A (eval slice env) (fun i s₂=>s₂.TypeIs o T/\wpAny (model prog w) A (getItem o i) Q E s₂) E s₁) E s) :
  wpAny (model prog w) A (eval (.Subscript value slice pos) env) Q E s:=by
 refine Subscript_ (wpAny_mono h (fun o s₁ h₁=>wpAny_mono h₁ (fun i s₂ h₂=>?_) fun _ _ x=>x) fun _ _ x=>x)
 obtain ⟨hT,h₂⟩:=h₂
 unfold subscriptTail
 refine wpAny_bind ?_
 rw [getitemInPython_of_ne hT.not_modules]
 refine wpAny_bind (wpAny_specialOf hT hl ?_)
 have fin:wpAny (model prog w) A (subscripted slice false o i) (fun r s₃=>wpAny (model prog w) A (letTemporaryGo value o r >>= fun _=>pure r) Q E s₃) E s₂:=by
  rw [hs o i]
  exact wpAny_operating (wpAny_mono h₂ (fun r s₃ h₃=>wpAny_bind (wpAny_letTemporaryGo (wpAny_pure h₃))) fun _ _ x=>x)
 first
  | exact wpAny_pure (wpAny_bind fin)
  | exact wpAny_bind (wpAny_pure (wpAny_bind fin))
  | exact wpAny_bind fin
theorem Mz {X:Cx} {pins:List (Addr × Obj)} {σ:St} {H:Hp} {s:Shared} {a:Addr} {y:V} {o:Option V} (I:Inv X pins σ H s) (g:uz H a y o):s.TypeIs (.ref a) "dict" := by
 rcases g with ⟨kvs,k,e,_,_⟩ | hF
 .obtain ⟨_,_,vs,_,dd⟩:=BW I.hok e
  exact dd.typeIs
 .exact hF.elim
def Qj (td ty:TE):TE:=fun σ H Q=>td σ H fun x H1=>ty σ H1 fun y H2=>∃ a v,x = .ref a/\uz H2 a y (some v)/\Q v H2
def aae (ty td:TE):TE:=fun σ H Q=>ty σ H fun y H1=>td σ H1 fun x H2=>∃ a o,x = .ref a/\uz H2 a y o/\Q (.bl o.isSome) H2
def Ba (ty td:TE):TE:=fun σ H Q=>ty σ H fun y H1=>td σ H1 fun x H2=>∃ a o,x = .ref a/\uz H2 a y o/\Q (.bl (!o.isSome)) H2
def Rw (td ty tv:TE):TS:=fun D σ H=>tv σ H fun v H1=>td σ H1 fun x H2=>ty σ H2 fun y H3=>∃ a H4,x = .ref a/\PB H3 a y v H4/\D.nx σ H4
section
variable {X:Cx} {o i e value:Expr} {pos pos' tpos:Pos} {td ty tv:TE}
theorem Kd (hu:X.A.units + 1 < cLine) (ho:PE X o td) (hi:PE X i ty) (hs:aex i):PE X (.Subscript o i pos) (Qj td ty):=by
 intro pins s σ H Q I h
 refine Zf PySem.F.slot_dict_getitem.lookup hs (thn (ho pins s σ H _ I h) fun u s1 ⟨x,H1,I1,rx,q1⟩=>thn (hi pins s1 σ H1 _ I1 q1) fun iv s2 ⟨y,H2,I2,ry,a,v,ex,g,q2⟩=>?_)
 subst ex
 obtain rfl:u = Value.ref a:=rx
 exact ⟨Mz I2 g,Tj hu I2 g ry fun w' s3 I3 rw'=>⟨v,H2,I3,rw',q2⟩⟩
theorem W4 (hu:X.A.units + 1 < cLine) (hi:PE X i ty) (ho:PE X o td):PC X .In i o (aae ty td):=by
 intro pins s σ H Q I h
 refine thn (hi pins s σ H _ I h) fun iv s1 ⟨y,H1,I1,ry,q1⟩=>thn (ho pins s1 σ H1 _ I1 q1) fun u s2 ⟨x,H2,I2,rx,a,ov,ex,g,q2⟩=>?_
 subst ex
 obtain rfl:u = Value.ref a:=rx
 exact ahh hu I2 g ry fun s3 I3=>⟨.bl ov.isSome,H2,I3,rfl,q2⟩
theorem Ti (hu:X.A.units + 1 < cLine) (hi:PE X i ty) (ho:PE X o td):PC X .NotIn i o (Ba ty td):=by
 intro pins s σ H Q I h
 refine thn (hi pins s σ H _ I h) fun iv s1 ⟨y,H1,I1,ry,q1⟩=>thn (ho pins s1 σ H1 _ I1 q1) fun u s2 ⟨x,H2,I2,rx,a,ov,ex,g,q2⟩=>?_
 subst ex
 obtain rfl:u = Value.ref a:=rx
 exact ZS hu I2 g ry fun s3 I3=>⟨.bl (!ov.isSome),H2,I3,rfl,q2⟩
theorem Hg (hu:X.A.units + 1 < cLine) (ho:PE X o td) (hi:PE X i ty) (hv:PE X value tv) (hs:swapsWith value (some (.Subscript o i pos')) pos.line X.env = pure false) :
  PS X (.Assign [.Subscript o i pos'] value pos) (Rw td ty tv):=by
 intro pins s σ H D I h
 refine wpAny_Assign_Subscript (thn (hv pins s σ H _ I h) fun r s1 ⟨v,H1,I1,rv,q1⟩=>thn (ho pins s1 σ H1 _ I1 q1) fun u s2 ⟨x,H2,I2,rx,q2⟩=>thn (hi pins s2 σ H2 _ I2 q2) fun iv s3 ⟨y,H3,I3,ry,a,H4,ex,g,q3⟩=>?_) hs
 subst ex
 obtain rfl:u = Value.ref a:=rx
 exact TJ hu I3 g ry rv fun s4 I4=>⟨σ,H4,I4,q3⟩
end
theorem Xg {P:Program} {w:World} {H:Hp} (h:Heap) (hb:sysModules < h.objs.size):dM P w H (h.push { cls:=.type "dict",data:=.dict #[] }) h.objs.size (.dK []) :=
 ⟨bA _,beq_eq_false_iff_ne.mpr (Ne.symm (aU hb)),[],.nil,Heap.DictOf.new h⟩
def HN:TE:=fun _ H Q=>∀ p,H p = none->Q (.ref p) (upd H p (.dK []))
section
variable {X:Cx} {pos:Pos}
theorem CN:PE X (.Dict [] [] pos) HN:=fun pins s σ H Q I h =>
 wpAny_Dict_empty ⟨.ref s.heap.objs.size,_,I.laid (a:=s.heap.objs.size) (o:=.dK []) (t':=s.toks) (fun _ _ q=>aH _ q) (aG _) (Xg s.heap I.big),rfl,h _ (I.hok.fresh (aG _))⟩
end
structure M2 (X:Cx) (o:Expr) (m:Str) (apos:Pos) (e f:Expr) (cpos:Pos):Prop where
 base:attributeBase o m X.env (eval o X.env) = eval o X.env
 few:((backTo cpos (starEach [e,f] X.env)).all (fun x=>!x.1) && (backToKw cpos (keywordEach [] X.env)).all (fun x=>x.1.isSome)
  && decide (([e,f] : List Expr).length + ([] : List Keyword).length + (if ([] : List Keyword).isEmpty then 0 else 1) < 30)) = true
 line:(apos.endLine == cpos.line) = true
 trees:backTo cpos (starEach [e,f] X.env) = [(false,eval e X.env),(false,eval f X.env)]
def IsD (H:Hp) (a:Addr):Prop:=(∃ kvs,Rd H a (.dK kvs))\/False
theorem abB {X:Cx} {pins:List (Addr × Obj)} {σ:St} {H:Hp} {s:Shared} {a:Addr} (I:Inv X pins σ H s) (d:IsD H a) :
  s.TypeIs (.ref a) "dict" /\ (∀ b,Value.ref a = .ref b->∃ ob,s.heap.get? b = some ob/\ob.dict = none)/\(a == sysModules) = false:=by
 rcases d with ⟨kvs,e⟩ | hF
 .obtain ⟨_,hd,vs,_,dd⟩:=BW I.hok e
  refine ⟨dd.typeIs,fun b q=>?_,hd⟩
  cases q
  obtain ⟨ob,_,_,h1,h2,_⟩:=dd
  exact ⟨ob,h1,h2.2.1⟩
 .exact hF.elim
section
variable {X:Cx} {pins:List (Addr × Obj)} {σ:St} {H:Hp} {s:Shared} {a:Addr} {y d:V} {u r:Value} {o:Option V} {A:Around} {E:Value->Shared->Prop}
theorem abg {Q:Value->Shared->Prop} (hu:A.units + 1 < cLine) (I:Inv X pins σ H s) (g:uz H a y o) (ry:RelV y u) (rd:RelV d r) (h:∀ w' s',Inv X pins σ H s'->RelV (o.getD d) w'->Q w' s') :
  wpAny (model X.prog X.w) A (call (.builtin "dict.get") [.ref a,u,r]) Q E s:=by
 rcases g with ⟨kvs,k,e,ey,l⟩ | hF
 .subst ey
  obtain ⟨z,hd,vs,rel,dd⟩:=BW I.hok e
  refine call_meetsIn PySem.F.slot_dict_get dd.typeIs PySem.F.entry_dict_get (PySem.F.args_dict_get_3 _ _ _) (meets_dict_get_default (jW X.prog X.w) a (M8 ry) hd r) ⟨_,dd.mapOf,h _ _ (I.tok _) ?_⟩
  rw [l]
  exact (rel.val k).getD rd
 .exact hF.elim
end
def HY (td ty tx:TE):TE:=fun σ H Q=>td σ H fun x H1=>∃ a,x = .ref a/\IsD H1 a/\ty σ H1 fun y H2=>tx σ H2 fun z H3=>∃ o,uz H3 a y o/\Q (o.getD z) H3
section
variable {X:Cx} {o e f:Expr} {apos cpos:Pos} {td ty tx:TE}
theorem WT (hu:X.A.units + 1 < cLine) (ho:PE X o td) (he:PE X e ty) (hf:PE X f tx) (m:M2 X o "get" apos e f cpos):PE X (.Call (.Attribute o "get" apos) [e,f] [] cpos) (HY td ty tx):=by
 intro pins s σ H Q I h
 refine wpAny_Call_method m.base m.few m.line PySem.F.plainAttrs_dict PySem.F.slot_dict_get PySem.F.type_dict_get (thn (ho pins s σ H _ I h) fun u s1 ⟨x,H1,I1,rx,a,ex,d,q1⟩=>?_)
 subst ex
 obtain rfl:u = Value.ref a:=rx
 obtain ⟨t1,t2,_⟩:=abB I1 d
 refine ⟨t1,t2,?_⟩
 rw [m.trees]
 refine Calls.callWith_builtin rfl (Calls.evalArgs_plain (Calls.spliced_cons (thn (he pins s1 σ H1 _ I1 q1) fun iv s2 ⟨y,H2,I2,ry,q2⟩ =>
  Calls.spliced_cons (thn (hf pins s2 σ H2 _ I2 q2) fun fv s3 ⟨z,H3,I3,rz,ov,g,q3⟩=>Calls.spliced_nil ?_))))
 exact abg hu I3 g ry rz fun w' s4 I4 rw'=>⟨_,H3,I4,rw',q3⟩
end
def Itk (a:Addr) (o:Obj) (kvs:List (Key × V)):It:=⟨fun i H=>H a = some (.frz o (.dK kvs))/\i < kvs.length,fun i H v H'=>H' = H/\∃ k y,kvs[i]? = some (k,y)/\v = kV k,fun i H=>H a = some (.frz o (.dK kvs))/\i = kvs.length⟩
theorem ac6 {P:Program} {w:World} {k:Key} {u:Value} (h:(jW P w).is k u = true):RelV (kV k) u:=by
 have h:xX k u = true:=h
 cases k with
 | inl i =>
  cases u <;> simp [xX,Value.isInt] at h
  .subst h; exact ⟨_,rfl⟩
 | inr x =>
  cases u <;> simp [xX,Value.isStrOf] at h
  .subst h; exact ⟨_,rfl⟩
theorem KV.at {κ:Type} {kvs:List (κ × V)} {vs:List (κ × Value)} (r:KV kvs vs):∀ {i:Nat} {k:κ} {y:V},kvs[i]? = some (k,y)->∃ u,vs[i]? = some (k,u)/\RelV y u:=by
 unfold KV at r
 induction r with
 | nil=>intro i k y h; cases h
 | @cons p q ps qs h t ih =>
  intro i k y e
  cases i with
  | zero =>
   rw [List.getElem?_cons_zero] at e
   cases e
   obtain ⟨q1,q2⟩:=q
   obtain ⟨h1,h2⟩:=h
   cases h1
   exact ⟨q2,rfl,h2⟩
  | succ i =>
   rw [List.getElem?_cons_succ] at e ⊢
   exact ih e
theorem T9 {P:Program} {w:World} {K:Frag} {tg:Expr} (it a:Addr) (o:Obj) (kvs:List (Key × V)) (vs:List (Key × Value)) (ep:Nat) (rel:KV kvs vs) (hD:∀ h:Heap,h.get? a = some o->h.DictAt (jW P w) a vs ep) :
  Turn P w K tg (Itk a o kvs) [it] it (fun i h=>h.IsKeyIter it a i vs.length ep) where
 mem:=by simp
 obj:=fun i h st b hb=>by
  have e:b = it:=by simpa using hb
  subst e
  obtain ⟨o,ho,_,hd⟩:=st
  exact ⟨o,ho,fun v z=>by rw [hd] at z; cases z⟩
 keep:=fun i h h' st k=>let ⟨o,ho,r⟩:=st; ⟨o,k it (by simp) o ho,r⟩
 item:=by
  intro X hP hw hK hc i pins s σ H E I hf st hg
  subst hP hw hK
  obtain ⟨hg,hlt⟩:=hg
  obtain ⟨ho,_⟩:=(show dM X.prog X.w H s.heap a (.frz o (.dK kvs)) from I.hok a _ hg)
  obtain ⟨f0,f1,f2,f3,f4,f5⟩:=hf it (by simp)
  obtain ⟨⟨k,y⟩,hx⟩ : ∃ p,kvs[i]? = some p:=⟨kvs[i],by simp [hlt]⟩
  obtain ⟨u,hu,ru⟩:=rel.at hx
  refine wpAny_pyNext_dict_item st (hD _ ho) hu fun key h' hkey st' sb=>?_
  have I1:Inv X pins σ H { s with heap:=h' }:=I.turned (t':=s.toks) (fun b ob hb e=>(sb.2 b hb).trans e) f0 f1 f3 f4 f5
  obtain ⟨oi,e,c,d⟩:=id st'
  exact ⟨key,rfl,Lj (s:={ s with heap:=h' }) e c d (by decide) ⟨kV k,H,I1,ac6 hkey,⟨rfl,k,y,hx,rfl⟩,st',fun b hb=>(hf b hb).1⟩⟩
 done:=by
  intro X hP hw hK hc i pins s σ H E I hf st hg
  subst hP hw hK
  obtain ⟨hg,rfl⟩:=hg
  obtain ⟨ho,_⟩:=(show dM X.prog X.w H s.heap a (.frz o (.dK kvs)) from I.hok a _ hg)
  obtain ⟨f0,f1,f2,f3,f4,f5⟩:=hf it (by simp)
  have hl:=rel.length
  exact wpAny_pyNext_dict_end (I.ok.hd hc) st (hD _ ho) (by simp; omega) fun h' eb=>⟨rfl,I.turned (t':=s.toks) (fun b ob hb e=>eb b ob hb e) f0 f1 f3 f4 f5⟩
 self:=fun _ _ _ _ _ st h=>wpAny_pyIter_keyiter st h
section
variable {X:Cx} {tg:Expr}
def aa2 (te:TE):TI:=fun σ H R=>te σ H fun x H1=>∃ a kvs,x = .ref a/\H1 a = some (.dK kvs)/\∀ o,R (Itk a o kvs) (upd H1 a (.frz o (.dK kvs)))
theorem YH {l:Expr} {tl:TE} (hl:PE X l tl):PI X tg l (aa2 tl):=by
 intro pins s σ H R I h
 refine thn (hl pins s σ H _ I h) fun v s1 ⟨x,H1,I1,r1,a,kvs,ex,ha,q⟩=>?_
 subst ex
 cases r1
 have ok:=(show dM X.prog X.w H1 s1.heap a (.dK kvs) from I1.hok a _ ha)
 obtain ⟨z,hd,vs,rel,o,es,ep,e,ex,ed,ek,epr,en⟩:=ok
 have hD:∀ h:Heap,h.get? a = some o->h.DictAt (jW X.prog X.w) a vs ep:=fun h e=>⟨o,es,e,ex,ed,ek,epr,en⟩
 have I2:Inv X pins σ (upd H1 a (.frz o (.dK kvs))) s1:=by
  have:=I1.write (x:=a) (e:=a) (o:=.frz o (.dK kvs)) (h':=s1.heap) (t':=s1.toks) (by rw [ha]; exact True.intro) (.inl rfl) (fun b u hb z=>z) ⟨o,e⟩ ⟨e,z,hd,vs,rel,o,es,ep,e,ex,ed,ek,epr,en⟩
  exact this
 refine wpAny_pyIter_dict hd (hD _ e) ?_
 refine ⟨s1.heap.objs.size,[s1.heap.objs.size],_,Itk a o kvs,_,rfl,I2.kept (t':=s1.toks) fun b ob z=>aH _ z,T9 _ a o kvs vs ep rel hD,⟨_,aZ _ rfl,rfl,rfl⟩,fun b hb=>?_,q o⟩
 have e:b = s1.heap.objs.size:=by simpa using hb
 subst e
 exact I2.fpOk (aG _) (I2.hok.fresh (aG _))
def tMG (g:TG):TG:=fun v σ H Q=>∃ R:L2.St->Hp->Prop,g v σ H R/\∀ σ' H',R σ' H'->Q σ' H'
def tMT (t:TT):TT:=fun σ H Q=>∃ R:Bool->Hp->Prop,t σ H R/\∀ b H',R b H'->Q b H'
theorem PG.mono {e:Expr} {g:TG} (h:PG X e g):PG X e (tMG g):=fun pins s σ H v u Q I r ⟨R,h1,h2⟩=>thn (h pins s σ H v u R I r h1) fun _ s' ⟨σ',H',I',q⟩=>⟨σ',H',I',h2 σ' H' q⟩
theorem PTs.mono {ifs:List Expr} {t:TT} (h:PTs X ifs t):PTs X ifs (tMT t):=fun pins s σ H Q I ⟨R,h1,h2⟩=>thn (h pins s σ H R I h1) fun b s' ⟨H',I',q⟩=>⟨H',I',h2 b H' q⟩
def z6 (n:Nat) (gt:TG) (tc:TT) (te:TE) (x:V) (σ:L2.St) (H:Hp) (Y:VK) (No:Hp->Prop):Prop:=∀ pre:L2.St,pre.length = n->gt x (pre ++ σ) H fun σ2 H2=>∃ pre':L2.St,pre'.length = n/\σ2 = pre' ++ σ/\tc σ2 H2 fun b H3 =>
 match b with
 | true=>te σ2 H3 Y
 | false=>No H3
theorem z6.weak {n:Nat} {gt:TG} {tc:TT} {te:TE} {x:V} {σ:L2.St} {H:Hp} {Y Y':VK} {No No':Hp->Prop} (h:z6 n gt tc te x σ H Y No) (h1:∀ y H',Y y H'->Y' y H') (h2:∀ H',No H'->No' H'):z6 n (tMG gt) (tMT tc) (tM te) x σ H Y' No':=fun pre hp =>
 ⟨_,h pre hp,fun σ2 H2 ⟨pre',e1,e2,q⟩=>⟨pre',e1,e2,_,q,fun b H3 z=>match b,z with
  | true,z=>⟨_,z,h1⟩
  | false,z=>h2 H3 z⟩⟩
theorem pG {K:Frag} {tl te:TE} {gt:TG} {tc:TT} {n:Nat} {σ:L2.St} {H:Hp} {Q:VK} (h:tl σ H fun x H1=>∃ a xs,x = .ref a/\H1 a = some (.lst xs)/\xs.length <= sizeLine/\∀ D,H1 D = none->∃ J:Nat->List V->Hp->Prop,J 0 [] (upd H1 D (.lst [])) /\
   (∀ k x ys Hc,xs[k]? = some x->J k ys Hc->ys.length <= k->Hc a = some (.lst xs)->z6 n gt tc te x σ Hc (fun y H2=>H2 D = some (.lst ys)/\H2 a = some (.lst xs)/\J (k + 1) (ys ++ [y]) (upd H2 D (.lst (ys ++ [y])))) fun H2=>H2 a = some (.lst xs)/\J (k + 1) ys H2) /\
   ∀ ys Hc,J xs.length ys Hc->ys.length <= xs.length->Q (.ref D) Hc):lX (Dp K (tM tl)) n (tMG gt) (tMT tc) (tM te) σ H Q:=by
 refine ⟨_,h,?_⟩
 rintro x H1 ⟨a,xs,rfl,hx,hz,rest⟩
 refine ⟨a,rfl,⟨xs,.of hx⟩,fun D hD=>?_⟩
 obtain ⟨J,j0,step,fin⟩:=rest D hD
 have ne:a ≠ D:=bI hx hD
 refine ⟨fun k m ys Hc=>k <= xs.length/\m = xs.length - k/\ys.length <= k/\Hc a = some (.lst xs)/\J k ys Hc,⟨_,bA _,rfl,bA _,(bL ne).trans hx,j0⟩,?_⟩
 rintro k m ys Hc ⟨hk,rfl,hy,hx',j⟩
 by_cases e:k = xs.length
 .subst e
  exact .inl ⟨⟨xs,.of hx',aG _⟩,fin ys Hc j hy⟩
 .have hlt:k < xs.length:=by omega
  refine .inr ⟨⟨xs,_,.of hx',aj hlt⟩,?_⟩
  rintro x H'' ⟨rfl,y⟩
  refine (step k x ys H'' (y xs (.of hx')) j hy hx').weak ?_ ?_
  .rintro yv H2 ⟨z1,z2,z3⟩
   refine ⟨by omega,z1,xs.length - (k + 1),by omega,by omega,rfl,?_,?_,z3⟩
   .rw [aB]; simp; omega
   .rw [bL ne]; exact z2
  .rintro H2 ⟨z2,z3⟩
   exact ⟨xs.length - (k + 1),by omega,by omega,rfl,by omega,z2,z3⟩
theorem LK {tl te:TE} {gt:TG} {tc:TT} {n:Nat} {σ:L2.St} {H:Hp} {Q:VK} (h:tl σ H fun x H1=>∃ a kvs,x = .ref a/\H1 a = some (.dK kvs)/\kvs.length <= sizeLine/\∀ o D,upd H1 a (.frz o (.dK kvs)) D = none->∃ J:Nat->List V->Hp->Prop,J 0 [] (upd (upd H1 a (.frz o (.dK kvs))) D (.lst [])) /\
   (∀ i k y ys Hc,kvs[i]? = some (k,y)->J i ys Hc->ys.length <= i->Hc a = some (.frz o (.dK kvs))->z6 n gt tc te (kV k) σ Hc (fun y H2=>H2 D = some (.lst ys)/\H2 a = some (.frz o (.dK kvs))/\J (i + 1) (ys ++ [y]) (upd H2 D (.lst (ys ++ [y])))) fun H2=>H2 a = some (.frz o (.dK kvs))/\J (i + 1) ys H2) /\
   ∀ ys Hc,J kvs.length ys Hc->ys.length <= kvs.length->Q (.ref D) Hc):lX (aa2 (tM tl)) n (tMG gt) (tMT tc) (tM te) σ H Q:=by
 refine ⟨_,h,?_⟩
 rintro x H1 ⟨a,kvs,rfl,hx,hz,rest⟩
 refine ⟨a,kvs,rfl,hx,fun o D hD=>?_⟩
 obtain ⟨J,j0,step,fin⟩:=rest o D hD
 have ne:a ≠ D:=bI bK hD
 refine ⟨fun k m ys Hc=>k <= kvs.length/\m = kvs.length - k/\ys.length <= k/\Hc a = some (.frz o (.dK kvs))/\J k ys Hc,⟨_,bA _,rfl,bA _,(bL ne).trans bK,j0⟩,?_⟩
 rintro k m ys Hc ⟨hk,rfl,hy,hx',j⟩
 by_cases e:k = kvs.length
 .subst e
  exact .inl ⟨⟨hx',rfl⟩,fin ys Hc j hy⟩
 .have hlt:k < kvs.length:=by omega
  refine .inr ⟨⟨hx',hlt⟩,?_⟩
  rintro x H'' ⟨rfl,kk,yy,hkk,rfl⟩
  refine (step k kk yy ys H'' hkk j hy hx').weak ?_ ?_
  .rintro yv H2 ⟨z1,z2,z3⟩
   refine ⟨by omega,z1,kvs.length - (k + 1),by omega,by omega,rfl,?_,?_,z3⟩
   .rw [aB]; simp; omega
   .rw [bL ne]; exact z2
  .rintro H2 ⟨z2,z3⟩
   exact ⟨kvs.length - (k + 1),by omega,by omega,rfl,by omega,z2,z3⟩
end
theorem Same.tup {K:Frag} {H H':Hp} {a:Addr} {xs:List V} (e:Same H H') (h:SqT K H a xs):SqT K H' a xs:=by
 rcases h with (h | ⟨o,h⟩) | h
 .exact .inl (.inl (e _ _ h))
 .exact .inl (.inr ⟨o,e _ _ h⟩)
 .exact .inr h
theorem SqT.updO {K:Frag} {H:Hp} {a l:Addr} {xs:List V} {o u:HO} (h:SqT K H a xs) (hl:H l = some o) (h1:∀ ys,o ≠ .tup ys) (h2:∀ ob ys,o ≠ .frz ob (.tup ys)):SqT K (upd H l u) a xs:=by
 rcases h with (h | ⟨ob,h⟩) | h
 .exact .inl (.inl ((bL (f9 h hl (fun z=>h1 xs z.symm))).trans h))
 .exact .inl (.inr ⟨ob,(bL (f9 h hl (fun z=>h2 ob xs z.symm))).trans h⟩)
 .exact .inr h
mutual
inductive lN (K:Frag) (H:Hp):V->PyData->Prop
 | non:lN K H .non .none
 | bl (b:Bool):lN K H (.bl b) (.bool b)
 | int (i:Int):lN K H (.int i) (.int i)
 | str (x:Str):lN K H (.str x) (.str x)
 | lst {a:Addr} {xs:List V} {ds:List PyData} : H a = some (.lst xs)->c7 K H xs ds->lN K H (.ref a) (.list ds)
 | tup {a:Addr} {xs:List V} {ds:List PyData} : SqT K H a xs->c7 K H xs ds->lN K H (.ref a) (.tuple ds)
inductive c7 (K:Frag) (H:Hp):List V->List PyData->Prop
 | nil:c7 K H [] []
 | cons {x:V} {xs:List V} {d:PyData} {ds:List PyData} : lN K H x d->c7 K H xs ds->c7 K H (x :: xs) (d :: ds)
end
mutual
theorem lN.same {K:Frag} {H H':Hp} (S:Same H H'):∀ {x:V} {d:PyData},lN K H x d->lN K H' x d
 | _,_,.non=>.non
 | _,_,.bl b=>.bl b
 | _,_,.int i=>.int i
 | _,_,.str x=>.str x
 | _,_,.lst e h=>.lst (S _ _ e) (c7.same S h)
 | _,_,.tup e h=>.tup (S.tup e) (c7.same S h)
theorem c7.same {K:Frag} {H H':Hp} (S:Same H H'):∀ {xs:List V} {ds:List PyData},c7 K H xs ds->c7 K H' xs ds
 | _,_,.nil=>.nil
 | _,_,.cons h t=>.cons (lN.same S h) (c7.same S t)
end
theorem c7.ints (K:Frag) (H:Hp):∀ ns:List Int,c7 K H (ns.map V.int) (ns.map PyData.int)
 | []=>.nil
 | n :: ns=>.cons (.int n) (c7.ints K H ns)
section
variable {X:Cx} {pins:List (Addr × Obj)} {σ:L2.St} {H:Hp} {s:Shared}
mutual
theorem Inv.readsK (I:Inv X pins σ H s):∀ {x:V} {d:PyData} {v:Value},lN X.K H x d->RelV x v->∃ as,Reads s.heap v d as
 | _,_,_,.non,r=>by cases r; exact ⟨_,.none⟩
 | _,_,_,.bl b,r=>by cases r; exact ⟨_,.bool b⟩
 | _,_,_,.int i,r=>by obtain ⟨t,rfl⟩:=r; exact ⟨_,.int i t⟩
 | _,_,_,.str x,r=>by obtain ⟨t,rfl⟩:=r; exact ⟨_,.str x t⟩
 | _,_,_,.lst e h,r=>by
  cases r
  obtain ⟨its,rv,⟨o,ho,hc,n,hd⟩⟩:=I.lstIs e
  obtain ⟨as,q⟩:=Inv.readsAllK I h rv
  exact ⟨_,.list ho hc hd q⟩
 | _,_,_,.tup e h,r=>by
  cases r
  obtain ⟨its,rv,⟨o,ho,hc,n,hd⟩,_⟩:=I.tuple e
  obtain ⟨as,q⟩:=Inv.readsAllK I h rv
  exact ⟨_,.tuple ho hc hd q⟩
theorem Inv.readsAllK (I:Inv X pins σ H s):∀ {xs:List V} {ds:List PyData} {vs:List Value},c7 X.K H xs ds->Vals xs vs->∃ as,ReadsAll s.heap vs ds as
 | _,_,_,.nil,r=>by cases r; exact ⟨_,.nil⟩
 | _,_,_,.cons h t,r=>by
  cases r with
  | cons r1 r2 =>
   obtain ⟨a,q1⟩:=Inv.readsK I h r1
   obtain ⟨b,q2⟩:=Inv.readsAllK I t r2
   exact ⟨_,.cons q1 q2⟩
end
def UG (K:Frag) (neg:Bool):R2:=fun x y H Q=>∃ d e,lN K H x d/\lN K H y e/\SeqAt.shaped d = true/\SeqAt.shaped e = true/\Q (.bl (if neg then !PyData.eqv d e else PyData.eqv d e)) H
theorem abn (hu:X.A.units + 64 < cLine):OpR X (compareOp .NotEq) (UG X.K true):=by
 intro pins s σ H x y v u Q I rx ry h
 obtain ⟨d,e,hd,he,sd,se,q⟩:=h
 obtain ⟨as,ra⟩:=I.readsK hd rx
 obtain ⟨bs,rb⟩:=I.readsK he ry
 exact SeqAt.compareNe_shaped ra rb sd se hu ⟨.bl _,H,I,rfl,q⟩
end
section
variable {X:Cx}
def Qg (K:Frag):List V->Hp->VK->Prop:=fun xs H Q=>∃ p ys,xs = [.ref p]/\SqT K H p ys/\Q (.int ys.length) H
theorem Gv:gj X (.builtin "len") (Qg X.K):=wH.imp fun xs H Q ⟨p,ys,a,b,c⟩=>⟨p,ys,a,.inr b,c⟩
def Ar (K:Frag):List V->Hp->VK->Prop:=fun xs H Q=>∃ p T ys,xs = [.ref p,.ty T]/\T ∈ ["bool", "int", "str", "list", "tuple", "dict"]/\SqT K H p ys/\Q (.bl (Te "tuple" T)) H
theorem pH:gj X (.builtin "isinstance") (Ar X.K):=by
 intro pins s σ H xs us Q I r h
 obtain ⟨p,T,ys,rfl,hT,hp,q⟩:=h
 obtain ⟨u,v,rfl,ru,rv⟩:=r.two
 cases ru
 cases rv
 obtain ⟨its,rvs,⟨o,ho,hc,n,hd⟩,_⟩:=I.tuple hp
 refine PySem.W.kia_one (PySem.W.kitx_tuple (a:=p)) I.kIn ⟨o,ho,hc⟩ (Rg (K:=X.K) (t := "tuple") (by decide) hT) (fun z=>nomatch z) fun tk=>⟨.bl _,H,I.tok _,rfl,q⟩
end
def OkI (P:Program) (w:World) (K:Frag) (mg:Str->Option Value) (base:Heap) (CX:CXT) (k:Nat) (f:Addr) (ps:List Str) (sp:Sp):Prop:=∃ fd,cC P w K mg base CX k f fd ps sp/\Binds K fd ps []
def rR (K:Frag) (x qual:Str) (st:Stmt) (ps:List Str) (f:Addr):Prop:=∃ fd,Fun K x qual st f fd/\∀ us:List Value,us.length = ps.length->bindArgs fd ⟨us,[]⟩ = pure (ps.zip us)
theorem rR.ok {P:Program} {w:World} {K:Frag} {mg:Str->Option Value} {base:Heap} {CX:CXT} {k:Nat} {x qual:Str} {st:Stmt} {ps:List Str} {f:Addr} {sp:Sp} (h:rR K x qual st ps f) (hf:∀ fd,Fun K x qual st f fd->cC P w K mg base CX k f fd ps sp):OkI P w K mg base CX k f ps sp :=
 let ⟨fd,a,b⟩:=h; ⟨fd,hf fd a,.all b⟩
theorem ZV {K:Frag} {x qual:Str} {st:Stmt} {ps:List Str} {f:Addr} {oc:Value} {od an:Option Addr} {osl:Array (Option Value)} {kV doc pm cdv ct:Value}
  (l:K.lookup f = some ⟨oc,od,.func (PySem.W.fnOf x qual (gA st) (eE st) (bN st) .none kV doc pm an cdv ct),osl⟩) (c:PySem.W.codeIn K cdv qual = true) (k:PySem.W.keepIn K (.ref f) = true)
  (hb:∀ (kV doc pm:Value) (an:Option Addr) (cdv ct:Value) (us:List Value),us.length = ps.length->bindArgs (PySem.W.fnOf x qual (gA st) (eE st) (bN st) .none kV doc pm an cdv ct) ⟨us,[]⟩ = pure (ps.zip us)):rR K x qual st ps f :=
 ⟨_,O8 l c k,hb kV doc pm an cdv ct⟩
section
variable {X:Cx} {k:Nat} {f C B:Addr} {ps:List Str} {sp:Sp} {x m:Str} {p pos apos:Pos} {e o:Expr} {es:List Expr} {ta:TE} {t:TA} {Ex:Value->Option Addr->L2.St->Hp->Prop}
theorem PE.any {ι:Sort _} {R:ι->Prop} {a:Expr} {ts:ι->TE} (h:∀ i,R i->PE X a (ts i)):PE X a (fun σ H Q=>∃ i,R i/\ts i σ H Q):=fun pins s σ H Q I ⟨i,r,q⟩=>h i r pins s σ H Q I q
def Ja (C:Addr) (sp:Sp) (Ex:Value->Option Addr->L2.St->Hp->Prop) (t:TA):TE:=fun σ H Q=>t σ H fun vs H1=>∀ x dx,H1 x = none->H1 dx = none->dx ≠ x->sp (.ref x :: vs) (upd (upd H1 dx (.own x)) x (.ins C dx [])) (fun v H2=>v = .non/\Q (.ref x) H2) fun E d H'=>Ex E d σ H'
theorem uH (M:Mk X.K C f) (G:OkI X.prog X.w X.K X.mg X.base (CXO X.prog X.w) k f ps sp) (hr:gJ (k + 1) X.A) (hg:Gl X x) (hm:X.mg x = some (.ref C)) (hx:En X Ex) (ha:PA X (e :: es) t) (hdb:(x == ("__debug__" : Str)) = false:=by decide)
  (he:starEach (e :: es) X.env = (false,eval e X.env) :: starEach es X.env:=by rfl) (hpl:(backTo pos (starEach es X.env)).any (·.1) = false:=by rfl):PE X (.Call (.Name x p) (e :: es) [] pos) (Ja C sp Ex t):=by
 obtain ⟨fd,F,hb⟩:=G
 refine (U5 M F hr hg hm hb .nil hx ha.mono hdb he hpl).imp fun σ H Q h=>⟨_,h,fun vs H1 q x dx h1 h2 h3=>?_⟩
 rw [List.append_nil]
 exact q x dx h1 h2 h3
def BJ (C:Addr) (m:Str) (sp:Sp) (ta:TE) (t:TA):TE:=fun σ H Q=>ta σ H fun x H1=>∃ a dx fs,x = .ref a/\H1 a = some (.ins C dx fs)/\fs.lookup m = none/\t σ H1 fun vs H2=>sp (x :: vs) H2 Q E0
theorem LR {pl:Sem Bool} (he:PE X o ta) (c:Cls X.K C) (hm:Meth X.K C m f) (G:OkI X.prog X.w X.K X.mg X.base CX0 k f ps sp) (hr:gJ k X.A) (ha:PA X (e :: es) t)
  (hst:starEach (e :: es) X.env = (false,eval e X.env) :: starEach es X.env:=by rfl) (hpl:(backTo pos (starEach es X.env)).any (·.1) = false:=by rfl)
  (ht:eval (.Call (.Attribute o m apos) (e :: es) [] pos) X.env = (do
   let ov <- eval o X.env
   standAt apos.atName
   let (f,first) <- holding [ov] (getMethod ov m pl)
   callWith pos f first (backTo pos (starEach (e :: es) X.env)) (backToKw pos (keywordEach [] X.env))):=by rfl) :
  PE X (.Call (.Attribute o m apos) (e :: es) [] pos) (BJ C m sp ta t):=by
 obtain ⟨fd,F,hb⟩:=G
 refine (aak (pl:=pl) he.mono c hm F hr hb .nil QF ha.mono hst hpl ht).imp fun σ H Q h=>⟨_,h,?_⟩
 rintro x H1 ⟨a,dx,fs,h1,h2,h3,h4⟩
 refine ⟨a,dx,fs,h1,h2,h3,_,h4,fun vs H2 q=>?_⟩
 show sp (x :: (vs ++ [])) H2 Q E0
 rw [List.append_nil]
 exact q
theorem vp {pl:Sem Bool} (he:PE X o ta) (c:Cls X.K C) (hm:Meth X.K C m f) (G:OkI X.prog X.w X.K X.mg X.base CX0 k f ps sp) (hr:gJ k X.A)
  (ht:eval (.Call (.Attribute o m apos) [] [] pos) X.env = (do
   let ov <- eval o X.env
   standAt apos.atName
   let (f,first) <- holding [ov] (getMethod ov m pl)
   callWith pos f first (backTo pos (starEach [] X.env)) (backToKw pos (keywordEach [] X.env))):=by rfl) :
  PE X (.Call (.Attribute o m apos) [] [] pos) (BJ C m sp ta Bq):=by
 obtain ⟨fd,F,hb⟩:=G
 refine (Vb (pl:=pl) he.mono c hm F hr hb .nil QF ht).imp fun σ H Q h=>⟨_,h,?_⟩
 rintro x H1 ⟨a,dx,fs,h1,h2,h3,h4⟩
 exact ⟨a,dx,fs,h1,h2,h3,h4⟩
theorem yM {pl:Sem Bool} (c:kY X.K B m f) (G:OkI X.prog X.w X.K X.mg X.base (CXO X.prog X.w) k f ps sp) (hr:gJ k X.A) (hg:Gl X x) (hm:X.mg x = some (.ref B)) (hx:En X Ex) (ha:PA X (e :: es) t) (hdb:(x == ("__debug__" : Str)) = false:=by decide)
  (hst:starEach (e :: es) X.env = (false,eval e X.env) :: starEach es X.env:=by rfl) (hpl:(backTo pos (starEach es X.env)).any (·.1) = false:=by rfl)
  (ht:eval (.Call (.Attribute (.Name x p) m apos) (e :: es) [] pos) X.env = (do
   let ov <- eval (.Name x p) X.env
   standAt apos.atName
   let (f,first) <- holding [ov] (getMethod ov m pl)
   callWith pos f first (backTo pos (starEach (e :: es) X.env)) (backToKw pos (keywordEach [] X.env))):=by rfl) :
  PE X (.Call (.Attribute (.Name x p) m apos) (e :: es) [] pos) (zK sp Ex t):=by
 obtain ⟨fd,F,hb⟩:=G
 exact Xl (pl:=pl) c F hr hg hm hb hx ha hdb hst hpl ht
theorem iY {D:Addr} {pos:Pos} (hg:Gl X x) (hm:X.mg x = some (.ref D)) (hd:(x == ("__debug__" : Str)) = false:=by decide):PE X (.Name x pos) (tC (.ref D)):=Jb hg hm rfl hd
end
theorem QD {X:Cx} {K:Frag} (e:X.K = K) (hu:X.A.units + 64 < cLine):OpR X (compareOp .NotEq) (UG K true):=e ▸ abn hu
theorem Sh {h:Heap} {o ob:Obj} {b:Addr} (e:(h.push o).get? b = some ob) (hs:b ≠ h.objs.size):h.get? b = some ob:=by
 obtain ⟨e1,e2⟩:=Heap.get?_some_iff.mp e
 refine Heap.get?_some_iff.mpr ⟨?_,e2⟩
 cases h
 simpa [Heap.push,Array.getElem?_push,hs] using e1
section
variable {X:Cx}
theorem Mw:∀ {ys:List Str} {vs:List Value},Vals (ys.map V.str) vs->StrsAre vs ys
 | [],_,h=>by cases h; exact .nil
 | y :: ys,_,h=>by
  rw [List.map_cons] at h
  cases h with
  | cons a b =>
   obtain ⟨t,rfl⟩:=a
   exact .cons y t (Mw b)
def rJoin:V->List V->Hp->VK->Prop:=fun x vs H Q=>∃ a l ys,x = .str a/\vs = [.ref l]/\H l = some (.lst (ys.map V.str))/\(ys.map (·.length)).sum + ys.length * a.length <= 16777216/\Q (.str (Txt.join a ys)) H
theorem Z0:MtM X "str.join" rJoin:=by
 intro pins s σ H x vs v us Q I rx rv h
 obtain ⟨a,l,ys,rfl,rfl,hl,hz,q⟩:=h
 obtain ⟨t,rfl⟩:=rx
 obtain ⟨u,rfl,ru⟩:=rv.one
 cases ru
 obtain ⟨_,its,n,r,_,e⟩:=I.lstM hl
 exact join_list ⟨_,e,rfl,n,rfl⟩ (by simpa using Mw r) hz fun t' k=>⟨.str _,H,I.tok _,⟨_,rfl⟩,q⟩
structure Mi (K:Frag) (C:Addr):Prop where
 ha:PySem.W.findIn K (.ref C) "__class__" = some (some (.builtin "object.__class__"))
 hn:PySem.W.specialIn K (.builtin "object.__class__") "__get__" = some (some (.builtin "getset_descriptor.__get__"))
 tk:PySem.W.takesIn K (.builtin "object.__class__") = some true
 hm:PySem.W.mroIn K C (.type "object") = some true
def XR (K:Frag):List V->Hp->VK->Prop:=fun xs H Q=>∃ a D C dx fs b,xs = [.ref a,.ref D]/\H a = some (.ins C dx fs)/\Cls K C/\Mi K C/\PySem.W.kitOne K (.ref C) (.ref D) = some b/\Q (.bl b) H
def X4:List V->Hp->VK->Prop:=fun xs H Q=>∃ i j,xs = [.int i,.int j]/\Q (.int (if j < i then j else i)) H
def Xk:List V->Hp->VK->Prop:=fun xs H Q=>∃ i j,xs = [.int i,.int j]/\Q (.int (if j > i then j else i)) H
end
section
variable {X:Cx} {elt iter:Expr} {pos:Pos} {scope:Scope} {wi:TI} {te:TE}
theorem V8 {i0:Nat} {y0:Str} {py spos:Pos} {xs N':List Str} {tg:Expr} {ifs:List Expr} {gt:TG} {tc:TT} (hc:X.calm = true) (hsh:Gx xs X.N = N') (hN:(xs ++ N').Nodup) (hkind:scope.kind = .function) (hcell:∀ y ∈ scope.names,y.2 ≠ .cell) (hnames:∀ y ∈ scope.names,y.2 = .local->scope.names.lookup y.1 = some .local)
  (hfree:∀ y ∈ scope.names,y.2 = .free->X.env.kindOf y.1 = some .cell\/X.env.kindOf y.1 = some .free) (hloc:∀ y ∈ X.N,y ∉ xs->(relabel scope X.env).names.lookup y ≠ some .local) (hq:∀ y ∈ X.N,y ∈ xs->(relabel scope X.env).names.lookup (hid y) = none) (hi:PI X tg iter wi)
  (hg:∀ C s₀ H₀ ex pn,PG (X.compG N' scope xs C s₀ H₀ ex pn) tg gt) (ht:∀ C s₀ H₀ ex pn,PTs (X.compG N' scope xs C s₀ H₀ ex pn) ifs tc) (he:∀ C s₀ H₀ ex pn,PE (X.compG N' scope xs C s₀ H₀ ex pn) elt te) (hgy:PG X (.Name y0 py) (cU i0)) (hsw:swapsWith (.ListComp elt [⟨tg,iter,ifs,0⟩] scope pos) (some (.Name y0 py)) spos.line X.env = pure true) (hs:∀ z,foldedSetIterable iter X.env z = pure z:=by intro _; rfl) :
  PS X (.Assign [.Name y0 py] (.ListComp elt [⟨tg,iter,ifs,0⟩] scope pos) spos) (Ft (lX wi xs.length gt tc te) (cU i0)):=by
 intro pins s σ H D0 I h
 have h:lX wi xs.length gt tc te σ H (fun x H1=>cU i0 x σ H1 D0.nx):=h
 rw [exec_Assign_Name_used _ _ _ _ hsw]
 refine wpAny_bind (wpAny_standAt (wpAny_bind ?_))
 show wpAny _ X.A (comprehension (.ListComp elt [⟨tg,iter,ifs,0⟩] scope pos) scope X.env _ (newList []) false (eval iter X.env) (some (assign (.Name y0 py) X.env)) >>= fun _=>_) _ _ s
 refine wpAny_bind (wpAny_mono (El (use:=some (assign (.Name y0 py) X.env)) (post:=fun _ s'=>SP X pins D0 .next s') hc hsh hN hkind hcell hnames hfree hloc hq hi hg ht he hs I h fun C D Hc s6 m fl hn6 I6 fC qn=>?_) (fun _ s' hq=>wpAny_pure (wpAny_pure hq)) fun _ _ e=>e)
 obtain ⟨oc,es,ep,ho,hdat,_⟩:=id hn6
 have I7:=I6.pinned (fp:=[C]) (fun b hb=>by rw [List.mem_singleton.mp hb]; exact fC) fun b hb=>by
  rw [List.mem_singleton.mp hb]
  exact ⟨oc,ho,fun v z=>by rw [hdat] at z; cases z⟩
 show wpAny _ X.A (assign (.Name y0 py) X.env _) _ _ s6
 refine thn (hgy _ s6 σ Hc (.ref D) _ D0.nx I7 rfl qn) fun _ s7 ⟨σ7,H7,Z7,q7⟩=>?_
 have pn7:=Z7.pin (C,oc) (aR _ (aR _ (oY (by simp) ho)))
 refine ⟨m,hn6.at' fun o e=>?_,fun h' hs'=>⟨σ7,H7,Z7.unpinned.turned (it:=C) (h':=h') (t':=s7.toks) (fun b o hb e=>(hs'.2 b hb).trans e) pn7.2.1 fC.2.1 fC.2.2.2.1 fC.2.2.2.2.1 fC.2.2.2.2.2,q7⟩⟩
 rw [ho] at e
 cases e
 exact pn7.1
theorem Wr {te:TE} {x:V} {σ:L2.St} {H:Hp} {Y:VK} {No:Hp->Prop} (h:te (some x :: σ) H Y):z6 1 (cU 0) Lw te x σ H Y No:=fun pre hp=>by
 obtain ⟨u,rfl⟩:=List.length_eq_one_iff.mp hp
 exact ⟨[some x],rfl,rfl,h⟩
theorem dH {K:Frag} {tl te:TE} {σ:L2.St} {H:Hp} {Q:VK} (h:tl σ H fun x H1=>∃ a xs,x = .ref a/\H1 a = some (.lst xs)/\xs.length <= sizeLine/\∀ D,H1 D = none->∃ J:Nat->List V->Hp->Prop,J 0 [] (upd H1 D (.lst [])) /\
   (∀ k x ys Hc,xs[k]? = some x->J k ys Hc->ys.length = k->Hc a = some (.lst xs)->te (some x :: σ) Hc fun y H2=>H2 D = some (.lst ys)/\H2 a = some (.lst xs)/\J (k + 1) (ys ++ [y]) (upd H2 D (.lst (ys ++ [y])))) /\
   ∀ ys Hc,J xs.length ys Hc->ys.length = xs.length->Q (.ref D) Hc):lX (Dp K (tM tl)) 1 (tMG (cU 0)) (tMT Lw) (tM te) σ H Q:=by
 refine ⟨_,h,?_⟩
 rintro x H1 ⟨a,xs,rfl,hx,hz,rest⟩
 refine ⟨a,rfl,⟨xs,.of hx⟩,fun D hD=>?_⟩
 obtain ⟨J,j0,step,fin⟩:=rest D hD
 have ne:a ≠ D:=bI hx hD
 refine ⟨fun k m ys Hc=>k <= xs.length/\m = xs.length - k/\ys.length = k/\Hc a = some (.lst xs)/\J k ys Hc,⟨_,bA _,rfl,rfl,(bL ne).trans hx,j0⟩,?_⟩
 rintro k m ys Hc ⟨hk,rfl,hy,hx',j⟩
 by_cases e:k = xs.length
 .subst e
  exact .inl ⟨⟨xs,.of hx',aG _⟩,fin ys Hc j hy⟩
 .have hlt:k < xs.length:=by omega
  refine .inr ⟨⟨xs,_,.of hx',aj hlt⟩,?_⟩
  rintro x H'' ⟨rfl,y⟩
  refine (Wr (No:=fun _=>False) (step k x ys H'' (y xs (.of hx')) j hy hx')).weak ?_ (fun _ z=>z.elim)
  rintro yv H2 ⟨z1,z2,z3⟩
  refine ⟨by omega,z1,xs.length - (k + 1),by omega,by omega,rfl,?_,?_,z3⟩
  .rw [aB,hy]; rfl
  .rw [bL ne]; exact z2
theorem N7 {te:TE} {σ:L2.St} {H:Hp} {Q:VK} {lo:Int} {n:Nat} (hn:n <= 64) (rest:∀ D,H D = none->∃ J:Nat->List V->Hp->Prop,J 0 [] (upd H D (.lst []))/\(∀ k ys Hc,k < n->J k ys Hc->ys.length = k->te (some (.int (lo + k)) :: σ) Hc fun y H2=>H2 D = some (.lst ys)/\J (k + 1) (ys ++ [y]) (upd H2 D (.lst (ys ++ [y]))))/\∀ ys Hc,J n ys Hc->ys.length = n->Q (.ref D) Hc) :
  ∀ D,H D = none->∃ W:Nat->Nat->List V->Hp->Prop,(∃ m,W 0 m [] (upd H D (.lst [])))/\∀ i m ys Hc,W i m ys Hc->((Itr lo n).stop i Hc/\Q (.ref D) Hc)\/((Itr lo n).go i Hc/\∀ x H',(Itr lo n).yld i Hc x H'->z6 1 (tMG (cU 0)) (tMT Lw) (tM te) x σ H' (fun y H2=>ys.length < sizeLine/\H2 D = some (.lst ys)/\∃ m',m' < m/\W (i + 1) m' (ys ++ [y]) (upd H2 D (.lst (ys ++ [y])))) fun H3=>∃ m',m' < m/\W (i + 1) m' ys H3):=by
 intro D hD
 obtain ⟨J,j0,step,fin⟩:=rest D hD
 have hz:64 <= sizeLine:=by decide
 refine ⟨fun k m ys Hc=>k <= n/\m = n - k/\ys.length = k/\J k ys Hc,⟨_,bA _,rfl,rfl,j0⟩,?_⟩
 rintro k m ys Hc ⟨hk,rfl,hy,j⟩
 by_cases e:k = n
 .subst e
  exact .inl ⟨aG _,fin ys Hc j hy⟩
 .have hlt:k < n:=by omega
  refine .inr ⟨hlt,?_⟩
  rintro x H'' ⟨rfl,rfl⟩
  refine (Wr (No:=fun _=>False) (step k ys H'' hlt j hy)).weak ?_ (fun _ z=>z.elim)
  rintro yv H2 ⟨z1,z2⟩
  exact ⟨by omega,z1,n - (k + 1),by omega,by omega,rfl,by rw [aB,hy]; rfl,z2⟩
theorem pN {ta:TA} {te:TE} {σ:L2.St} {H:Hp} {Q:VK} (h:ta σ H fun vs H1=>∃ n:Nat,vs = [.int n]/\n <= 64/\∀ D,H1 D = none->∃ J:Nat->List V->Hp->Prop,J 0 [] (upd H1 D (.lst []))/\(∀ (k:Nat) ys Hc,k < n->J k ys Hc->ys.length = k->te (some (.int k) :: σ) Hc fun y H2=>H2 D = some (.lst ys)/\J (k + 1) (ys ++ [y]) (upd H2 D (.lst (ys ++ [y]))))/\∀ ys Hc,J n ys Hc->ys.length = n->Q (.ref D) Hc) :
  lX (Rj (tMA ta)) 1 (tMG (cU 0)) (tMT Lw) (tM te) σ H Q:=by
 refine ⟨_,h,?_⟩
 rintro vs H1 ⟨n,rfl,hn,rest⟩
 refine ⟨n,rfl,by omega,by omega,?_⟩
 rw [Int.toNat_natCast]
 refine N7 hn fun D hD=>?_
 obtain ⟨J,j0,step,fin⟩:=rest D hD
 exact ⟨J,j0,fun k ys Hc h1 h2 h3=>by rw [Int.zero_add]; exact step k ys Hc h1 h2 h3,fin⟩
end
theorem cC.wild {P:Program} {w:World} {K:Frag} {mg:Str->Option Value} {base:Heap} {k:Nat} {f:Addr} {fd:FuncData} {ps:List Str} {sp:Sp} (F:cC P w K mg base CX0 k f fd ps sp):cC P w K mg base (CXO P w) k f fd ps sp:=by
 refine ⟨F.len,fun A outer s H args us vs Q E hr e0 hb r h=>?_⟩
 refine codeAny_mono (F.run A outer s H args us vs Q E hr e0 hb r h) fun res s' hs=>?_
 cases res with
 | error e=>exact False.elim hs
 | ok fl =>
  cases fl with
  | ret u=>exact hs
  | next=>exact hs
  | brk=>exact hs
  | cont=>exact hs
theorem OkF.wild {P:Program} {w:World} {K:Frag} {mg:Str->Option Value} {base:Heap} {k:Nat} {x:Str} {ps:List Str} {sp:Sp} (F:OkF P w K mg base k x ps sp):OkX P w K mg base k x ps sp:=let ⟨f,fd,a,b⟩:=F; ⟨f,fd,a.wild,b⟩
section
variable {X:Cx} {pins:List (Addr × Obj)} {σ:L2.St} {H:Hp} {s:Shared} {h':Heap}
theorem Inv.turnedL {t':Nat} {ch:List Addr} (I:Inv X pins σ H s) (k:∀ b o,b ∉ ch->s.heap.get? b = some o->h'.get? b = some o) (hf:∀ b ∈ ch,Ag X pins H b):Inv X pins σ H { s with heap:=h',toks:=t' }:=by
 have nit:∀ b u,H b = some u->b ∉ ch:=fun b u e z=>by rw [(hf b z).1] at e; cases e
 refine I.step (g':=s.gens) (d':=s.drawn) (ch:=ch) (fun b hb=>⟨(hf b hb).2.2.2.1,(hf b hb).2.1,(hf b hb).2.2.2.2.1,(hf b hb).2.2.2.2.2⟩) (fun b o _ _ hc e _=>k b o hc e) (fun b o _ _ hc e _=>⟨o.slots,k b o hc e⟩) (fun _ _ _ _ n=>n) (fun b o hc e=>⟨o,k b o hc e⟩) (fun _ _ e=>e) (fun _ _ _ e=>e) (fun b ps e=>⟨#[],by rw [e]; simp⟩) (fun m hm=>?_) (fun b u e=>?_) I.bare
 .obtain ⟨o,es,ep,ho,r⟩:=hm
  exact ⟨o,es,ep,k _ o (fun z=>(hf _ z).2.1 rfl) ho,r⟩
 .refine (I.hok b u e).stay (fun c v hc q=>k c v ?_ q) (fun _ q=>q) fun _ _ q=>q
  rcases hc with z | z
  .rw [z]; exact nit b u e
  .exact nit c _ z
end
def Itz (a b:Addr):It:=⟨fun i H=>∃ xs ys,H a = some (.lst xs)/\H b = some (.lst ys)/\i < xs.length/\i < ys.length,fun i H v H'=>∃ xs ys x y t,H a = some (.lst xs)/\H b = some (.lst ys)/\xs[i]? = some x/\ys[i]? = some y/\H t = none/\v = .ref t/\H' = upd H t (.tup [x,y]),fun i H=>∃ xs ys,H a = some (.lst xs)/\H b = some (.lst ys)/\(xs.length <= i\/ys.length <= i)⟩
theorem uY {h g:Heap} {a l:Addr} {i:Nat} (x:h.IsListIter a l i) (k:∀ o,h.get? a = some o->g.get? a = some o):g.IsListIter a l i:=let ⟨o,e,r⟩:=x; ⟨o,k o e,r⟩
theorem Qe {xs:List V} {vs:List Value} : Vals xs vs->∀ {i:Nat} {x:V},xs[i]? = some x->∃ u,vs[i]? = some u/\RelV x u:=by
 intro h
 induction h with
 | nil=>intro i x e; cases e
 | cons a b ih =>
  intro i x e
  cases i with
  | zero=>rw [List.getElem?_cons_zero] at e; cases e; exact ⟨_,rfl,a⟩
  | succ i=>rw [List.getElem?_cons_succ] at e ⊢; exact ih e
theorem WD {P:Program} {w:World} {K:Frag} {elts:List Expr} {x1} {pos:Pos} (z TI TO i1 i2 l1 l2:Addr) (D:ZipApart z TI TO i1 i2 l1 l2) :
  Turn P w K (.Tuple elts x1 pos) (Itz l1 l2) [z,TI,TO,i1,i2] z (fun i h=>IsZip h z TI TO .none/\IsPair h TI (.ref i1) (.ref i2)/\(∃ p q,IsPair h TO p q)/\h.IsListIter i1 l1 i/\h.IsListIter i2 l2 i) where
 mem:=by simp
 obj:=by
  rintro i h ⟨s1,s2,⟨p,q,s3⟩,⟨o4,s4,_,d4⟩,⟨o5,s5,_,d5⟩⟩ b hb
  simp only [List.mem_cons,List.not_mem_nil,or_false] at hb
  rcases hb with rfl | rfl | rfl | rfl | rfl
  .exact ⟨_,s1,fun v e=>by cases e⟩
  .exact ⟨_,s2,fun v e=>by cases e⟩
  .exact ⟨_,s3,fun v e=>by cases e⟩
  .exact ⟨_,s4,fun v e=>by rw [d4] at e; cases e⟩
  .exact ⟨_,s5,fun v e=>by rw [d5] at e; cases e⟩
 keep:=fun i h h' ⟨s1,s2,⟨p,q,s3⟩,s4,s5⟩ k=>⟨k z (by simp) _ s1,k TI (by simp) _ s2,⟨p,q,k TO (by simp) _ s3⟩,uY s4 (k i1 (by simp)),uY s5 (k i2 (by simp))⟩
 item:=by
  intro X hP hw hK hc i pins s σ H E I hf st hg
  subst hP hw hK
  obtain ⟨s1,s2,⟨p,q,s3⟩,s4,s5⟩:=st
  obtain ⟨xs,ys,ha,hb,lt1,lt2⟩:=hg
  obtain ⟨_,it1,n1,rv1,le1,g1⟩:=I.lstM ha
  obtain ⟨_,it2,n2,rv2,le2,g2⟩:=I.lstM hb
  have ex:xs[i]? = some xs[i]:=aj lt1
  have ey:ys[i]? = some ys[i]:=aj lt2
  obtain ⟨u,hu,ru⟩:=Qe rv1 ex
  obtain ⟨v,hv,rv⟩:=Qe rv2 ey
  refine wpAny_pyNext_zip_item D s1 s2 s3 s4 s5 (xs:=it1.toArray) (ys:=it2.toArray) ⟨_,g1,rfl,n1,rfl⟩ ⟨_,g2,rfl,n2,rfl⟩ (x:=u) (y:=v) (by simpa using hu) (by simpa using hv) fun h' a1 a2 a3 a4 a5 a6 a7=>⟨_,rfl,?_⟩
  refine wpAny_letOwnedTupleGo_zip a1 fun h2 st2 sb=>?_
  have nt:H s.heap.objs.size = none:=I.fresh
  have I1:=I.laid (a:=s.heap.objs.size) (o:=.tup [xs[i],ys[i]]) (h':=s.heap.push { cls:=.type "tuple",data:=.seq #[u,v] }) (t':=s.toks) (fun b q z=>aH _ z) (aG _)
   ⟨(by show 2 <= sizeLine; decide),[u,v],.cons ru (.cons rv .nil),_,aZ _ rfl,rfl,_,rfl⟩
  have nz:z ≠ s.heap.objs.size:=aU (aK s1)
  have nO:TO ≠ s.heap.objs.size:=aU (aK s3)
  have nI:TI ≠ s.heap.objs.size:=aU (aK s2)
  have n1':i1 ≠ s.heap.objs.size:=by obtain ⟨o,e,_⟩:=s4; exact aU (aK e)
  have n2':i2 ≠ s.heap.objs.size:=by obtain ⟨o,e,_⟩:=s5; exact aU (aK e)
  have fpn:∀ b ∈ [z,TI,TO,i1,i2],upd H s.heap.objs.size (.tup [xs[i],ys[i]]) b = none:=by
   intro b hb
   have f0:=(hf b hb).1
   simp only [List.mem_cons,List.not_mem_nil,or_false] at hb
   rcases hb with rfl | rfl | rfl | rfl | rfl
   .exact (bL nz).trans f0
   .exact (bL nI).trans f0
   .exact (bL nO).trans f0
   .exact (bL n1').trans f0
   .exact (bL n2').trans f0
  have I2:=I1.turnedL (ch:=[z,TO,i1,i2]) (h':=h2) (t':=s.toks) (fun b ob hb e=>by
   simp only [List.mem_cons,List.not_mem_nil,or_false,not_or] at hb
   obtain ⟨b1,b2,b3,b4⟩:=hb
   refine (sb.2 b b1).trans ?_
   by_cases hs:b = s.heap.objs.size
   .subst hs
    have e2:=aZ s.heap (o:={ cls:=.type "tuple",data:=.seq #[u,v] }) rfl
    have e:(s.heap.push { cls:=.type "tuple",data:=.seq #[u,v] }).get? s.heap.objs.size = some ob:=e
    rw [e2] at e
    cases e
    exact a5
   .exact a7 b _ b1 b2 b3 b4 (Sh e hs)) fun b hb=>by
    have hb':b ∈ [z,TI,TO,i1,i2]:=by
     simp only [List.mem_cons,List.not_mem_nil,or_false] at hb ⊢
     rcases hb with h | h | h | h <;> simp [h]
    exact ⟨fpn b hb',(hf b hb').2⟩
  have mv:∀ c o,c ≠ z->h'.get? c = some o->h2.get? c = some o:=fun c o n e=>(sb.2 c n).trans e
  exact ⟨.ref _,_,I2,rfl,⟨xs,ys,_,_,_,ha,hb,ex,ey,nt,rfl,rfl⟩,⟨st2,mv _ _ D.TIz (a7 _ _ D.TIz D.TITO D.TIi1 D.TIi2 s2),⟨_,_,mv _ _ D.TOz a2⟩,uY a3 fun o e=>mv _ _ D.i1z e,uY a4 fun o e=>mv _ _ D.i2z e⟩,fpn⟩
 done:=by
  intro X hP hw hK hc i pins s σ H E I hf st hg
  subst hP hw hK
  obtain ⟨s1,s2,⟨p,q,s3⟩,s4,s5⟩:=st
  obtain ⟨xs,ys,ha,hb,lt⟩:=hg
  obtain ⟨_,it1,n1,rv1,le1,g1⟩:=I.lstM ha
  obtain ⟨_,it2,n2,rv2,le2,g2⟩:=I.lstM hb
  refine wpAny_pyNext_zip_end (I.ok.hd hc) D s1 s2 s3 s4 s5 (xs:=it1.toArray) (ys:=it2.toArray) ⟨_,g1,rfl,n1,rfl⟩ ⟨_,g2,rfl,n2,rfl⟩ (by simp; omega) fun h' k=>⟨rfl,I.turnedL (ch:=[z,TO,i1,i2]) (t':=s.toks) (fun b ob hb e=>?_) fun b hb=>?_⟩
  .simp only [List.mem_cons,List.not_mem_nil,or_false,not_or] at hb
   exact k b ob hb.1 hb.2.1 hb.2.2.1 hb.2.2.2 e
  .exact hf b (by
    simp only [List.mem_cons,List.not_mem_nil,or_false] at hb ⊢
    rcases hb with h | h | h | h <;> simp [h])
 self:=fun _ _ _ _ _ ⟨s1,_⟩ h=>wpAny_pyIter_zip s1 h
section
variable {X:Cx}
theorem TQ (n l1 l2:Nat) (h1:l1 < n) (h2:l2 < n):ZipApart (n + 4) (n + 2) (n + 3) n (n + 1) l1 l2:=by
 constructor <;> first | exact aU (by omega) | exact Nat.ne_of_gt (by omega)
theorem Zk (n b:Nat) (h:b = n + 4\/b = n + 2\/b = n + 3\/b = n\/b = n + 1):n <= b:=by omega
theorem boot_zip:bootBuiltins "zip" = some (.type "zip"):=by decide +kernel
def acu (ta:TA):TI:=fun σ H R=>ta σ H fun vs H1=>∃ a b xs ys,vs = [.ref a,.ref b]/\H1 a = some (.lst xs)/\H1 b = some (.lst ys)/\R (Itz a b) H1
theorem Pu {a b:Expr} {ta:TA} {elts:List Expr} {x1} {p pos tpos:Pos} (hg:Gl X "zip") (hm:X.mg "zip" = none) (ha:PA X [a,b] ta) (hs:starEach [a,b] X.env = [(false,eval a X.env),(false,eval b X.env)]:=by rfl) (hs2:starEach [b] X.env = [(false,eval b X.env)]:=by rfl) :
  PI X (.Tuple elts x1 tpos) (.Call (.Name "zip" p) [a,b] [] pos) (acu ta):=by
 intro pins s σ H R I h
 refine Call_ (Br I hg hm boot_zip (PyProof.Rows.callWith_type1 (thn (ha pos pins s σ H _ I h) fun us s1 ⟨vs,H1,I1,r1,q1⟩=>?_) (by rw [hs,hs2]) (by rw [hs2]; rfl)))
 obtain ⟨l1,l2,xs,ys,e,h1,h2,q⟩:=q1
 subst e
 obtain ⟨u,v,rfl,ru,rv⟩:=r1.two
 cases ru
 cases rv
 obtain ⟨_,it1,n1,rv1,le1,g1⟩:=I1.lstM h1
 obtain ⟨_,it2,n2,rv2,le2,g2⟩:=I1.lstM h2
 have z1:=aK g1
 have z2:=aK g2
 refine call_zip_2 (xs:=it1.toArray) (ys:=it2.toArray) ⟨_,g1,rfl,n1,rfl⟩ ⟨_,g2,rfl,n2,rfl⟩ fun h' a1 a2 a3 a4 a5 a6 a7=>?_
 refine wpAny_pyIter_zip a1 ?_
 refine ⟨_,[s1.heap.objs.size + 4,s1.heap.objs.size + 2,s1.heap.objs.size + 3,s1.heap.objs.size,s1.heap.objs.size + 1],_,Itz l1 l2,H1,rfl,I1.kept (t':=s1.toks) fun b ob e=>a7 b ob e,WD _ _ _ _ _ l1 l2 (TQ _ _ _ z1 z2),⟨a1,a2,⟨_,_,a3⟩,a4,a5⟩,fun b hb=>?_,q⟩
 have hb':s1.heap.objs.size <= b:=by
  simp only [List.mem_cons,List.not_mem_nil,or_false] at hb
  exact Zk _ _ hb
 exact I1.fpOk hb' (I1.hok.fresh hb')
end
theorem Cw {ta:TA} {te:TE} {gt:TG} {tc:TT} {n:Nat} {σ:L2.St} {H:Hp} {Q:VK} (h:ta σ H fun vs H1=>∃ a b xs ys,vs = [.ref a,.ref b]/\H1 a = some (.lst xs)/\H1 b = some (.lst ys)/\xs.length = ys.length/\xs.length <= 64/\∀ D,H1 D = none->∃ J:Nat->List V->Hp->Prop,J 0 [] (upd H1 D (.lst [])) /\
   (∀ k x y zs Hc t,xs[k]? = some x->ys[k]? = some y->J k zs Hc->zs.length <= k->Hc t = none->Hc a = some (.lst xs)->Hc b = some (.lst ys)->z6 n gt tc te (.ref t) σ (upd Hc t (.tup [x,y])) (fun v H2=>H2 D = some (.lst zs)/\H2 a = some (.lst xs)/\H2 b = some (.lst ys)/\J (k + 1) (zs ++ [v]) (upd H2 D (.lst (zs ++ [v])))) fun H2=>H2 a = some (.lst xs)/\H2 b = some (.lst ys)/\J (k + 1) zs H2) /\
   ∀ zs Hc,J xs.length zs Hc->zs.length <= xs.length->Q (.ref D) Hc):lX (acu (tMA ta)) n (tMG gt) (tMT tc) (tM te) σ H Q:=by
 refine ⟨_,h,?_⟩
 rintro vs H1 ⟨a,b,xs,ys,rfl,hx,hy,hl,h64,rest⟩
 refine ⟨a,b,xs,ys,rfl,hx,hy,fun D hD=>?_⟩
 obtain ⟨J,j0,step,fin⟩:=rest D hD
 have na:a ≠ D:=bI hx hD
 have nb:b ≠ D:=bI hy hD
 have z64:64 <= sizeLine:=by decide
 refine ⟨fun k m zs Hc=>k <= xs.length/\m = xs.length - k/\zs.length <= k/\Hc a = some (.lst xs)/\Hc b = some (.lst ys)/\J k zs Hc,⟨_,bA _,rfl,bA _,(bL na).trans hx,(bL nb).trans hy,j0⟩,?_⟩
 rintro k m zs Hc ⟨hk,rfl,hz,ha',hb',j⟩
 by_cases e:k = xs.length
 .subst e
  exact .inl ⟨⟨xs,ys,ha',hb',.inl (aG _)⟩,fin zs Hc j hz⟩
 .have hlt:k < xs.length:=by omega
  refine .inr ⟨⟨xs,ys,ha',hb',hlt,by omega⟩,?_⟩
  rintro v H'' ⟨xs',ys',x,y,t,e1,e2,e3,e4,e5,rfl,rfl⟩
  rw [ha'] at e1
  rw [hb'] at e2
  cases e1
  cases e2
  refine (step k x y zs Hc t e3 e4 j hz e5 ha' hb').weak ?_ ?_
  .rintro yv H2 ⟨z1,z2,z3,z4⟩
   refine ⟨by omega,z1,xs.length - (k + 1),by omega,by omega,rfl,?_,(bL na).trans z2,(bL nb).trans z3,z4⟩
   rw [aB]; simp; omega
  .rintro H2 ⟨z2,z3,z4⟩
   exact ⟨xs.length - (k + 1),by omega,by omega,rfl,by omega,z2,z3,z4⟩
theorem R5 {ta:TA} {g:TG} {tb:TS} {D:Ends} {σ:L2.St} {H:Hp} (h:ta σ H fun vs H1=>∃ a b xs ys,vs = [.ref a,.ref b]/\H1 a = some (.lst xs)/\H1 b = some (.lst ys)/\xs.length = ys.length/\∃ J:Nat->L2.St->Hp->Prop,J 0 σ H1 /\
   (∀ k x y σ' H' t,xs[k]? = some x->ys[k]? = some y->J k σ' H'->H' a = some (.lst xs)->H' b = some (.lst ys)->H' t = none->g (.ref t) σ' (upd H' t (.tup [x,y])) fun σ2 H2=>tb { D with nx:=fun σ3 H3=>H3 a = some (.lst xs)/\H3 b = some (.lst ys)/\J (k + 1) σ3 H3,ct:=fun σ3 H3=>H3 a = some (.lst xs)/\H3 b = some (.lst ys)/\J (k + 1) σ3 H3,bk:=D.nx } σ2 H2) /\
   ∀ σ' H',J xs.length σ' H'->H' a = some (.lst xs)->H' b = some (.lst ys)->D.nx σ' H'):Nv (acu (tMA ta)) g tb D σ H:=by
 refine ⟨_,h,?_⟩
 rintro vs H1 ⟨a,b,xs,ys,rfl,hx,hy,hl,J,j0,step,fin⟩
 refine ⟨a,b,xs,ys,rfl,hx,hy,fun k m σ' H'=>k <= xs.length/\m = xs.length - k/\H' a = some (.lst xs)/\H' b = some (.lst ys)/\J k σ' H',⟨_,bA _,rfl,hx,hy,j0⟩,?_⟩
 rintro k m σ' H' ⟨hk,rfl,ha',hb',j⟩
 by_cases e:k = xs.length
 .subst e
  exact .inl ⟨⟨xs,ys,ha',hb',.inl (aG _)⟩,fin σ' H' j ha' hb'⟩
 .have hlt:k < xs.length:=by omega
  refine .inr ⟨⟨xs,ys,ha',hb',hlt,by omega⟩,fun σ3 H3=>H3 a = some (.lst xs)/\H3 b = some (.lst ys)/\J (k + 1) σ3 H3,fun σ3 H3 ⟨z1,z2,z3⟩=>⟨xs.length - (k + 1),by omega,by omega,rfl,z1,z2,z3⟩,?_⟩
  rintro v H'' ⟨xs',ys',x,y,t,e1,e2,e3,e4,e5,rfl,rfl⟩
  rw [ha'] at e1
  rw [hb'] at e2
  cases e1
  cases e2
  exact step k x y σ' H' t e3 e4 j ha' hb' e5
section
variable {X:Cx}
def aeA:List V->Hp->VK->Prop:=fun xs H Q=>∃ (l:Addr) (bs:List Bool),xs = [.ref l]/\H l = some (.lst (bs.map V.bl))/\Q (.bl (bs.any id)) H
theorem rQ:∀ bs:List Bool,((List.range bs.length).any fun i=>(bs[i]?).getD true) = bs.any id
 | []=>rfl
 | b :: bs=>by
  rw [List.length_cons,List.range_succ_eq_map,List.any_cons,List.any_map,List.any_cons]
  have:=rQ bs
  simp only [Function.comp_def,List.getElem?_cons_succ,List.getElem?_cons_zero,Option.getD_some,id] at this ⊢
  rw [this]
theorem zH (hc:X.calm = true):gj X (.builtin "any") aeA:=by
 intro pins s σ H xs us Q I r h
 obtain ⟨l,bs,rfl,hl,q⟩:=h
 obtain ⟨u,rfl,ru⟩:=r.one
 cases ru
 obtain ⟨its,rv,p⟩:=I.lstIs hl
 have hlt:l < s.heap.objs.size:=by obtain ⟨_,e,_⟩:=p; exact aK e
 refine call_any_walk (wpAny_pyIter_list p ?_)
 refine ⟨s.heap.objs.size,[s.heap.objs.size,l],[s.heap.objs.size],its.toArray.size,_,_,fun i=>(bs[i]?).getD true,rfl,Walks.list (A:=X.A.in1) (I.ok.hd hc) _ l (aU hlt) its.toArray,
  ⟨⟨_,aZ _ rfl,rfl,rfl⟩,p.push _⟩,fun i v s' Q' E' hP hQ=>?_,fun h' tk hk=>?_⟩
 .obtain ⟨b,e,rfl⟩:=yU rv i v (by simpa using hP)
  simp only [e,Option.getD_some] at hQ
  exact wpAny_truthy_bool hQ
 .have e:((List.range its.toArray.size).any fun i=>(bs[i]?).getD true) = bs.any id:=by
   rw [bh,<- rv.length,ao]; exact rQ bs
  refine ⟨.bl (bs.any id),H,I.kept (t':=tk) fun b o q=>hk b o (fun hm=>?_) (aH _ q),?_,q⟩
  .rw [List.mem_singleton.mp hm] at q
   exact Nat.lt_irrefl _ (aK q)
  .rw [e]; rfl
end
section
variable {X:Cx}
def adP:List V->Hp->VK->Prop:=fun xs H Q=>∃ p kvs,xs = [.ref p]/\H p = some (.dK kvs)/\Q (.int kvs.length) H
theorem G6:gj X (.builtin "len") adP:=by
 intro pins s σ H xs us Q I r h
 obtain ⟨p,kvs,rfl,hq,q⟩:=h
 obtain ⟨u,rfl,rx⟩:=vals1 r
 cases rx
 obtain ⟨z,y,vs,kv,d⟩:=(show dM X.prog X.w H s.heap p (.dK kvs) from I.hok p _ hq)
 have hl:=uD
 have hlen:kvs.length = vs.length:=kv.length
 exact call_len_dict y d (by omega) ⟨.int kvs.length,H,I.tok _,⟨_,by rw [hlen]⟩,q⟩
theorem Yz {e:Expr} {ta:TE} {f:Str} {pos:Pos} {K':Frag} (hK:X.K = K') (he:PE X e ta) (hb:attributeBase e f X.env (eval e X.env) = eval e X.env):PE X (.Attribute e f pos) (Uv K' ta f):=hK ▸ qI he hb
theorem Q_ (c:Nat):∀ (n:Nat) (acc:Array Nat),((List.replicate n #[c]).foldl (· ++ ·) acc).toList = acc.toList ++ List.replicate n c
 | 0,acc=>by simp
 | n + 1,acc=>by
  rw [List.replicate_succ,List.foldl_cons,Q_ c n,Array.toList_append,List.append_assoc]
  rfl
def aaW:R2:=fun x y H Q=>∃ c n,x = .str ⟨#[c]⟩/\y = .int n/\1 <= n/\n <= 1000/\∀ z:Str,z.cps.toList = List.replicate n.toNat c->Q (.str z) H
theorem Yx:OpR X (binaryOp .Mult) aaW:=by
 intro pins s σ H x y v u Q I rx ry h
 obtain ⟨c,n,rfl,rfl,h0,h1,q⟩:=h
 obtain ⟨t,rfl⟩:=rx
 obtain ⟨t',rfl⟩:=ry
 have hi:(⟨#[c]⟩ : Str).length = 1:=rfl
 have made:∀ z:Str,z.cps.toList = List.replicate n.toNat c->(Made.str z).post (EP X pins σ Q) s:=fun z hz=>⟨by
  have:z.length = n.toNat:=by
   show z.cps.size = _
   rw [<- Array.length_toList,hz,aO]
  exact aN (show z.length <= 1001 by omega) (by decide),.str z,H,I.tok _,⟨_,rfl⟩,q z hz⟩
 refine PySem.P.mul_str ?_ (fun _ _=>?_) (fun _ _=>?_) ?_
 .rw [decide_eq_false (by omega),decide_eq_false (by omega)]; rfl
 .rw [hi]
  have:1 <= (2 ^ 63 - 1:Int) / n:=Int.le_ediv_of_mul_le (by omega) (by omega)
  omega
 .rw [hi]
  unfold Builtin.Str.tooLong
  exact decide_eq_false (by
   have:n.toNat <= 1000:=by omega
   have e:1000 <= sizeLine:=by decide
   omega)
 .split
  .omega
  .split
   .rename_i hc
    rw [hi] at hc
    have e:n.toNat = 1:=by
     simp at hc
     omega
    refine ⟨.str ⟨#[c]⟩,H,I,⟨t,rfl⟩,q _ ?_⟩
    rw [e]; rfl
   .refine made _ ?_
    show ((List.replicate n.toNat #[c]).foldl (· ++ ·) #[]).toList = _
    rw [Q_]; rfl
theorem OkI.wild {P:Program} {w:World} {K:Frag} {mg:Str->Option Value} {base:Heap} {k:Nat} {f:Addr} {ps:List Str} {sp:Sp} (h:OkI P w K mg base CX0 k f ps sp):OkI P w K mg base (CXO P w) k f ps sp:=let ⟨fd,a,b⟩:=h; ⟨fd,a.wild,b⟩
end
section
variable {X:Cx} {p pos:Pos} {e:Expr} {es:List Expr} {t:TA} {tv:TE} {x:Str} {k:Nat} {ps:List Str} {sp:Sp} {f:Addr}
def abW (f:Addr) (sp:Sp) (tv:TE) (t:TA):TE:=fun σ H Q=>tv σ H fun v H0=>v = .ref f/\t σ H0 fun vs H1=>sp vs H1 Q E0
end
def out (H:Hp) (a:Addr):Hp:=fun b=>if b = a then none else H b
theorem fsc {N P:List Str} {sc:Scope} (h1:sc.kind = .function:=by rfl) (h2:sc.isCoroutine = false:=by rfl) (h3:sc.isGenerator = false:=by rfl) (h4:N.Nodup/\(∀ x ∈ P,sc.names.lookup x = some .local\/sc.names.lookup x = some .cell)/\∀ y ∈ sc.names,y.2 ≠ .free:=by decide +kernel) (h5:N.take P.length = P:=by rfl):bZ N P sc:=⟨h1,h2,h3,h4.1,h5,h4.2.1,h4.2.2⟩
abbrev CK (sc scope:Scope) (N N' xs:List Str):Prop:=Gx xs N = N'/\(xs ++ N').Nodup/\(∀ y ∈ scope.names,y.2 ≠ .cell)/\(∀ y ∈ scope.names,y.2 = .local->scope.names.lookup y.1 = some .local)/\(∀ y ∈ scope.names,y.2 = .free->sc.names.lookup y.1 = some .cell\/sc.names.lookup y.1 = some .free) /\
 (∀ y ∈ N,y ∉ xs->(scope.names.map fun (n,k)=>if (k == NameKind.free && sc.kind == .function && sc.names.lookup n == some .cell) then (n,NameKind.cell) else (n,k)).lookup y ≠ some .local)/\∀ y ∈ N,y ∈ xs->(scope.names.map fun (n,k)=>if (k == NameKind.free && sc.kind == .function && sc.names.lookup n == some .cell) then (n,NameKind.cell) else (n,k)).lookup (hid y) = none
section
variable {X:Cx} {elt iter tg:Expr} {pos:Pos} {scope:Scope} {wi:TI} {te:TE} {ifs:List Expr} {gt:TG} {tc:TT}
theorem jM (sc:Scope) (N N' xs:List Str) (hi:PI X tg iter wi) (hg:∀ {C s₀ H₀ ex pn},PG (X.compG N' scope xs C s₀ H₀ ex pn) tg gt) (ht:∀ {C s₀ H₀ ex pn},PTs (X.compG N' scope xs C s₀ H₀ ex pn) ifs tc) (he:∀ {C s₀ H₀ ex pn},PE (X.compG N' scope xs C s₀ H₀ ex pn) elt te)
  (hsc:X.env.scope = sc:=by rfl) (hNN:X.N = N:=by rfl) (hc:X.calm = true:=by rfl) (hk:scope.kind = .function:=by rfl) (h:CK sc scope N N' xs:=by decide +kernel) (hs:∀ z,foldedSetIterable iter X.env z = pure z:=by intro _; rfl):PE X (.ListComp elt [⟨tg,iter,ifs,0⟩] scope pos) (lX wi xs.length (tMG gt) (tMT tc) (tM te)) :=
 by
 subst hsc hNN
 exact WW hc h.1 h.2.1 hk h.2.2.1 h.2.2.2.1 h.2.2.2.2.1 h.2.2.2.2.2.1 h.2.2.2.2.2.2 hi (fun _ _ _ _ _=>hg.mono) (fun _ _ _ _ _=>ht.mono) (fun _ _ _ _ _=>he.mono) hs
theorem Gy {i0:Nat} {y0:Str} {py spos:Pos} (sc:Scope) (N N' xs:List Str) (hi:PI X tg iter wi) (hg:∀ {C s₀ H₀ ex pn},PG (X.compG N' scope xs C s₀ H₀ ex pn) tg gt) (ht:∀ {C s₀ H₀ ex pn},PTs (X.compG N' scope xs C s₀ H₀ ex pn) ifs tc) (he:∀ {C s₀ H₀ ex pn},PE (X.compG N' scope xs C s₀ H₀ ex pn) elt te) (hgy:PG X (.Name y0 py) (cU i0))
  (hsc:X.env.scope = sc:=by rfl) (hNN:X.N = N:=by rfl) (hc:X.calm = true:=by rfl) (hk:scope.kind = .function:=by rfl) (h:CK sc scope N N' xs:=by decide +kernel) (hsw:swapsWith (.ListComp elt [⟨tg,iter,ifs,0⟩] scope pos) (some (.Name y0 py)) spos.line X.env = pure true:=by rfl) (hs:∀ z,foldedSetIterable iter X.env z = pure z:=by intro _; rfl) :
  PS X (.Assign [.Name y0 py] (.ListComp elt [⟨tg,iter,ifs,0⟩] scope pos) spos) (Ft (lX wi xs.length (tMG gt) (tMT tc) (tM te)) (cU i0)) :=
 by
 subst hsc hNN
 exact V8 hc h.1 h.2.1 hk h.2.2.1 h.2.2.2.1 h.2.2.2.2.1 h.2.2.2.2.2.1 h.2.2.2.2.2.2 hi (fun _ _ _ _ _=>hg.mono) (fun _ _ _ _ _=>ht.mono) (fun _ _ _ _ _=>he.mono) hgy hsw hs
theorem eG {N' xs:List Str} {C s₀ H₀ ex pn} {i:Nat} {x:Str} {p:Pos} (hN:(xs ++ N').Nodup:=by decide +kernel) (hi:(xs ++ N')[i]? = some x:=by rfl) (hx:Loc (X.compG N' scope xs C s₀ H₀ ex pn).env.scope x:=by exact Or.inl rfl) (hf:(X.compG N' scope xs C s₀ H₀ ex pn).fn x = true\/(X.compG N' scope xs C s₀ H₀ ex pn).env.scope.names.lookup x = some .local:=by exact Or.inr rfl):PG (X.compG N' scope xs C s₀ H₀ ex pn) (.Name x p) (cU i):=cH hN hi hx hf
end
theorem K3 {tl te:TE} {σ:L2.St} {H:Hp} {Q:VK} (p:Nat->Bool) (y:Str) (hl:∀ R:VK,R (.str y) H->tl σ H R) (hz:y.length <= sizeLine) (he:∀ (c:Nat) (Hc:Hp) (R:VK),R (.bl (p c)) Hc->te (some (.str ⟨#[c]⟩) :: σ) Hc R)
  (q:∀ D,H D = none->Q (.ref D) (upd H D (.lst ((y.cps.toList.map p).map V.bl)))):lX (aeL (tM tl)) 1 (tMG (cU 0)) (tMT Lw) (tM te) σ H Q:=by
 refine aaR (hl _ ⟨y,rfl,fun D hD=>?_⟩)
 have hy:y.cps.size <= sizeLine:=hz
 refine ⟨fun k m ys Hc=>k <= y.cps.size/\m = y.cps.size - k/\ys = ((y.cps.toList.take k).map p).map V.bl/\Hc = upd H D (.lst ys),⟨_,bA _,rfl,rfl,rfl⟩,?_⟩
 rintro k m ys Hc ⟨hk,rfl,rfl,rfl⟩
 by_cases e:k = y.cps.size
 .subst e
  refine .inl ⟨rfl,?_⟩
  rw [aM (by simp)]
  exact q D hD
 .have hlt:k < y.cps.size:=by omega
  refine .inr ⟨hlt,?_⟩
  rintro x H'' ⟨rfl,c,hc,rfl⟩
  refine (Wr (No:=fun _=>False) (he c _ (fun v H2=>v = .bl (p c)/\H2 = upd H D (.lst (((y.cps.toList.take k).map p).map V.bl))) ⟨rfl,rfl⟩)).weak ?_ fun _ z=>z.elim
  rintro v H2 ⟨rfl,rfl⟩
  refine ⟨?_,bK,y.cps.size - (k + 1),by omega,by omega,rfl,?_,?_⟩
  .rw [ao,ao,bw]
   simp only [Array.length_toList]
   omega
  .have e1:y.cps.toList.take (k + 1) = y.cps.toList.take k ++ [c]:=by
    rw [List.take_succ]
    have:y.cps.toList[k]? = some c:=by simpa using hc
    rw [this]; rfl
   rw [e1,bC,bC]; rfl
  .exact uW
theorem adO {K:Frag} {a:Addr} {i j:Int} {d:Option Addr} {n:Nat} {sl:Array (Option Value)} {t u:Tok} (l:K.lookup a = some ⟨.type "tuple",d,.seq #[.int i t,.int j u] n,sl⟩):∀ H,SqT K H a [.int i,.int j]:=fun H=>.inr ⟨_,_,_,l,rfl,rfl,(by show 2 <= sizeLine; decide),.cons ⟨_,rfl⟩ (.cons ⟨_,rfl⟩ .nil)⟩
theorem ag0 {K:Frag} {h:Heap} {mg:Str->Option Value} {x:Str} {i:Int} {t:Tok} (X:K.In h) (G:h.Ns mainGlobals mg) (l:PySem.W.nsIn K mainGlobals x = some (some (.int i t))):∃ u,mg x = some u/\RelV (.int i) u:=⟨_,PySem.W.mg_of X G l,_,rfl⟩
def Lst:Nat->(List Value->Prop)->Prop
 | 0,P=>P []
 | n + 1,P=>∀ a,Lst n fun l=>P (a :: l)
theorem Bb:∀ (n:Nat) {P:List Value->Prop},Lst n P->∀ us:List Value,us.length = n->P us
 | 0,_,h,[],_=>h
 | n + 1,_,h,a :: l,e=>Bb n (h a) l (Nat.succ.inj e)
section
variable {K:Frag} {h:Heap} {mg:Str->Option Value} {x m qual:Str} {v:Value} {C f:Addr} {st:Stmt} {ps:List Str} {oc:Value} {od an:Option Addr} {osl:Array (Option Value)} {kV doc pm cdv ct:Value} {i j:Int} {d:Option Addr} {n:Nat} {sl:Array (Option Value)} {t u:Tok}
theorem q_c (X:K.In h:=by assumption) (G:h.Ns mainGlobals mg:=by assumption) (e:PySem.W.nsIn K mainGlobals x = some (some v):=by k_is):mg x = some v:=PySem.W.mg_of X G e
theorem q_z (X:K.In h:=by assumption) (G:h.Ns mainGlobals mg:=by assumption) (e:PySem.W.nsIn K mainGlobals x = some none:=by k_is):mg x = none:=PySem.W.mg_none_of X G e
theorem q_n (e:PySem.W.findIn K (.ref C) x = some none:=by k_is):cL K C x:=e
theorem q_m (a:PySem.W.findIn K (.ref C) m = some (some (.ref f)):=by k_is) (b:PySem.W.isFn K (.ref f) = true:=by k_is) (c:PySem.W.keepIn K (.ref f) = true:=by k_is):Meth K C m f:=⟨a,b,c⟩
theorem q_M (a:PySem.W.makesIn K C = true:=by k_is) (b:PySem.W.findIn K (.ref C) "__init__" = some (some (.ref f)):=by k_is) (c:PySem.W.isFn K (.ref f) = true:=by k_is) (e:PySem.W.keepIn K (.ref C) = true:=by k_is):Mk K C f:=⟨a,b,c,e⟩
theorem q_4 (a:PySem.W.plainGet K C Str.empty = true:=by k_is) (b:PySem.W.hasDictIn K C = true:=by k_is) (c:PySem.W.plainOver K C = true:=by k_is) (e:PySem.W.findIn K (.ref C) "__setattr__" = some (some (.builtin "object.__setattr__")):=by k_is):Cls K C:=⟨a,b,c,e⟩
theorem q_I (a:PySem.W.findIn K (.ref C) "__class__" = some (some (.builtin "object.__class__")):=by k_is) (b:PySem.W.specialIn K (.builtin "object.__class__") "__get__" = some (some (.builtin "getset_descriptor.__get__")):=by k_is) (c:PySem.W.takesIn K (.builtin "object.__class__") = some true:=by k_is) (e:PySem.W.mroIn K C (.type "object") = some true:=by k_is):Mi K C:=⟨a,b,c,e⟩
theorem q_B (a:PySem.W.specialIn K (.ref C) "__getattribute__" = some (some (.builtin "type.__getattribute__")):=by k_is) (b:PySem.W.readsIn K C (.type "type") = true:=by k_is) (c:PySem.W.findCls K (.ref C) (.type "type") m = some (.val (.ref f)):=by k_is) (e:PySem.W.keepIn K (.ref f) = true:=by k_is):kY K C m f:=⟨a,b,c,rfl,e⟩
theorem q_x (e:PySem.W.excIn K C bmV "ValueError.__new__" = true:=by k_exc):Nf K C:=e
theorem q_g (X:K.In h:=by assumption) (G:h.Ns mainGlobals mg:=by assumption) (l:PySem.W.nsIn K mainGlobals x = some (some (.int i t)):=by k_is):∃ u,mg x = some u/\RelV (.int i) u:=ag0 X G l
theorem q_t (l:K.lookup C = some ⟨.type "tuple",d,.seq #[.int i t,.int j u] n,sl⟩:=by k_is):∀ H,SqT K H C [.int i,.int j]:=adO l
theorem q_f (N:Nat) (hb:∀ (kV doc pm:Value) (an:Option Addr) (cdv ct:Value),Lst N fun us=>bindArgs (PySem.W.fnOf x x (gA st) (eE st) (bN st) .none kV doc pm an cdv ct) ⟨us,[]⟩ = pure (ps.zip us)) (hN:ps.length = N:=by rfl) (X:K.In h:=by assumption) (G:h.Ns mainGlobals mg:=by assumption)
  (a:PySem.W.nsIn K mainGlobals x = some (some (.ref f)):=by k_is) (l:K.lookup f = some ⟨oc,od,.func (PySem.W.fnOf x x (gA st) (eE st) (bN st) .none kV doc pm an cdv ct),osl⟩:=by k_is)
  (c:PySem.W.codeIn K cdv x = true:=by k_is) (k:PySem.W.keepIn K (.ref f) = true:=by k_is):dU K mg x st ps:=aaj X G a l c k fun kV doc pm an cdv ct us e=>Bb N (hb kV doc pm an cdv ct) us (e.trans hN)
theorem q_h (N:Nat) (hb:∀ (kV doc pm:Value) (an:Option Addr) (cdv ct:Value),Lst N fun us=>bindArgs (PySem.W.fnOf x qual (gA st) (eE st) (bN st) .none kV doc pm an cdv ct) ⟨us,[]⟩ = pure (ps.zip us)) (hN:ps.length = N:=by rfl)
  (l:K.lookup f = some ⟨oc,od,.func (PySem.W.fnOf x qual (gA st) (eE st) (bN st) .none kV doc pm an cdv ct),osl⟩:=by k_is) (c:PySem.W.codeIn K cdv qual = true:=by k_is) (k:PySem.W.keepIn K (.ref f) = true:=by k_is):rR K x qual st ps f:=ZV l c k fun kV doc pm an cdv ct us e=>Bb N (hb kV doc pm an cdv ct) us (e.trans hN)
end
section
variable {X:Cx} {k:Nat} {f C:Addr} {ps:List Str} {sp:Sp} {m:Str} {pos apos:Pos} {e o:Expr} {es:List Expr} {ta:TE} {t:TA} {Ex:Value->Option Addr->L2.St->Hp->Prop}
theorem fW {K':Frag} (hK:X.K = K'):gj X (.builtin "isinstance") (aa6 K'):=by
 subst hK
 exact SX
end
section
variable {X:Cx} {es:List Expr} {t:TA} {pos:Pos}
def af4 (t:TA):TE:=fun σ H Q=>t σ H fun xs H1=>xs.length <= sizeLine/\∀ p H',Same H1 H'->H1 p = none->H' p = some (.lst xs)->Q (.ref p) H'
def agd (t:TA):TE:=fun σ H Q=>t σ H fun xs H1=>xs.length <= sizeLine/\∀ p H',Same H1 H'->H1 p = none->H' p = some (.tup xs)->Q (.ref p) H'
theorem jA (h:PA X es t):PE X (.List es pos) (af4 t):=(lY h.mono).imp fun σ H Q h=>⟨_,h,fun xs H1 z=>⟨z.1,fun p hp=>z.2 p _ (Same.upd hp) hp bK⟩⟩
theorem dG {k:Nat} (h:PA X es t):PE X (.Tuple es k pos) (agd t):=(j6 h.mono).imp fun σ H Q h=>⟨_,h,fun xs H1 z=>⟨z.1,fun p hp=>z.2 p _ (Same.upd hp) hp bK⟩⟩
def afm:R2:=fun x y H Q=>∃ l b xs zs,x = .ref l/\y = .ref b/\H l = some (.lst xs)/\H b = some (.lst zs)/\xs.length + zs.length <= sizeLine/\∀ p H',Same H H'->H p = none->H' p = some (.lst (xs ++ zs))->Q (.ref p) H'
theorem Yy:OpR X (binaryOp .Add) afm:=Px.imp fun x y H Q ⟨l,b,xs,zs,e1,e2,h1,h2,z,q⟩=>⟨l,b,xs,zs,e1,e2,h1,h2,z,fun p hp=>q p _ (Same.upd hp) hp bK⟩
def agn:V->Option Int->Option Int->Hp->VK->Prop:=fun x lo hi H Q=>∃ a xs,x = .ref a/\H a = some (.lst xs)/\∀ p H',Same H H'->H p = none->H' p = some (.lst (pA xs lo hi))->Q (.ref p) H'
theorem Ef:SlR X agn:=fun pins s σ H x v vl vu lo hi sl Q I rx hs pl pu ⟨a,xs,e,h,q⟩=>Bc pins s σ H x v vl vu lo hi sl Q I rx hs pl pu ⟨a,xs,e,.of h,fun p hp=>q p _ (Same.upd hp) hp bK⟩
def agt (to:TE):TE:=fun σ H Q=>to σ H fun x H1=>∃ l xs,x = .ref l/\H1 l = some (.lst xs)/\Q .non (upd H1 l (.lst xs.reverse))
theorem ach {o:Expr} {to:TE} {apos cpos:Pos} (ho:PE X o to) (hb:attributeBase o "reverse" X.env (eval o X.env) = eval o X.env:=by rfl) (hl:(apos.endLine == cpos.line) = true:=by rfl) :
  PE X (.Call (.Attribute o "reverse" apos) [] [] cpos) (agt to):=by
 refine (abh PySem.F.plainAttrs_list PySem.F.slot_list_reverse PySem.F.type_list_reverse Nh ho.mono hb hl).imp fun σ H Q h=>?_
 refine ⟨_,h,?_⟩
 rintro x H1 ⟨l,xs,rfl,hx,q⟩
 exact ⟨.inl ⟨rfl,_,SqL.of hx⟩,l,xs,rfl,rfl,hx,q⟩
end
section
variable {X:Cx}
def ahq (H:Hp) (f:Int × Int):Value->Bool
 | .ref a=>match H a with
  | some (.tup [.int x,.int y])=>decide (x = f.1) && decide (y = f.2)
  | _=>false
 | _=>false
end
def OkL (P:Program) (w:World) (K:Frag) (mg:Str->Option Value) (base:Heap) (k:Nat) (f:Addr) (ps:List Str) (sp:Sp):Prop :=
 ∃ fd o,cC P w K mg base CX0 k f fd ps sp/\Binds K fd ps []/\base.get? f = some o/\o.data = .func fd
theorem Ze {M:Model} {f:Addr} {o:Obj} {fd:FuncData} (hd:o.data = .func fd) (h:Heap) (e:h.get? f = some o):∃ k,(k = Keeper.frame\/k = Keeper.machine\/k = Keeper.boundFrame)/\PySem.W.Looks M h (keeperOf (.ref f)) k:=by
 refine ⟨.frame,.inl rfl,(PySem.W.Looks.ld (part:=none) e).andThen ?_⟩
 rw [hd]
 exact .now
section
variable {X:Cx} {p pos:Pos} {e:Expr} {es:List Expr} {t:TA} {tv:TE} {x:Str} {k:Nat} {ps:List Str} {sp:Sp} {f:Addr}
theorem Wz (G:OkL X.prog X.w X.K X.mg X.base k f ps sp) (hr:gJ k X.A) (hv:PE X (.Name x p) tv) (ha:PA X (e :: es) t)
  (he:starEach (e :: es) X.env = (false,eval e X.env) :: starEach es X.env:=by rfl) (hpl:(backTo pos (starEach es X.env)).any (·.1) = false:=by rfl):PE X (.Call (.Name x p) (e :: es) [] pos) (abW f sp tv t):=by
 obtain ⟨fd,o,F,b,ho,hd⟩:=G
 intro pins s σ H Q I h
 refine wpAny_Call_Name_kw (thn (hv pins s σ H _ I h) ?_)
 rintro u s0 ⟨v,H0,I0,r0,rfl,q0⟩
 cases r0
 have ar:wpAny (model X.prog X.w) X.A (spliced (backTo pos (starEach (e :: es) X.env))) (fun us s1=>s1.heap.get? f = some o/\wpAny (model X.prog X.w) X.A (call (.ref f) ([] ++ us)) (EP X pins σ Q) X.xe s1) X.xe s0:=by
  refine thn (ha pos pins s0 σ H0 _ I0 q0) ?_
  rintro us s1 ⟨vs,H1,I1,r,q⟩
  refine ⟨I1.bk f o ho,G8 F hr b .nil QF I1 r ?_⟩
  rw [List.append_nil]
  exact q
 rw [he] at ar ⊢
 exact PySem.W.callWith_of (P:=fun h=>h.get? f = some o) (by show ((false || (backTo pos (starEach es X.env)).any (·.1)) || false) = false; rw [hpl]; rfl) (Ze hd) (PySem.Calls.evalArgs_plain ar)
end
def cxL (P:Program) (w:World) (K:Frag) (mg:Str->Option Value) (base:Heap) (N:List Str) (qual:Str) (scope:Scope) (f:Addr) (cd:Value) (cl:List (Str × Addr)) (A:Around) (outer:List Env) (s:Shared) (H:Hp) (E:XK):Cx where
 prog:=P
 w:=w
 K:=K
 mg:=mg
 base:=base
 A:=A.deeper (PySem.W.envX qual scope s.heap.objs.size f cd cl)
 N:=N
 s₀:=s
 H₀:=H
 env:=PySem.W.envX qual scope s.heap.objs.size f cd cl
 outer:=outer
 stack:=PySem.W.envX qual scope s.heap.objs.size f cd cl :: outer
 ex:=[]
 calm:=true
 fn:=fun _=>false
 pn:=[]
 xe:=fun e s'=>wpAny (model P w) (A.deeper (PySem.W.envX qual scope s.heap.objs.size f cd cl)) (leaving (PySem.W.envX qual scope s.heap.objs.size f cd cl) e) (fun _ s''=>CX0 outer H s E e s'') (fun e' s''=>CX0 outer H s E e' s'') s'
inductive vq (base:Heap) (scope:Scope):List (Str × Addr)->List V->Prop where
 | nil:vq base scope [] []
 | cons {x:Str} {c:Addr} {v:V} {u:Value} {cl:List (Str × Addr)} {vs:List V} : scope.names.lookup x = some .free->base.IsCell c (some u)->RelV v u->cl.lookup x = none->(∀ y,(y,c) ∉ cl)->vq base scope cl vs->vq base scope ((x,c) :: cl) (v :: vs)
theorem vq.len {base:Heap} {scope:Scope} {cl:List (Str × Addr)} {vs:List V} (h:vq base scope cl vs):cl.length = vs.length:=by
 induction h with
 | nil=>rfl
 | cons _ _ _ _ _ _ ih=>simp [ih]
theorem vq.at {base:Heap} {scope:Scope} {cl:List (Str × Addr)} {vs:List V} (h:vq base scope cl vs) {i:Nat} {x:Str} {v:V} (e:(cl.map (·.1))[i]? = some x) (ev:(vs.map some)[i]? = some (some v)):scope.names.lookup x = some .free/\∃ c u,cl.lookup x = some c/\base.IsCell c (some u)/\RelV v u:=by
 induction h generalizing i with
 | nil=>simp at e
 | @cons y c v0 u cl vs k1 k2 k3 k4 k5 _ ih =>
  cases i with
  | zero =>
   simp at e ev; subst e; subst ev
   exact ⟨k1,c,u,by simp [List.lookup],k2,k3⟩
  | succ j =>
   simp at e ev
   obtain ⟨q1,c',u',q2,q3,q4⟩:=ih (i:=j) (by simpa using e) (by simpa using ev)
   refine ⟨q1,c',u',?_,q3,q4⟩
   have ne:(x == y) = false:=by
    cases z:x == y with
    | false=>rfl
    | true=>rw [beq_iff_eq.mp z,k4] at q2; cases q2
   rw [List.lookup_cons,ne]; exact q2
theorem vq.cells {base:Heap} {scope:Scope} {cl:List (Str × Addr)} {vs:List V} (h:vq base scope cl vs) {x:Str} {c:Addr} (e:cl.lookup x = some c):∃ u,base.IsCell c (some u):=by
 induction h with
 | nil=>cases e
 | @cons y c0 v0 u cl vs k1 k2 k3 k4 k5 _ ih =>
  rw [List.lookup_cons] at e
  split at e
  .cases e; exact ⟨u,k2⟩
  .exact ih e
theorem tG {cl:List (Str × Addr)} {x:Str} {c:Addr} (e:cl.lookup x = some c):(x,c) ∈ cl:=PySem.mem_of_lookup e
theorem vq.inj {base:Heap} {scope:Scope} {cl:List (Str × Addr)} {vs:List V} (h:vq base scope cl vs) {x y:Str} {c:Addr} (e:cl.lookup x = some c) (e':cl.lookup y = some c):x = y:=by
 induction h with
 | nil=>cases e
 | @cons z c0 v0 u cl vs k1 k2 k3 k4 k5 _ ih =>
  rw [List.lookup_cons] at e e'
  cases a:x == z <;> cases b:y == z <;> rw [a] at e <;> rw [b] at e'
  .exact ih e e'
  .cases e'; exact absurd (tG e) (k5 _)
  .cases e; exact absurd (tG e') (k5 _)
  .rw [beq_iff_eq.mp a,beq_iff_eq.mp b]
theorem Oo {P:Program} {w:World} {K:Frag} {mg:Str->Option Value} {base:Heap} {x:Str} {qual:Str} {scope:Scope} {f:Addr} {cd:Value} {cl:List (Str × Addr)} {frees:List V} {A:Around} {outer:List Env} {s:Shared} {H:Hp} {E:XK} {u:Value} {v:V} {h₁:Heap} {tk:Tok}
  (hk:scope.kind = .function) (hcell:∀ y ∈ scope.names,y.2 ≠ .cell) (hx:scope.names.lookup x = some .local) (hfree:∀ y,scope.names.lookup y = some .free->∃ c,cl.lookup y = some c) (hs:vq base scope cl frees)
  (hd:A.handled = none) (e0:Bm P w K mg base A outer s H) (r:RelV v u)
  (hns:h₁.Ns s.heap.objs.size (fun y=>[(x,u)].reverse.lookup y)) (hkp:∀ b o,s.heap.get? b = some o->h₁.get? b = some o) :
  Inv (cxL P w K mg base (x :: cl.map (·.1)) qual scope f cd cl A outer s H E) [] (some v :: frees.map some) H { s with heap:=h₁,toks:=tk }:=by
 have noA:∀ b:Addr,b ∉ (cxL P w K mg base (x :: cl.map (·.1)) qual scope f cd cl A outer s H E).ex:=fun b z=>absurd (show b ∈ ([] : List Addr) from z) (by simp)
 have cb:∀ c u,base.IsCell c (some u)->h₁.IsCell c (some u)/\H c = none:=fun c u ⟨o,ho,hd⟩=>⟨⟨o,hkp _ _ (e0.bs _ _ ho).1,hd⟩,(e0.bs _ _ ho).2⟩
 refine ⟨⟨e0.mod,hk,rfl,rfl,aG _,fun y z c h1 h2=>hs.inj h1 h2,fun y hy=>?_,(fun y c h=>nomatch h),fun _=>hd,Around.frames_deeper e0.frames,.inr ⟨rfl,rfl⟩,fun b z=>absurd z (noA b),e0.bs,e0.bsz,fun b _ _=>noA b,fun b z=>absurd z (noA b),e0.funs,e0.frf⟩,
  rfl,e0.bare,Un.kept hkp,⟨_,hns,fun i y v' h1 h2 h3=>?_⟩,fun y c h=>?_,e0.hok.fresh (aG _),fun y c h=>?_,fun p hp=>absurd (show p ∈ ([] : List (Addr × Obj)) from hp) (by simp),e0.hok.kept hkp,?_⟩
 .rcases hy with hy | hy
  .exact absurd rfl (hcell _ (PySem.mem_of_lookup hy))
  .exact hfree y hy
 .cases i with
  | zero =>
   have h1:some x = some y:=h1
   have h2:some (some v) = some (some v'):=h2
   cases h1; cases h2
   exact ⟨u,r,.inl ⟨hx,by show [(x,u)].lookup x = some u; simp [List.lookup]⟩⟩
  | succ j =>
   have h1:(cl.map (·.1))[j]? = some y:=h1
   have h2:(frees.map some)[j]? = some (some v'):=h2
   obtain ⟨q1,c,u',q2,q3,q4⟩:=hs.at h1 h2
   exact ⟨u',q4,.inr ⟨.inr q1,c,q2,(cb c u' q3).1⟩⟩
 .obtain ⟨u',q⟩:=hs.cells h
  exact ⟨_,(cb c u' q).1⟩
 .obtain ⟨u',q⟩:=hs.cells h
  exact (cb c u' q).2
 .show _ = (x :: cl.map (·.1)).length
  simp [hs.len]
theorem ab4 {P:Program} {w:World} {K:Frag} {mg:Str->Option Value} {base:Heap} {k:Nat} {f c':Addr} {name qual:Str} {params:Arguments} {body:Expr} {scope:Scope} {cl:List (Str × Addr)} {pm ctv:Value} {x:Str} {frees:List V} {sp:Sp}
  (ho:base.get? f = some (PySem.W.kla_obj name qual params body scope cl pm c' ctv)) (hcr:base.CodeRec (.ref c') qual)
  (hk:scope.kind = .function) (hco:scope.isCoroutine = false) (hgen:scope.isGenerator = false) (hcell:∀ y ∈ scope.names,y.2 ≠ .cell) (hx:scope.names.lookup x = some .local) (hfree:∀ y,scope.names.lookup y = some .free->∃ c,cl.lookup y = some c) (hs:vq base scope cl frees)
  (len:∀ vs H Q E,sp vs H Q E->vs.length = 1)
  (hbody:∀ (A:Around) (outer:List Env) (s:Shared) (H:Hp) (v:V) (Q:VK) (E:XK),gJ k (A.deeper (PySem.W.envX qual scope s.heap.objs.size f (.ref c') cl))->sp [v] H Q E ->
   ∃ t,PE (cxL P w K mg base (x :: cl.map (·.1)) qual scope f (.ref c') cl A outer s H E) body t/\t (some v :: frees.map some) H Q) :
  cC P w K mg base CX0 (k + 1) f (PySem.W.kla_fn name qual params body scope cl pm (.ref c') ctv) [x] sp:=by
 refine ⟨fun vs H Q E h=>len vs H Q E h,fun A outer s H args us vs Q E hr e0 hb r hsp=>?_⟩
 have hl:=len _ _ _ _ hsp
 obtain ⟨v,rfl⟩ : ∃ v,vs = [v]:=by
  cases vs with
  | nil=>cases hl
  | cons v t=>cases t with
   | nil=>exact ⟨v,rfl⟩
   | cons _ _=>cases hl
 obtain ⟨u,rfl,rv⟩ : ∃ u,us = [u]/\RelV v u:=by
  cases r with
  | cons a t=>cases t; exact ⟨_,rfl,a⟩
 have lim:s.heap.NoLimit:=e0.mod.nolimit.keeps fun b o e=>(e0.bs b o e).1
 obtain ⟨c2,oc,ws,tk,e2,hoc,hdc,hq⟩:=hcr
 refine PySem.W.kla_callFunE hr.depth (e0.bs _ _ ho).1 rfl hco hgen rfl ⟨c2,oc,ws,tk,e2,(e0.bs _ _ hoc).1,hdc,hq⟩ (hb _ _ _ _ ?_)
 refine wpAny_newFunctionEnv hcell (fun y hy=>?_) (fun h₁ hns hsb=>?_) hk
 .have hy:y ∈ [(x,u)]:=hy
  rw [List.mem_singleton.mp hy]; exact hx
 have hkp:∀ b o,s.heap.get? b = some o->h₁.get? b = some o:=fun b o e=>hsb.extBut b o (aU (aK e)) (aH _ e)
 refine ⟨lim.keeps hkp,PySem.W.kla_codeExpr ?_⟩
 obtain ⟨t,ht,hq⟩:=hbody A outer s H v Q E (hr.deeper _) hsp
 have I:=Oo (f:=f) (cd:=.ref c') (qual:=qual) (E:=E) (tk:=s.toks + [(x,u)].length) hk hcell hx hfree hs hr.hd e0 rv hns hkp
 exact wpAny_mono (ht [] _ _ H _ I hq) (fun u' s' ⟨v',H',J,rv',q⟩=>⟨v',H',J.os,J.bare,J.base,J.hok,rv',q⟩) fun e s' hs=>hs
def DY (c:Addr) (qual:Str):HO:=.ext fun h=>∃ o vs t,h.get? c = some o/\o.data = .fields vs/\vs[1]? = some (.str qual t)
def Nx (f:Addr) (mkO:Value->Obj):HO:=.ext fun h=>∃ ctv,h.get? f = some (mkO ctv)
def trip (pos:Pos) (c:Addr):Array Value:=#[rawInt pos.line,rawInt pos.col,.ref c]
def vO (Pt:Addr) (pos:Pos) (qual:Str) (H:Hp):Option Addr->Prop
 | none=>H Pt = some (.tbl #[])
 | some c=>H Pt = some (.tbl (trip pos c))/\H c = some (DY c qual)
def aha (Pt:Addr) (pos:Pos) (qual:Str) (mkO:Addr->Value->Obj):TE:=fun σ H Q=>∃ oc,vO Pt pos qual H oc /\
 ∀ f c H',H f = none->f ≠ c->(oc = none->H c = none)->(∀ c0,oc = some c0->c = c0)->vO Pt pos qual H' (some c)->H' f = some (Nx f (mkO c))->(∀ b,b ≠ Pt->b ≠ c->b ≠ f->H' b = H b)->Q (.ref f) H'
theorem MK {P:Program} {w:World} {H:Hp} {h:Heap} {c:Addr} {q:Str} (r:h.CodeRec (.ref c) q):dM P w H h c (DY c q):=by
 obtain ⟨c2,o,vs,t,e,ho,hd,hv⟩:=r
 cases e
 exact ⟨⟨o,vs,t,ho,hd,hv⟩,⟨o,ho⟩,fun h1 h2 ⟨o,vs,t,a,b,d⟩ k=>⟨o,vs,t,k o a,b,d⟩⟩
theorem RW {P:Program} {w:World} {H:Hp} {h:Heap} {c:Addr} {q:Str} (r:dM P w H h c (DY c q)):h.CodeRec (.ref c) q:=by
 obtain ⟨⟨o,vs,t,ho,hd,hv⟩,_⟩:=r
 exact ⟨c,o,vs,t,rfl,ho,hd,hv⟩
theorem Ql {P:Program} {w:World} {H:Hp} {h:Heap} {f:Addr} {mkO:Value->Obj} {ctv:Value} (e:h.get? f = some (mkO ctv)):dM P w H h f (Nx f mkO) :=
 ⟨⟨ctv,e⟩,⟨_,e⟩,fun h1 h2 ⟨c,a⟩ k=>⟨c,k _ a⟩⟩
section
variable {X:Cx} {params:Arguments} {body:Expr} {scope:Scope} {pos:Pos} {c0 Pt:Addr} {cl:List (Str × Addr)}
theorem ab1 (hB:X.base.BuiltinsAt X.mg Pt) (hcode:X.env.code = .ref c0) (hC:PySem.W.codeHdIn X.K c0 Pt = true) (hcl:closureFor scope X.env = pure cl) (hdef:defaultsOf params X.env = ([],[]):=by rfl) :
  PE X (.Lambda params body scope pos) (aha Pt pos (X.env.qual ++ "<lambda>") fun c ctv=>PySem.W.kla_obj "<lambda>" (X.env.qual ++ "<lambda>") params body scope cl ((X.mg "__name__").getD .none) c ctv):=by
 intro pins s σ H Q I h
 obtain ⟨oc,la,q⟩:=h
 have hg:s.heap.Ns mainGlobals X.mg:=I.ok.mod.glob.keeps I.bk
 have C:PySem.W.CodeHd s.heap c0 Pt:=PySem.W.codeHd_of_K I.kIn hC
 obtain ⟨bm,ob,b1,b2,b3,b4,b5,b6⟩:=hB
 have hb:s.heap.BuiltinsAt X.mg Pt:=⟨bm,ob,b1,b2,b3,b4,I.bk _ _ b5,b6⟩
 refine PySem.W.kla_eval hdef ?_
 cases oc with
 | none =>
  have hP:s.heap.get? Pt = some (PySem.W.tabObj #[]):=I.hok Pt _ la
  have hgP:mainGlobals ≠ Pt:=fun z=>by
   obtain ⟨o,es,ep,e,hd,_⟩:=hg
   rw [z,hP] at e; cases e; cases hd
  refine PySem.W.kla_makeFunction hcl I.ok.glob hg hcode C hP trivial rfl hgP hb fun c' ctv h' tk hx hge hlt hrec htb=>?_
  generalize eo:PySem.W.kla_obj "<lambda>" (X.env.qual ++ "<lambda>") params body scope cl ((X.mg "__name__").getD .none) c' ctv = ob'
  have hf:(h'.push ob').get? h'.objs.size = some ob':=aZ _ (by rw [<- eo]; rfl)
  have hps:∀ {b:Addr} {o:Obj},h'.get? b = some o->(h'.push ob').get? b = some o:=fun e=>aH _ e
  have lo:∀ {b:Addr} {o:Obj},s.heap.get? b = some o->b ≠ c'/\b ≠ h'.objs.size:=fun e=>have z:=aV (aK e) hge; ⟨aU z,aU (Nat.lt_trans z hlt)⟩
  have lH:∀ {b:Addr} {u:HO},H b = some u->b ≠ c'/\b ≠ h'.objs.size:=fun e=>have z:=aV (I.hok.lt e) hge; ⟨aU z,aU (Nat.lt_trans z hlt)⟩
  have ptn:Pt ≠ c'/\Pt ≠ h'.objs.size:=lo hP
  have cf:c' ≠ h'.objs.size:=aU hlt
  let H':Hp:=upd (upd (upd H Pt (.tbl (trip pos c'))) c' (DY c' (X.env.qual ++ "<lambda>"))) h'.objs.size (Nx h'.objs.size fun ctv=>PySem.W.kla_obj "<lambda>" (X.env.qual ++ "<lambda>") params body scope cl ((X.mg "__name__").getD .none) c' ctv)
  have eP:H' Pt = some (.tbl (trip pos c')):=(bL ptn.2).trans ((bL ptn.1).trans bK)
  have ec:H' c' = some (DY c' (X.env.qual ++ "<lambda>")):=(bL cf).trans bK
  have ef:H' h'.objs.size = some (Nx h'.objs.size fun ctv=>PySem.W.kla_obj "<lambda>" (X.env.qual ++ "<lambda>") params body scope cl ((X.mg "__name__").getD .none) c' ctv):=bK
  have eo':∀ b,b ≠ Pt->b ≠ c'->b ≠ h'.objs.size->H' b = H b:=fun b n1 n2 n3=>(bL n3).trans ((bL n2).trans (bL n1))
  have np:∀ {b:Addr} {u:HO},H b = some u->(∀ ps,u ≠ .tbl ps)->b ≠ Pt:=fun e n z=>by rw [z,la] at e; cases e; exact n _ rfl
  have n0:∀ {b:Addr},H b = none->b ≠ Pt:=fun e z=>by rw [z,la] at e; cases e
  have un:Un (frs X.stack) [] H H' s.heap (h'.push ob'):=by
   refine ⟨fun b o e n _ _=>hps (hx b o (n0 n) e),fun b o e n _ _=>⟨o.slots,hps (hx b o (n0 n) e)⟩,fun b o e n _=>?_,fun b o e _=>?_,fun b xs e=>?_,fun b o u e=>?_,fun b ps e=>?_⟩
   .rw [eo' b (n0 n) (lo e).1 (lo e).2]; exact n
   .by_cases z:b = Pt
    .subst z; exact ⟨_,hps htb⟩
    .exact ⟨o,hps (hx b o z e)⟩
   .rw [eo' b (np e (fun _ z=>by cases z)) (lH e).1 (lH e).2]; exact e
   .rw [eo' b (np e (fun _ z=>by cases z)) (lH e).1 (lH e).2]; exact e
   .by_cases z:b = Pt
    .subst z
     rw [la] at e; cases e
     exact ⟨trip pos c',by rw [eP]; simp⟩
    .rw [eo' b z (lH e).1 (lH e).2]; exact ⟨#[],by rw [e]; simp⟩
  have hok:HOk X.prog X.w H' (h'.push ob'):=by
   intro b u e
   by_cases z1:b = h'.objs.size
   .subst z1
    rw [ef] at e; cases e
    exact Ql (ctv:=ctv) (by rw [eo]; exact hf)
   by_cases z2:b = c'
   .subst z2
    rw [ec] at e; cases e
    obtain ⟨c2,oc,vs,t,e2,ho,hd,hv⟩:=hrec
    exact MK ⟨c2,oc,vs,t,e2,hps ho,hd,hv⟩
   by_cases z3:b = Pt
   .subst z3
    rw [eP] at e; cases e
    exact hps htb
   .rw [eo' b z3 z2 z1] at e
    refine (I.hok b u e).stay (fun d o hd r=>?_) (fun d r=>?_) fun d xs r=>?_
    .refine hps (hx d o (fun z=>?_) r)
     rcases hd with rfl | hd
     .exact z3 z
     .exact np hd (fun _ z=>by cases z) z
    .rw [eo' d (np r (fun _ z=>by cases z)) (lH r).1 (lH r).2]; exact r
    .rw [eo' d (np r (fun _ z=>by cases z)) (lH r).1 (lH r).2]; exact r
  have J:Inv X pins σ H' { s with heap:=h'.push ob',toks:=tk }:=I.call (g':=s.gens) (d':=s.drawn) (t':=tk) (ch:=[]) un hok I.bare fun b z=>nomatch z
  subst eo
  refine ⟨.ref h'.objs.size,H',J,rfl,q h'.objs.size c' H' ?_ cf.symm (fun _=>?_) (fun c0 z=>nomatch z) ⟨eP,ec⟩ ef eo'⟩
  .cases z:H h'.objs.size with
   | none=>rfl
   | some u=>exact absurd rfl (lH z).2
  .cases z:H c' with
   | none=>rfl
   | some u=>exact absurd rfl (lH z).1
 | some c =>
  obtain ⟨la1,la2⟩:=la
  have hP:s.heap.get? Pt = some (PySem.W.tabObj (trip pos c)):=I.hok Pt _ la1
  refine PySem.W.kla_makeFunctionHit (cv:=.ref c) hcl I.ok.glob hg hcode C hP (by simp [TriplesOk,trip,rawInt]) (by simp [codeAmong,trip,rawInt]) hb fun ctv h' tk hk hsz=>?_
  generalize eo:PySem.W.kla_obj "<lambda>" (X.env.qual ++ "<lambda>") params body scope cl ((X.mg "__name__").getD .none) c ctv = ob'
  have hf:(h'.push ob').get? h'.objs.size = some ob':=aZ _ (by rw [<- eo]; rfl)
  have hps:∀ b o,s.heap.get? b = some o->(h'.push ob').get? b = some o:=fun b o e=>aH _ (hk b o e)
  have hn:H h'.objs.size = none:=I.hok.fresh hsz
  have cf:c ≠ h'.objs.size:=bI la2 hn
  have un:Un (frs X.stack) [] H (upd H h'.objs.size (Nx h'.objs.size fun ctv=>PySem.W.kla_obj "<lambda>" (X.env.qual ++ "<lambda>") params body scope cl ((X.mg "__name__").getD .none) c ctv)) s.heap (h'.push ob'):=Un.laid hps hsz hn
  have hok:=I.hok.laid (a:=h'.objs.size) (o:=Nx h'.objs.size fun ctv=>PySem.W.kla_obj "<lambda>" (X.env.qual ++ "<lambda>") params body scope cl ((X.mg "__name__").getD .none) c ctv) hps hsz (Ql (ctv:=ctv) (by rw [eo]; exact hf))
  have J:=I.call (g':=s.gens) (d':=s.drawn) (t':=tk) (ch:=[]) un hok I.bare fun b z=>nomatch z
  subst eo
  exact ⟨.ref h'.objs.size,_,J,rfl,q h'.objs.size c _ hn cf.symm (fun z=>nomatch z) (fun c0 z=>by cases z; rfl) ⟨(bL (bI la1 hn)).trans la1,(bL cf).trans la2⟩ bK fun b _ _ n=>bL n⟩
end
def wo (as:List Addr) (H:Hp):Hp:=fun b=>if b ∈ as then none else H b
theorem j8 {as:List Addr} {H:Hp} {b:Addr} (h:b ∉ as):wo as H b = H b:=by unfold wo; rw [if_neg h]
theorem yJ {as:List Addr} {H:Hp} {b:Addr} (h:b ∈ as):wo as H b = none:=by unfold wo; rw [if_pos h]
theorem qL {as:List Addr} {H:Hp} {b:Addr} {u:HO} (e:wo as H b = some u):b ∉ as/\H b = some u:=by
 by_cases h:b ∈ as
 .rw [yJ h] at e; cases e
 .rw [j8 h] at e; exact ⟨h,e⟩
theorem vo {as:List Addr} {H:Hp} {b:Addr} (e:H b = none):wo as H b = none:=by
 unfold wo; split
 .rfl
 .exact e
theorem jr {as:List Addr} {H:Hp} : Same (wo as H) H:=fun b o e=>(qL e).2
noncomputable def Mt (base h:Heap) (L:List Addr):Heap:=PySem.W.hideAll h ((List.range h.objs.size).filter fun b=>!(base.get? b).isSome && !decide (b ∈ L))
theorem Pk {base h:Heap} {L:List Addr} : (Mt base h L).objs.size = h.objs.size:=PySem.W.hideAll_size _ _
theorem uV {base h:Heap} {L:List Addr} {b:Addr} {o:Obj} (e:h.get? b = some o) (k:(base.get? b).isSome = true\/b ∈ L):(Mt base h L).get? b = some o:=by
 refine PySem.W.hideAll_get _ e fun z=>?_
 have:=(List.mem_filter.mp z).2
 rcases k with k | k <;> simp [k] at this
theorem Kr {base h:Heap} {L:List Addr} {b:Addr} {o:Obj} (e:(Mt base h L).get? b = some o):h.get? b = some o/\((base.get? b).isSome = true\/b ∈ L):=by
 have e':h.get? b = some o:=PySem.W.of_hideAll _ e
 refine ⟨e',?_⟩
 cases k:(base.get? b).isSome with
 | true=>exact .inl rfl
 | false =>
  by_cases m:b ∈ L
  .exact .inr m
  .have:(Mt base h L).get? b = none:=PySem.W.hideAll_none _ (List.mem_filter.mpr ⟨List.mem_range.mpr (aK e'),by simp [k,m]⟩)
   rw [this] at e; cases e
def Xx (Pt:Addr) (pos:Pos) (qual:Str) (mkO:Addr->Value->Obj) (js:List Nat) (spR:List V->Addr->Sp) (ta:TA):TE:=fun σ H Q=>ta σ H fun vs H1=>∃ (f c:Addr) (frees:List V),H1 f = some (Nx f (mkO c))/\f ≠ c/\vO Pt pos qual H1 (some c)/\(js.map fun j=>σ[j]?) = frees.map (fun v=>some (some v)) /\
 spR frees f vs (wo [Pt,c,f] H1) (fun v H'=>∀ H'',(∀ b,b ≠ Pt->b ≠ c->H'' b = H' b)->vO Pt pos qual H'' (some c)->H' Pt = none->H' c = none->H' f = none->Q v H'') E0
section
variable {X:Cx}
theorem Rq {pins:List (Addr × Obj)} {σ:St} {H:Hp} {s:Shared} {scope:Scope} {B:Heap} (I:Inv X pins σ H s):∀ {cl:List (Str × Addr)} {js:List Nat} {frees:List V},(js.map fun j=>σ[j]?) = frees.map (fun v=>some (some v))->(js.map fun j=>X.N[j]?) = cl.map (fun q=>some q.1) ->
  (∀ q ∈ cl,X.env.kindOf q.1 = some .cell/\X.env.cells.lookup q.1 = some q.2/\scope.names.lookup q.1 = some .free)->(cl.map (·.1)).Nodup->(∀ q ∈ cl,∀ o,s.heap.get? q.2 = some o->B.get? q.2 = some o)->vq B scope cl frees
 | [],js,frees,h1,h2,_,_,_=>by
  cases js with
  | nil=>cases frees with
   | nil=>exact .nil
   | cons _ _=>cases h1
  | cons _ _=>cases h2
 | (x,c) :: cl,js,frees,h1,h2,h3,h4,h5=>by
  cases js with
  | nil=>cases h2
  | cons j js =>
   cases frees with
   | nil=>cases h1
   | cons v frees =>
    simp only [List.map_cons,List.cons.injEq] at h1 h2
    obtain ⟨k1,k2,k3⟩:=h3 (x,c) aP
    obtain ⟨m,hn,hl⟩:=I.loc
    obtain ⟨u,r,l⟩:=hl j x v h2.1 h1.1 (.inr (.inl k1))
    have q:∃ c',X.env.cells.lookup x = some c'/\s.heap.IsCell c' (some u):=by
     rcases l with ⟨z,_⟩ | ⟨_,z⟩
     .rw [show X.env.kindOf x = some .cell from k1] at z; cases z
     .exact z
    obtain ⟨c',e1,o,ho,hd⟩:=q
    rw [show X.env.cells.lookup x = some c from k2] at e1
    cases e1
    have nd:=List.nodup_cons.mp h4
    have nl:cl.lookup x = none:=by
     cases e:cl.lookup x with
     | none=>rfl
     | some c2=>exact absurd (List.mem_map.mpr ⟨(x,c2),tG e,rfl⟩) nd.1
    refine .cons k3 ⟨o,h5 _ aP o ho,hd⟩ r nl (fun y hy=>?_) (Rq I h1.2 h2.2 (fun q hq=>h3 q (aJ _ hq)) nd.2 fun q hq=>h5 q (aJ _ hq))
    obtain ⟨_,e2,_⟩:=h3 (y,c) (aJ _ hy)
    have:=I.ok.inj x y c k2 e2
    subst this
    exact nd.1 (List.mem_map.mpr ⟨(x,c),hy,rfl⟩)
variable {p pos pos':Pos} {e:Expr} {es:List Expr} {t:TA} {x y:Str} {k kL:Nat} {ps:List Str} {Pt fR:Addr} {fd:FuncData} {params:Arguments} {body:Expr} {scope:Scope} {cl:List (Str × Addr)} {js:List Nat} {spL:List V->Sp} {spR:List V->Addr->Sp} {qual:Str} {pm:Value}
theorem PJ (hg:Gl X x) (hm:X.mg x = some (.ref fR)) (hk:PySem.W.keepIn X.K (.ref fR) = true) (hb:Binds X.K fd ps []) (hr:gJ k X.A)
  (F:∀ base' frees f,OkL X.prog X.w X.K X.mg base' kL f [y] (spL frees)->cC X.prog X.w X.K X.mg base' CX0 k fR fd ps (spR frees f))
  (L:∀ base' frees f c ctv,base'.get? f = some (PySem.W.kla_obj "<lambda>" qual params body scope cl pm c ctv)->base'.CodeRec (.ref c) qual->vq base' scope cl frees->OkL X.prog X.w X.K X.mg base' kL f [y] (spL frees))
  (hj:(js.map fun j=>X.N[j]?) = cl.map (fun q=>some q.1)) (hcl:∀ q ∈ cl,X.env.kindOf q.1 = some .cell/\X.env.cells.lookup q.1 = some q.2/\scope.names.lookup q.1 = some .free) (nd:(cl.map (·.1)).Nodup) (hfn:∀ q ∈ cl,X.fn q.1 = true)
  (ha:PA X (e :: es) t) (hdb:(x == ("__debug__" : Str)) = false:=by decide)
  (he:starEach (e :: es) X.env = (false,eval e X.env) :: starEach es X.env:=by rfl) (hpl:(backTo pos' (starEach es X.env)).any (·.1) = false:=by rfl) :
  PE X (.Call (.Name x p) (e :: es) [] pos') (Xx Pt pos qual (fun c ctv=>PySem.W.kla_obj "<lambda>" qual params body scope cl pm c ctv) js spR t):=by
 intro pins s σ H Q I h
 refine wpAny_Call_Name_kw (pC I hg hm ?_ hdb)
 refine PySem.W.callWith_K (h₀:=X.base) I.ok.mod.kin hk (thn (ha pos' pins s σ H _ I h) ?_) he hpl
 rintro us s1 ⟨vs,H1,J,r,f,c,frees,hf,nfc,⟨la1,la2⟩,hfr,q⟩
 refine ⟨J.kIn,?_⟩
 obtain ⟨ctv,of_⟩:=(J.hok f _ hf).1
 have rc:s1.heap.CodeRec (.ref c) qual:=RW (J.hok c _ la2)
 obtain ⟨_,oc,ws,tw,ez,hoc,hdc,hqc⟩:=rc
 cases ez
 have hP:s1.heap.get? Pt = some (PySem.W.tabObj (trip pos c)):=J.hok Pt _ la1
 have ncp:c ≠ Pt:=f9 la2 la1 (by intro z; cases z)
 have nfp:f ≠ Pt:=f9 hf la1 (by intro z; cases z)
 let Lk:List Addr:=f :: c :: cl.map (·.2)
 let B:=Mt X.base s1.heap Lk
 let Hn:=wo [Pt,c,f] H1
 have hnO:∀ {b:Addr} {u:HO},H1 b = some u->(∀ ps,u ≠ .tbl ps)->(∀ φ,u ≠ .ext φ)->Hn b = some u:=fun {b u} e n1 n2=>(j8 (by
  intro z
  simp only [List.mem_cons,List.not_mem_nil,or_false] at z
  rcases z with z | z | z <;> subst z
  .rw [la1] at e; cases e; exact n1 _ rfl
  .rw [la2] at e; cases e; exact n2 _ rfl
  .rw [hf] at e; cases e; exact n2 _ rfl)).trans e
 have bB:∀ b o,X.base.get? b = some o->B.get? b = some o:=fun b o e=>uV (J.bk b o e) (.inl (by rw [e]; rfl))
 have mod:Mod X.K X.mg B:=by
  obtain ⟨m1,m2,⟨mb,m3,m4⟩,m5⟩:=J.ok.mod
  exact ⟨m1.keeps bB,m2.keeps bB,⟨mb,m3.keeps bB,m4⟩,m5.keeps bB⟩
 have cellIn:∀ q ∈ cl,H1 q.2 = none/\X.s₀.heap.objs.size <= q.2/\q.2 ≠ X.env.locals:=fun q hq=>by
  obtain ⟨_,z,_⟩:=hcl q hq
  exact ⟨J.freeC _ _ z,J.ok.cab _ _ (hfn q hq) z,J.cne _ _ z⟩
 have bs:∀ b o,B.get? b = some o->s1.heap.get? b = some o/\Hn b = none:=fun b o e=>by
  obtain ⟨e1,k⟩:=Kr e
  refine ⟨e1,?_⟩
  rcases k with k | k
  .obtain ⟨o',ho'⟩:=Option.isSome_iff_exists.mp k
   exact vo (J.bs b o' ho').2
  .rcases List.mem_cons.mp k with rfl | k
   .exact yJ (by simp)
   .rcases List.mem_cons.mp k with rfl | k
    .exact yJ (by simp)
    .obtain ⟨q,hq,rfl⟩:=List.mem_map.mp k
     exact vo (cellIn q hq).1
 have stk:∀ b ∈ frs X.stack,B.get? b = none:=fun b hb'=>by
  cases z:B.get? b with
  | none=>rfl
  | some o =>
   have fr:=J.stkFree b hb'
   rcases (Kr z).2 with k | k
   .have:=(J.stack.mem hb').1
    rw [this] at k; cases k
   .rcases List.mem_cons.mp k with rfl | k
    .rw [hf] at fr; cases fr
    .rcases List.mem_cons.mp k with rfl | k
     .rw [la2] at fr; cases fr
     .obtain ⟨q,hq,rfl⟩:=List.mem_map.mp k
      obtain ⟨_,z1,z2⟩:=cellIn q hq
      rcases List.mem_cons.mp (J.stkSub _ hb') with w | w
      .exact absurd w z2
      .obtain ⟨_,o',ho',_⟩:=J.ok.funs.mem w
       exact absurd (aV (aK ho') z1) (Nat.lt_irrefl _)
 have funs:s1.heap.FunFrames B X.stack:=by
  have all:∀ (l:List Env),(∀ b ∈ frs l,B.get? b = none)->s1.heap.FunFrames X.base l->s1.heap.FunFrames B l:=by
   intro l
   induction l with
   | nil=>intro _ _; trivial
   | cons env r ih =>
    intro hs hl
    obtain ⟨hk',⟨L',o,hf',hn,ho,hd⟩,hr'⟩:=hl
    exact ⟨hk',⟨L',o,hf',hs L' (by unfold frs; rw [List.filterMap_cons,hf']; exact aP),ho,hd⟩,ih (fun b hb'=>hs b (by unfold frs; rw [List.filterMap_cons,hf']; exact aJ _ hb')) hr'⟩
  exact all X.stack stk J.stack
 have hok:HOk X.prog X.w Hn s1.heap:=fun b u e=>by
  obtain ⟨nb,e'⟩:=qL e
  exact (J.hok b u e').stay (fun _ _ _ z=>z) (fun d z=>hnO z (fun _ w=>by cases w) fun _ w=>by cases w) fun d xs z=>hnO z (fun _ w=>by cases w) fun _ w=>by cases w
 have e0:Bm X.prog X.w X.K X.mg B X.A X.stack s1 Hn:=⟨J.ok.frames,mod,bs,by rw [Pk]; exact aG _,funs,fun b z=>vo (J.stkFree b z),hok,J.bare⟩
 have G:=F B frees f (L B frees f c ctv (uV of_ (.inr aP)) ⟨c,oc,ws,tw,rfl,uV hoc (.inr (aJ _ aP)),hdc,hqc⟩
  (Rq J hfr hj hcl nd fun q hq o ho=>uV ho (.inr (aJ _ (aJ _ (List.mem_map.mpr ⟨q,hq,rfl⟩))))))
 have hl:us.length = ps.length:=by rw [<- r.length]; exact G.len _ _ _ _ q
 have hbb:=hb s1 us J.kIn (by rw [List.append_nil]; exact hl)
 rw [List.append_nil] at hbb
 refine wpAny_call (codeAny_mono (G.run X.A X.stack s1 Hn ⟨[] ++ us,[]⟩ us vs _ E0 hr e0 hbb r q) ?_)
 intro res s' hq
 cases res with
 | error e=>exact hq.elim
 | ok fl =>
  cases fl with
  | next=>exact False.elim hq
  | brk=>exact False.elim hq
  | cont=>exact False.elim hq
  | ret u =>
   obtain ⟨v,H',os,bare,un,hok',rv,q'⟩:=hq
   have np:Pt ∉ frs X.stack:=fun z=>by have:=J.stkFree _ z; rw [la1] at this; cases this
   have nc:c ∉ frs X.stack:=fun z=>by have:=J.stkFree _ z; rw [la2] at this; cases this
   have hnP:Hn Pt = none:=yJ (by simp)
   have hnC:Hn c = none:=yJ (by simp)
   have kP:=un.keep Pt _ hP hnP np (by simp)
   have kC:=un.keep c _ hoc hnC nc (by simp)
   have fP:=un.free Pt _ hP hnP (by simp)
   have fC:=un.free c _ hoc hnC (by simp)
   let H'':Hp:=upd (upd H' Pt (.tbl (trip pos c))) c (DY c qual)
   have eP:H'' Pt = some (.tbl (trip pos c)):=(bL ncp.symm).trans bK
   have eC:H'' c = some (DY c qual):=bK
   have eO:∀ b,b ≠ Pt->b ≠ c->H'' b = H' b:=fun b n1 n2=>(bL n2).trans (bL n1)
   have no:∀ {b:Addr} {u:HO},H' b = some u->b ≠ Pt/\b ≠ c:=fun e=>⟨(fun z=>by rw [z,fP] at e; cases e),(fun z=>by rw [z,fC] at e; cases e)⟩
   have n0:∀ {b:Addr},H1 b = none->b ≠ Pt/\b ≠ c:=fun e=>⟨(fun z=>by rw [z,la1] at e; cases e),(fun z=>by rw [z,la2] at e; cases e)⟩
   have un':Un (frs X.stack) [] H1 H'' s1.heap s'.heap:=by
    refine ⟨fun b o e n=>un.keep b o e (vo n),fun b o e n=>un.slot b o e (vo n),fun b o e n z=>?_,un.there,fun b xs e=>?_,fun b o u e=>?_,fun b ps e=>?_⟩
    .rw [eO b (n0 n).1 (n0 n).2]; exact un.free b o e (vo n) z
    .have:=un.tups b xs (hnO e (fun _ w=>by cases w) fun _ w=>by cases w)
     rw [eO b (no this).1 (no this).2]; exact this
    .have:=un.frzs b o u (hnO e (fun _ w=>by cases w) fun _ w=>by cases w)
     rw [eO b (no this).1 (no this).2]; exact this
    .by_cases z:b = Pt
     .subst z
      rw [la1] at e; cases e
      exact ⟨#[],by rw [eP]; simp⟩
     .obtain ⟨more,this⟩:=un.tbls b ps ((j8 (by
       intro w
       simp only [List.mem_cons,List.not_mem_nil,or_false] at w
       rcases w with w | w | w
       .exact z w
       .subst w; rw [la2] at e; cases e
       .subst w; rw [hf] at e; cases e)).trans e)
      exact ⟨more,by rw [eO b (no this).1 (no this).2]; exact this⟩
   have hok'':HOk X.prog X.w H'' s'.heap:=fun b u e=>by
    by_cases z1:b = c
    .subst z1
     rw [eC] at e; cases e
     exact MK ⟨_,oc,ws,tw,rfl,kC,hdc,hqc⟩
    by_cases z2:b = Pt
    .subst z2
     rw [eP] at e; cases e
     exact kP
    rw [eO b z2 z1] at e
    exact (hok' b u e).stay (fun _ _ _ z=>z) (fun d z=>by rw [eO d (no z).1 (no z).2]; exact z) fun d xs z=>by rw [eO d (no z).1 (no z).2]; exact z
   exact ⟨v,H'',J.call' os un' hok'' bare (fun b z=>nomatch z),rv,q' H'' eO ⟨eP,eC⟩ fP fC (un.free f _ of_ (yJ (by simp)) (by simp))⟩
end
def X8 (Pt:Addr) (H:Hp):Prop:=∀ b,b ≠ Pt->H b = none\/∃ o xs,H b = some (.frz o (.lst xs))
theorem Tf {P:Program} {w:World} {K:Frag} {mg mb:Str->Option Value} {CX:CXT} {k:Nat} {fa a c0 Pt:Addr} {fd:FuncData} {x:Str} {sp:Sp} {s₁:Shared} {vs:List Value} {ns:List Int}
  (KX:K.In s₁.heap) (hP:s₁.heap.get? Pt = some (PySem.W.tabObj #[])) (hKP:K.lookup Pt = none) (hC:PySem.W.codeHdIn K c0 Pt = true) (hB:s₁.heap.BuiltinsAt mg Pt)
  (hns:s₁.heap.Ns mainGlobals mg) (hb:s₁.heap.Ns builtinsNs mb) (hbb:∀ x:Str,x ≠ "__name__" -> mb x = bootBuiltins x) (hlim:s₁.heap.NoLimit) (hg:s₁.gens = #[])
  (ha:s₁.heap.get? a = some { cls:=.type "list",data:=.seq vs.toArray }) (hi:IntsAre vs ns) (hl:ns.length <= sizeLine) (hr:gJ k callerA)
  (F:∀ base:Heap,K.In base->base.Ns mainGlobals mg->base.BuiltinsAt mg Pt->cC P w K mg base CX k fa fd [x] sp) (hbind:∀ (s:Shared) (u:Value),BindsTo s fd ⟨[u],[]⟩ [(x,u)])
  (hsp:∀ H:Hp,X8 Pt H->H Pt = some (.tbl #[])->SqL K H a (ns.map V.int)->sp [.ref a] H (fun v _=>v = .bl true) fun _ _ _=>False)
  (hCX:∀ H e s',CX [] H s₁ (fun _ _ _=>False) e s'->False) :
  codeAny (model P w) callerA (.call (.ref fa) ⟨[.ref a],[]⟩) (fun r s'=>r = .ok (.ret (.bool true))/\OldK s₁.heap s'.heap/\s'.os = s₁.os/\AllBare s'.gens) s₁:=by
 have rv:=uR hi
 have lenV:=hi.length
 have nPa:a ≠ Pt:=fun z=>by rw [z,hP] at ha; cases ha
 have core:∀ H:Hp,X8 Pt H->H Pt = some (.tbl #[])->SqL K H a (ns.map V.int)->HOk P w H s₁.heap->(∀ b,H b ≠ none->b = a\/b = Pt)->(H a ≠ none->K.lookup a = none) ->
   codeAny (model P w) callerA (.call (.ref fa) ⟨[.ref a],[]⟩) (fun r s'=>r = .ok (.ret (.bool true))/\OldK s₁.heap s'.heap/\s'.os = s₁.os/\AllBare s'.gens) s₁:=by
  intro H hO hT hS hok hA hK
  have base_of:∀ {b:Addr} {o:Obj},s₁.heap.get? b = some o->H b = none->(v9 s₁.heap H).get? b = some o:=fun e n=>La e n
  have noA:∀ {b:Addr} {o:Obj} {es:Array DictEntry} {ep:Nat},s₁.heap.get? b = some o->o.data = .dict es ep->H b = none:=fun {b o es ep} e d=>by
   cases q:H b with
   | none=>rfl
   | some u =>
    rcases hA b (by rw [q]; simp) with e' | e'
    .subst e'
     rw [ha] at e; cases e
     have d':Data.seq vs.toArray _ = Data.dict es ep:=d
     cases d'
    .subst e'
     rw [hP] at e; cases e
     cases d
  have nsK:∀ {b:Addr} {m:Str->Option Value},s₁.heap.Ns b m->(v9 s₁.heap H).Ns b m:=fun {b m} h=>by
   obtain ⟨o,es,ep,e,d,r⟩:=h
   exact ⟨o,es,ep,base_of e (noA e d),d,r⟩
  have hKb:K.In (v9 s₁.heap H):=fun b o e=>base_of (KX b o e) (by
   cases q:H b with
   | none=>rfl
   | some u =>
    rcases hA b (by rw [q]; simp) with e' | e'
    .subst e'
     rw [hK (by rw [q]; simp)] at e; cases e
    .subst e'
     rw [hKP] at e; cases e)
  have hBb:(v9 s₁.heap H).BuiltinsAt mg Pt:=by
   obtain ⟨bm,o,b1,b2,b3,b4,b5,b6,b7⟩:=hB
   refine ⟨bm,o,b1,b2,b3,b4,base_of b5 ?_,b6,b7⟩
   cases q:H bm with
   | none=>rfl
   | some u =>
    rcases hA bm (by rw [q]; simp) with e' | e'
    .subst e'
     rw [ha] at b5; cases b5
     injection b6 with z
     exact absurd z (by decide)
    .exact absurd e' b4
  have hM:Mod K mg (v9 s₁.heap H):=⟨hKb,nsK hns,⟨mb,nsK hb,hbb⟩,by obtain ⟨mc,h1,h2⟩:=hlim; exact ⟨mc,nsK h1,h2⟩⟩
  have e0:Bm P w K mg (v9 s₁.heap H) callerA [] s₁ H:=⟨rfl,hM,fun b o e=>Rm e,Nat.le_of_eq (Gk _ _),trivial,fun b hb=>absurd (show b ∈ ([] : List Addr) from hb) (by simp),hok,.of_eq hg⟩
  refine codeAny_mono ((F _ hKb (nsK hns) hBb).run callerA [] s₁ H ⟨[.ref a],[]⟩ [.ref a] [.ref a] _ _ hr e0 (hbind s₁ (.ref a)) (.cons rfl .nil) (hsp H hO hT hS)) fun r s' h=>?_
  cases r with
  | error e=>exact (hCX H e s' h).elim
  | ok fl =>
   cases fl with
   | next=>exact False.elim h
   | brk=>exact False.elim h
   | cont=>exact False.elim h
   | ret u =>
    obtain ⟨v,H',os,bare,un,hok',r',q⟩:=h
    have q':v = .bl true:=q
    subst q'
    obtain rfl:u = Value.bool true:=r'
    have kp:∀ b o,b ≠ Pt->s₁.heap.get? b = some o->s'.heap.get? b = some o:=fun b o n e=>by
     cases q:H b with
     | none=>exact un.keep b o e q (by intro z; exact absurd (show b ∈ ([] : List Addr) from z) (by simp)) (by simp)
     | some u =>
      rcases hO b n with z | ⟨ob,xs,z⟩
      .rw [q] at z; cases z
      .have z2:=un.frzs b ob _ z
       obtain ⟨e1,_⟩:=hok b _ z
       obtain ⟨e2,_⟩:=hok' b _ z2
       rw [e] at e1; cases e1
       exact e2
    obtain ⟨more,hm⟩:=un.tbls Pt _ hT
    have hP':s'.heap.get? Pt = some (PySem.W.tabObj (#[] ++ more)):=hok' Pt _ hm
    refine ⟨rfl,⟨fun b o e=>?_,fun b o e=>?_⟩,os,bare⟩
    .by_cases z:b = Pt
     .subst z
      rw [hP] at e; cases e
      exact .inr (.inl ⟨((PySem.W.codeHd_of_K KX hC).tab hP).isCodeTable,rfl,#[],more,rfl,hP'⟩)
     .exact .inl (kp b o z e)
    .by_cases z:b = Pt
     .subst z; exact ⟨_,hP'⟩
     .exact ⟨o,kp b o z e⟩
 cases hk:K.lookup a with
 | some o =>
  have e:=KX a o hk
  rw [ha] at e
  cases e
  refine core (fun b=>if b = Pt then some (.tbl #[]) else none) (fun b n=>.inl (if_neg n)) (if_pos rfl) (.inr ⟨_,vs.toArray,_,hk,rfl,rfl,rfl,by rw [bh,lenV]; exact hl,by simpa using rv⟩) (fun b u z=>?_) (fun b z=>?_) fun z=>absurd (if_neg nPa) z
  .by_cases hb:b = Pt
   .have z':=(if_pos hb).symm.trans z
    cases z'
    subst hb
    exact hP
   .have z':=(if_neg hb).symm.trans z
    cases z'
  .by_cases hb:b = Pt
   .exact .inr hb
   .exact absurd (if_neg hb) z
 | none =>
  refine core (fun b=>if b = a then some (.frz { cls:=.type "list",data:=.seq vs.toArray } (.lst (ns.map V.int))) else if b = Pt then some (.tbl #[]) else none) (fun b n=>?_) ((if_neg nPa.symm).trans (if_pos rfl)) (.inl (.inr ⟨{ cls:=.type "list",data:=.seq vs.toArray },if_pos rfl⟩)) (fun b u z=>?_) (fun b z=>?_) fun _=>hk
  .by_cases hb:b = a
   .exact .inr ⟨_,_,if_pos hb⟩
   .exact .inl ((if_neg hb).trans (if_neg n))
  .by_cases hb:b = a
   .have z':=(if_pos hb).symm.trans z
    cases z'
    subst hb
    exact ⟨ha,by rw [ao]; exact hl,vs,_,rv,ha⟩
   .by_cases hb':b = Pt
    .have z':=((if_neg hb).trans (if_pos hb')).symm.trans z
     cases z'
     subst hb'
     exact hP
    .have z':=((if_neg hb).trans (if_neg hb')).symm.trans z
     cases z'
  .by_cases hb:b = a
   .exact .inl hb
   .by_cases hb':b = Pt
    .exact .inr hb'
    .exact absurd ((if_neg hb).trans (if_neg hb')) z
def Hw (K:Frag) (Pt:Addr):Sp:=fun vs H Q _=>∃ (a:Addr) (ns:List Int),vs = [.ref a]/\SqL K H a (ns.map V.int)/\ns.length <= 63/\X8 Pt H/\H Pt = some (.tbl #[])/\∀ H',Q (.bl true) H'
theorem abf {l:PySem.W.OpenLaw} {k:Nat} {x:Str} {q:Program} {loose:List Str} {XP:(Str->Option Value)->Heap->Prop} {YP:World->Heap->Prop} {d:DefRec} {K:Params->Frag} (Pt:Addr) (c0:Addr) (hn:l.most = some 63) (hdf:d.params.defaults = [])
  (hr:gJ k callerA) (hY:∀ (w:World) (h:Heap),YP w h->(K w.params).In h/\h.get? Pt = some (PySem.W.tabObj #[])) (hKP:∀ w:World,(K w.params).lookup Pt = none) (hC:∀ w:World,PySem.W.codeHdIn (K w.params) c0 Pt = true)
  (F:∀ (w:World) (mg:Str->Option Value) (fa:Addr) (h:Heap),(K w.params).In h->h.Ns mainGlobals mg->mg d.name = some (.ref fa) ->
   ∃ st,dU (K w.params) mg d.name st [x]/\∀ (base:Heap) (f:Addr) (fd:FuncData),base.BuiltinsAt mg Pt->Fun (K w.params) d.name d.name st f fd->cC l.prog w (K w.params) mg base CX0 k f fd [x] (Hw (K w.params) Pt)) :
  PySem.W.WalkO q loose XP YP l.row.toRowW d [] (fun f vs=>PySem.call f vs):=by
 refine Att.zW hn hdf fun w s₀ s₁ mg mb fa o pm cd doc a vs ns G Y ho hd hcd hmg hobj hints hlen hg=>?_
 obtain ⟨KX,hP⟩:=hY w _ Y
 obtain ⟨st,⟨f,fd,hf,hb,hm⟩,ok⟩:=F w mg fa _ KX G.T.g hmg
 rw [hm] at hmg
 have e:f = fa:=by injection hmg with z; injection z
 subst e
 have C:=PySem.W.codeHd_of_K KX (hC w)
 obtain ⟨bm,ob,b1,b2,b3,b4,b5,b6⟩:=G.T.bmain
 have hB:s₁.heap.BuiltinsAt mg Pt:=by
  refine ⟨bm,ob,b1,b2,fun z=>?_,fun z=>?_,b3,b4,b5,b6⟩
  .obtain ⟨o',es,ep,e,d',_⟩:=G.T.g
   rw [z,e] at b3; cases b3; rw [d'] at b6; cases b6
  .rw [z,hP] at b3; cases b3; cases b4
 exact Tf (sp:=Hw (K w.params) Pt) KX hP (hKP w) (hC w) hB G.T.g G.T.b G.T.builtins G.T.nolimit hg hobj hints (aN hlen (by decide)) hr (fun base _ _ hB=>ok base f fd hB hf) (fun s u=>.of_eq (hb [u] rfl)) (fun H hO hT hS=>⟨a,ns,rfl,hS,hlen,hO,hT,fun _=>rfl⟩) fun H e s' z=>z
def YZ (K:Frag) (mg:Str->Option Value) (x:Str) (st:Stmt) (ps:List Str) (Pt:Addr):Prop :=
 ∃ f fd c,Fun K x x st f fd/\(∀ us:List Value,us.length = ps.length->bindArgs fd ⟨us,[]⟩ = pure (ps.zip us))/\mg x = some (.ref f)/\fd.code = .ref c/\PySem.W.codeHdIn K c Pt = true
section
variable {P:Program} {w:World} {K:Frag} {mg:Str->Option Value} {base:Heap}
theorem YZ.okX {k:Nat} {x:Str} {st:Stmt} {ps:List Str} {sp:Sp} {Pt:Addr} (h:YZ K mg x st ps Pt)
  (hf:∀ f fd c,Fun K x x st f fd->fd.code = .ref c->PySem.W.codeHdIn K c Pt = true->cC P w K mg base (CXO P w) k f fd ps sp):OkX P w K mg base k x ps sp:=by
 obtain ⟨f,fd,c,a,b,d,e,g⟩:=h
 exact ⟨f,fd,hf f fd c a e g,.all b,d,a.kp⟩
theorem Fun.okXc {x qual:Str} {st:Stmt} {f:Addr} {fd:FuncData} {N ps:List Str} {k:Nat} {sp:Sp} {c0:Addr} (F:Fun K x qual st f fd) (hc:fd.code = .ref c0) (S:bZ N ps (bN st)) (len:∀ vs H Q E,sp vs H Q E->vs.length = ps.length)
  (hbody:∀ (A:Around) (outer:List Env) (s:Shared) (H:Hp) (vs:List V) (Q:VK) (E:XK),gJ k (A.deeper (envOfC qual (bN st) s.heap.objs.size f (.ref c0)))->sp vs H Q E ->
   ∃ t,PSs (Dd (CXO P w) P w K mg base N qual (bN st) f (.ref c0) A outer s H E) (eE st) t/\t { nx:=fun _ H'=>Q .non H',rt:=Q } (L2.start N vs) H):cC P w K mg base (CXO P w) (k + 1) f fd ps sp:=by
 obtain ⟨oc,od,kV,doc,pm,an,cdv,ct,osl,rfl,lk,hcd⟩:=F.ex
 have hc:cdv = .ref c0:=hc
 subst hc
 exact WM lk hcd S len fun A outer s H vs Q E hr hsp=>hbody A outer s H vs Q E hr hsp
theorem q_C {h:Heap} {x:Str} {st:Stmt} {ps:List Str} {f c0 Pt:Addr} {oc:Value} {od an:Option Addr} {osl:Array (Option Value)} {kV doc pm ct:Value} (N:Nat) (hb:∀ (kV doc pm:Value) (an:Option Addr) (cdv ct:Value),Lst N fun us=>bindArgs (PySem.W.fnOf x x (gA st) (eE st) (bN st) .none kV doc pm an cdv ct) ⟨us,[]⟩ = pure (ps.zip us)) (hN:ps.length = N:=by rfl) (X:K.In h:=by assumption) (G:h.Ns mainGlobals mg:=by assumption)
  (a:PySem.W.nsIn K mainGlobals x = some (some (.ref f)):=by k_is) (l:K.lookup f = some ⟨oc,od,.func (PySem.W.fnOf x x (gA st) (eE st) (bN st) .none kV doc pm an (.ref c0) ct),osl⟩:=by k_is)
  (c:PySem.W.codeIn K (.ref c0) x = true:=by k_is) (k:PySem.W.keepIn K (.ref f) = true:=by k_is) (z:PySem.W.codeHdIn K c0 Pt = true:=by kernel_rfl):YZ K mg x st ps Pt :=
 ⟨f,_,c0,O8 l c k,fun us e=>Bb N (hb kV doc pm an (.ref c0) ct) us (e.trans hN),PySem.W.mg_of X G a,rfl,z⟩
def spF (Pt:Addr) (sp:Sp):Sp:=fun vs H Q _=>∃ (G:Hp) (t:Array Value),G Pt = none/\H = upd G Pt (.tbl t)/\sp vs G (fun v G'=>G' Pt = none->Q v (upd G' Pt (.tbl t))) E0
theorem cC.frame {k:Nat} {f:Addr} {fd:FuncData} {ps:List Str} {sp:Sp} (Pt:Addr) (F:cC P w K mg base CX0 k f fd ps sp):cC P w K mg base CX0 k f fd ps (spF Pt sp):=by
 refine ⟨fun vs H Q E h=>?_,fun A outer s H args us vs Q E hr e0 hb r h=>?_⟩
 .obtain ⟨G,t,_,_,z⟩:=h
  exact F.len vs G _ E0 z
 obtain ⟨G,t,g0,rfl,z⟩:=h
 have eP:upd G Pt (.tbl t) Pt = some (.tbl t):=bK
 have eO:∀ b,b ≠ Pt->upd G Pt (.tbl t) b = G b:=fun b n=>bL n
 have hP:s.heap.get? Pt = some (PySem.W.tabObj t):=e0.hok Pt _ eP
 have no:∀ {b:Addr} {u:HO},G b = some u->b ≠ Pt:=fun e z=>by rw [z,g0] at e; cases e
 have non:∀ {b:Addr},upd G Pt (.tbl t) b = none->G b = none:=fun {b} e=>by
  by_cases z:b = Pt
  .rw [z]; exact g0
  .rw [<- eO b z]; exact e
 have e1:Bm P w K mg base A outer s G:=⟨e0.frames,e0.mod,fun b o e=>⟨(e0.bs b o e).1,non (e0.bs b o e).2⟩,e0.bsz,e0.funs,fun b hb=>non (e0.frf b hb),fun b u e=>by
  have e':upd G Pt (.tbl t) b = some u:=(eO b (no e)).trans e
  refine (e0.hok b u e').stay (fun _ _ _ z=>z) (fun d z=>?_) fun d xs z=>?_
  .rw [eO d (fun w=>by rw [w,eP] at z; cases z)] at z; exact z
  .rw [eO d (fun w=>by rw [w,eP] at z; cases z)] at z; exact z,e0.bare⟩
 refine codeAny_mono (F.run A outer s G args us vs _ E0 hr e1 hb r z) fun res s' hs=>?_
 cases res with
 | error e=>exact hs.elim
 | ok fl =>
  cases fl with
  | next=>exact False.elim hs
  | brk=>exact False.elim hs
  | cont=>exact False.elim hs
  | ret u =>
   obtain ⟨v,H',os,bare,un,hok,rv,q⟩:=hs
   have nP:Pt ∉ frs outer:=fun z=>by have:=e0.frf _ z; rw [eP] at this; cases this
   have kP:=un.keep Pt _ hP g0 nP (by simp)
   have fP:=un.free Pt _ hP g0 (by simp)
   have no':∀ {b:Addr} {u:HO},H' b = some u->b ≠ Pt:=fun e z=>by rw [z,fP] at e; cases e
   have eP':upd H' Pt (.tbl t) Pt = some (.tbl t):=bK
   have eO':∀ b,b ≠ Pt->upd H' Pt (.tbl t) b = H' b:=fun b n=>bL n
   have back:∀ {b:Addr} {u:HO},upd G Pt (.tbl t) b = some u->(∀ ps,u ≠ .tbl ps)->G b = some u:=fun {b u} e n=>by
    rw [eO b (fun w=>by rw [w,eP] at e; cases e; exact n _ rfl)] at e; exact e
   refine ⟨v,upd H' Pt (.tbl t),os,bare,⟨fun b o e n=>un.keep b o e (non n),fun b o e n=>un.slot b o e (non n),fun b o e n z=>?_,un.there,fun b xs e=>?_,fun b o u e=>?_,fun b ps e=>?_⟩,fun b u e=>?_,rv,q fP⟩
   .rw [eO' b (fun w=>by rw [w,eP] at n; cases n)]; exact un.free b o e (non n) z
   .have:=un.tups b xs (back e (fun _ w=>by cases w))
    rw [eO' b (no' this)]; exact this
   .have:=un.frzs b o u (back e (fun _ w=>by cases w))
    rw [eO' b (no' this)]; exact this
   .by_cases z:b = Pt
    .subst z
     rw [eP] at e; cases e
     exact ⟨#[],by rw [eP']; simp⟩
    .rw [eO b z] at e
     obtain ⟨more,this⟩:=un.tbls b ps e
     exact ⟨more,by rw [eO' b z]; exact this⟩
   .by_cases z:b = Pt
    .subst z
     rw [eP'] at e; cases e
     exact kP
    .rw [eO' b z] at e
     exact (hok b u e).stay (fun _ _ _ z=>z) (fun d z=>(eO' d (no' z)).trans z) fun d xs z=>(eO' d (no' z)).trans z
theorem OkF.frame {k:Nat} {x:Str} {ps:List Str} {sp:Sp} (Pt:Addr) (G:OkF P w K mg base k x ps sp):OkF P w K mg base k x ps (spF Pt sp):=by
 obtain ⟨f,fd,F,b,hm,kp⟩:=G
 exact ⟨f,fd,F.frame Pt,b,hm,kp⟩
end
theorem Vq {K:Frag} {a:Addr} {o:Obj} {h:Heap} (X:Frag.In (K ++ [(a,o)]) h) (hk:K.lookup a = none):K.In h/\h.get? a = some o:=by
 refine ⟨fun b u e=>X b u ?_,X a o ?_⟩
 .rw [List.lookup_append,e]; rfl
 .rw [List.lookup_append,hk]; simp [List.lookup]
end L2
namespace Lv
def Ry (bs:List Nat):Nat:=bs.foldl Nat.lcm 1
theorem vP:∀ (bs:List Nat) (a m:Nat),bs.foldl Nat.lcm a ∣ m ↔ a ∣ m/\∀ b ∈ bs,b ∣ m
 | [],a,m=>by simp
 | b :: bs,a,m=>by
  rw [List.foldl_cons,vP bs,Nat.lcm_dvd_iff]
  simp only [List.mem_cons,forall_eq_or_imp,and_assoc]
theorem yN {bs:List Nat} {m:Nat} : Ry bs ∣ m ↔ ∀ b ∈ bs,b ∣ m:=by
 unfold Ry
 rw [vP]
 simp
theorem Bx {bs:List Nat} {b:Nat} (h:b ∈ bs):b ∣ Ry bs:=yN.mp (Nat.dvd_refl _) b h
theorem vM:∀ (bs:List Nat) (a:Nat),0 < a->(∀ b ∈ bs,0 < b)->0 < bs.foldl Nat.lcm a
 | [],a,h,_=>h
 | b :: bs,a,h,hb=>vM bs _ (Nat.lcm_pos h (hb b aP)) fun c hc=>hb c (aJ _ hc)
theorem Lb {bs:List Nat} (h:∀ b ∈ bs,0 < b):0 < Ry bs:=vM bs 1 (by decide) h
end Lv
namespace Ac
def lw (t b:Int):Int × Int:=(t / (Int.gcd t b:Nat),b / (Int.gcd t b:Nat))
theorem X5 {t b:Int} (hb:0 < b):(0:Int) < (Int.gcd t b:Nat):=by
 have:=Int.gcd_pos_of_ne_zero_right t (show b ≠ 0 by omega)
 omega
theorem jD {t b:Int} (hb:0 < b):0 < (lw t b).2:=Int.ediv_pos_of_pos_of_dvd hb (Int.le_of_lt (X5 hb)) (Int.gcd_dvd_right t b)
theorem wA {t b:Int} (hb:0 < b):Int.gcd (lw t b).1 (lw t b).2 = 1:=Int.gcd_ediv_gcd_ediv_gcd (by have:=X5 (t:=t) hb; omega)
theorem xr {t b:Int} (hb:0 < b):(lw t b).1 * b = t * (lw t b).2:=by
 have d1:=Int.gcd_dvd_left t b
 have d2:=Int.gcd_dvd_right t b
 have g0:=X5 (t:=t) hb
 unfold lw
 generalize hg:((Int.gcd t b:Nat):Int) = g at *
 obtain ⟨x,rfl⟩:=d1
 obtain ⟨y,rfl⟩:=d2
 show g * x / g * (g * y) = g * x * (g * y / g)
 rw [Int.mul_ediv_cancel_left _ (by omega),Int.mul_ediv_cancel_left _ (by omega),Int.mul_left_comm,Int.mul_assoc]
theorem BL (t b:Int):(lw t b).1.natAbs <= t.natAbs:=Int.natAbs_ediv_le_natAbs _ _
theorem zQ (t b:Int):(lw t b).2.natAbs <= b.natAbs:=Int.natAbs_ediv_le_natAbs _ _
theorem Qq {a b c:Int} (h:a ∣ b * c) (g:Int.gcd a b = 1):a ∣ c:=by
 refine Int.natAbs_dvd_natAbs.mp ((show Nat.Coprime a.natAbs b.natAbs from g).dvd_of_dvd_mul_left ?_)
 rw [<- Int.natAbs_mul]
 exact Int.natAbs_dvd_natAbs.mpr h
theorem uniq {x y u v:Int} (hy:0 < y) (hv:0 < v) (g1:Int.gcd x y = 1) (g2:Int.gcd u v = 1) (e:x * v = u * y):x = u/\y = v:=by
 have d1:y ∣ v:=by
  have h:y ∣ x * v:=⟨u,by rw [e,Int.mul_comm]⟩
  exact Qq h (by rw [Int.gcd_comm]; exact g1)
 have d2:v ∣ y:=by
  have h:v ∣ u * y:=⟨x,by rw [<- e,Int.mul_comm]⟩
  exact Qq h (by rw [Int.gcd_comm]; exact g2)
 have e2:y = v:=Int.dvd_antisymm (by omega) (by omega) d1 d2
 subst e2
 exact ⟨Int.eq_of_mul_eq_mul_right (by omega) e,rfl⟩
theorem VB {t b x y:Int} (hb:0 < b) (hy:0 < y) (g:Int.gcd x y = 1) (e:x * b = t * y):x = (lw t b).1/\y = (lw t b).2:=by
 refine uniq hy (jD hb) g (wA hb) ?_
 have h:=xr (t:=t) hb
 have h1:x * (lw t b).2 * b = (lw t b).1 * y * b:=by
  rw [Int.mul_right_comm,e,Int.mul_right_comm _ y b,h,Int.mul_right_comm]
 exact Int.eq_of_mul_eq_mul_right (by omega) h1
theorem abH {W x S z o:Int} (hS:0 < S) (ho:0 < o) (g:Int.gcd z o = 1) (e:z * ((lw W S).2 * (lw x S).2) = ((lw W S).1 * (lw x S).2 + (lw x S).1 * (lw W S).2) * o):z = (lw (W + x) S).1/\o = (lw (W + x) S).2:=by
  refine VB hS ho g ?_
  have h1:=xr (t:=W) hS
  have h2:=xr (t:=x) hS
  have p1:=jD (t:=W) hS
  have p2:=jD (t:=x) hS
  generalize (lw W S).1 = a at *
  generalize (lw W S).2 = b at *
  generalize (lw x S).1 = c at *
  generalize (lw x S).2 = d at *
  have key:z * S * (b * d) = (W + x) * o * (b * d):=by
    calc z * S * (b * d) = z * (b * d) * S:=by rw [Int.mul_right_comm]
      _ = (a * d + c * b) * o * S:=by rw [e]
      _ = (a * S * d + c * S * b) * o:=by
        rw [Int.mul_right_comm,Int.add_mul,Int.mul_right_comm a d S,Int.mul_right_comm c b S]
      _ = (W * b * d + x * d * b) * o:=by rw [h1,h2]
      _ = (W + x) * o * (b * d):=by
        rw [Int.mul_assoc W,Int.mul_assoc x,Int.mul_comm d b,<- Int.add_mul,Int.mul_right_comm]
  exact Int.eq_of_mul_eq_mul_right (Int.ne_of_gt (Int.mul_pos p1 p2)) key
theorem Ir {x S z o:Int} (hS:0 < S) (ho:0 < o) (g:Int.gcd z o = 1) (e:z * (1 * (lw x S).2) = (1 * (lw x S).2 - (lw x S).1 * 1) * o):z = (lw (S - x) S).1/\o = (lw (S - x) S).2:=by
  refine VB hS ho g ?_
  have h2:=xr (t:=x) hS
  have p2:=jD (t:=x) hS
  generalize (lw x S).1 = c at *
  generalize (lw x S).2 = d at *
  rw [Int.one_mul,Int.mul_one] at e
  have key:z * S * d = (S - x) * o * d:=by
    calc z * S * d = z * d * S:=by rw [Int.mul_right_comm]
      _ = (d - c) * o * S:=by rw [e]
      _ = (d * S - c * S) * o:=by rw [Int.mul_right_comm,Int.sub_mul]
      _ = (d * S - x * d) * o:=by rw [h2]
      _ = (S - x) * o * d:=by rw [Int.mul_comm d S,<- Int.sub_mul,Int.mul_right_comm]
  exact Int.eq_of_mul_eq_mul_right (Int.ne_of_gt p2) key
theorem vd {t b:Int} (hb:0 < b):((lw t b).1 = 0/\(lw t b).2 = 1) ↔ t = 0:=by
 have h:=xr (t:=t) hb
 have p:=jD (t:=t) hb
 constructor
 .rintro ⟨h1,h2⟩
  rw [h1,h2] at h
  omega
 .rintro rfl
  have g:=wA (t:=0) hb
  rw [Int.zero_mul] at h
  have h0:(lw 0 b).1 = 0:=by
   rcases Int.mul_eq_zero.mp h with z | z
   .exact z
   .omega
  rw [h0,Int.gcd_zero_left] at g
  exact ⟨h0,by omega⟩
theorem aaV {t b:Int} (hb:0 < b) (ht:0 <= t):0 <= (lw t b).1:=Int.ediv_nonneg ht (Int.le_of_lt (X5 hb))
theorem aa1 {t b:Int} (hb:0 < b) (ht:t <= b):(lw t b).1 <= (lw t b).2:=Int.ediv_le_ediv (X5 hb) ht
theorem abj {b:Int} (hb:0 < b):(lw 1 b).1 = 1/\(lw 1 b).2 = b:=by
 have:=VB (t:=1) (b:=b) (x:=1) (y:=b) hb hb (by rw [Int.gcd_comm]; simp) (by rw [Int.mul_comm])
 exact ⟨this.1.symm,this.2.symm⟩
section
variable {κ:Type} [DecidableEq κ]
def look (acc:List (κ × Int)) (r:κ):Int:=((acc.find? fun g=>decide (g.1 = r)).map (·.2)).getD 0
def put (acc:List (κ × Int)) (r:κ) (y:Int):List (κ × Int):=if (acc.any fun g=>decide (g.1 = r)) = true then acc.map (fun g=>if g.1 = r then (g.1,y) else g) else acc ++ [(r,y)]
def iW (gs:List (κ × Int)):List (κ × Int):=gs.foldl (fun a g=>put a g.1 (look a g.1 + g.2)) []
theorem zm (gs:List (κ × Int)) (g:κ × Int):iW (gs ++ [g]) = put (iW gs) g.1 (look (iW gs) g.1 + g.2):=by
 unfold iW
 rw [List.foldl_append]; rfl
theorem YD (acc:List (κ × Int)) (r:κ) (y:Int):(put acc r y).length <= acc.length + 1:=by
 unfold put
 split
 .rw [ao]; omega
 .rw [aB]; simp
theorem XS {acc:List (κ × Int)} (h:(acc.map (·.1)).Nodup) (r:κ) (y:Int):((put acc r y).map (·.1)).Nodup:=by
 unfold put
 split
 .have e:(acc.map (fun g=>if g.1 = r then (g.1,y) else g)).map (·.1) = acc.map (·.1):=by
   rw [List.map_map]
   refine List.map_congr_left fun g _=>?_
   show (if g.1 = r then (g.1,y) else g).1 = g.1
   split <;> rfl
  rw [e]; exact h
 .rename_i hn
  rw [bC]
  refine List.nodup_append.mpr ⟨h,by simp,?_⟩
  intro a ha b hb e
  subst e
  simp only [List.map_cons,List.map_nil,List.mem_singleton] at hb
  subst hb
  obtain ⟨g,hg,e⟩:=List.mem_map.mp ha
  exact hn (List.any_eq_true.mpr ⟨g,hg,decide_eq_true e⟩)
theorem Mv (acc:List (κ × Int)) (r:κ):look acc r = 0\/∃ g ∈ acc,look acc r = g.2:=by
 unfold look
 cases h:acc.find? fun g=>decide (g.1 = r) with
 | none=>exact .inl rfl
 | some g=>exact .inr ⟨g,List.mem_of_find?_eq_some h,rfl⟩
theorem Yw {acc:List (κ × Int)} {r:κ} {y:Int} {g:κ × Int} (h:g ∈ put acc r y):g.2 = y\/g ∈ acc:=by
 unfold put at h
 split at h
 .obtain ⟨g',hg,e⟩:=List.mem_map.mp h
  split at e
  .subst e; exact .inl rfl
  .subst e; exact .inr hg
 .rcases List.mem_append.mp h with h | h
  .exact .inr h
  .rw [List.mem_singleton.mp h]; exact .inl rfl
theorem tH (gs:List (κ × Int)):(∀ g ∈ gs,0 <= g.2)->((iW gs).map (·.1)).Nodup/\(iW gs).length <= gs.length/\∀ g ∈ iW gs,0 <= g.2/\g.2 <= (gs.map (·.2)).sum:=by
 suffices H:∀ (n:Nat) (gs:List (κ × Int)),gs.length = n->(∀ g ∈ gs,0 <= g.2)->((iW gs).map (·.1)).Nodup/\(iW gs).length <= gs.length/\(0 <= (gs.map (·.2)).sum)/\∀ g ∈ iW gs,0 <= g.2/\g.2 <= (gs.map (·.2)).sum from fun h=>let ⟨a,b,_,c⟩:=H _ gs rfl h; ⟨a,b,c⟩
 intro n
 induction n with
 | zero =>
  intro gs h _
  rw [List.eq_nil_of_length_eq_zero h]
  exact ⟨by simp [iW],by simp [iW],by simp,by simp [iW]⟩
 | succ n ih =>
  intro gs h hp
  obtain ⟨gs',g,rfl⟩ : ∃ gs' g,gs = gs' ++ [g]:=⟨gs.dropLast,gs.getLast (by intro e; rw [e] at h; cases h),(List.dropLast_concat_getLast _).symm⟩
  have hl:gs'.length = n:=by rw [aB] at h; simpa using h
  obtain ⟨h1,h2,h3,h4⟩:=ih gs' hl fun g hg=>hp g (List.mem_append_left _ hg)
  have hg:=hp g (aR _ (by simp))
  rw [zm]
  have hs:((gs' ++ [g]).map (·.2)).sum = (gs'.map (·.2)).sum + g.2:=by simp
  rw [hs]
  have lk:0 <= look (iW gs') g.1/\look (iW gs') g.1 <= (gs'.map (·.2)).sum:=by
   rcases Mv (iW gs') g.1 with e | ⟨u,hu,e⟩
   .rw [e]; exact ⟨Int.le_refl _,h3⟩
   .rw [e]; exact h4 u hu
  refine ⟨XS h1 _ _,?_,by omega,fun u hu=>?_⟩
  .have:=YD (iW gs') g.1 (look (iW gs') g.1 + g.2)
   rw [aB]
   simp only [List.length_cons,List.length_nil]
   omega
  .rcases Yw hu with e | hu
   .rw [e]; omega
   .have:=h4 u hu
    omega
theorem Yu {acc:List (κ × Int)} {r:κ} {y:Int} {g:κ × Int} (h:g ∈ put acc r y):g.1 = r\/g.1 ∈ acc.map (·.1):=by
 unfold put at h
 split at h
 .obtain ⟨g',hg,e⟩:=List.mem_map.mp h
  split at e
  .subst e; exact .inr (List.mem_map.mpr ⟨g',hg,rfl⟩)
  .subst e; exact .inr (List.mem_map.mpr ⟨_,hg,rfl⟩)
 .rcases List.mem_append.mp h with h | h
  .exact .inr (List.mem_map.mpr ⟨_,h,rfl⟩)
  .rw [List.mem_singleton.mp h]; exact .inl rfl
theorem Xp (gs:List (κ × Int)):∀ g ∈ iW gs,g.1 ∈ gs.map (·.1):=by
 suffices H:∀ (n:Nat) (gs:List (κ × Int)),gs.length = n->∀ g ∈ iW gs,g.1 ∈ gs.map (·.1) from H _ gs rfl
 intro n
 induction n with
 | zero =>
  intro gs h g hg
  rw [List.eq_nil_of_length_eq_zero h] at hg
  simp [iW] at hg
 | succ n ih =>
  intro gs h u hu
  obtain ⟨gs',g,rfl⟩ : ∃ gs' g,gs = gs' ++ [g]:=⟨gs.dropLast,gs.getLast (by intro e; rw [e] at h; cases h),(List.dropLast_concat_getLast _).symm⟩
  have hl:gs'.length = n:=by rw [aB] at h; simpa using h
  rw [zm] at hu
  rw [bC]
  rcases Yu hu with e | e
  .rw [e]; exact aR _ (by simp)
  .obtain ⟨v,hv,e⟩:=List.mem_map.mp e
   rw [<- e]
   exact List.mem_append_left _ (ih gs' hl v hv)
def ways (gs:List (κ × Int)) (S:Int):List (κ × Int × Int):=((iW gs).filter fun g=>decide (0 < g.2)).map fun g=>(g.1,lw g.2 S)
theorem UL {gs:List (κ × Int)} (h:∀ g ∈ gs,0 <= g.2) (S:Int):(ways gs S).length <= gs.length:=by
 unfold ways
 rw [ao]
 exact aN (List.length_filter_le _ _) (tH gs h).2.1
theorem Wm {gs:List (κ × Int)} {S:Int} {g:κ × Int × Int} (h:g ∈ ways gs S):g.1 ∈ gs.map (·.1):=by
 unfold ways at h
 obtain ⟨u,hu,rfl⟩:=List.mem_map.mp h
 exact Xp gs u (List.mem_filter.mp hu).1
theorem V5 {r:κ} : ways [(r,(1:Int))] 1 = [(r,(1,1))]:=by
 simp [ways,iW,put,look,lw]
end
end Ac
namespace K50
open PySem PyProof.Rows L2
local macro_rules | `(tactic| walk_at "rd")=>`(tactic| simp only [qx,Fw,Tq,V2,tOp,tUn,rU,Qy,Ks,aaL,tSl,FZ,tC,Rr,rI0,rI,Zq,Xf,ZL,sE,Bq,tCB,zF,yE,RB,tOr,Xc,Qw,QS,acr,Ph,Ft,ZP,cU,Zn,QM,Qs,Qx,Uq,Qc,Y_,QZ,Ht,N8,yC,Hl,Te,Ku,rEq,rNe,R8,yK,QX,zK,Py,Ib,H_,V_,Vh,acn,ab7,Ends.unset,aaE,abC,Kc,YX,Rh,aaN,acs,P_,Xr,Vr,aco,tSM,Nm,Ja,BJ,Uv,Z_,Qj,HY,aae,Ba,HN,Rw,XR,rJoin,X4,Xk,tB,Mr,ZK,UG,Ar,Qg,QT,aai,abQ,XF,Ro,Io,V0,Ow,VR,Df,aar,ZM,Ax,V.str.injEq,
 L2.start,List.replicate_succ,List.replicate_zero,Nat.reduceSub,Nat.reduceAdd,List.map_cons,List.map_nil,List.length_cons,List.length_nil,List.cons_append,List.nil_append,List.append_nil,List.getElem?_cons_zero,List.getElem?_cons_succ,List.set_cons_zero,List.set_cons_succ,List.set_nil,Option.some.injEq,exists_eq_left',exists_eq_left,exists_and_left,exists_and_right,exists_eq_right,exists_eq,exists_eq',and_assoc,V.int.injEq,V.ref.injEq,V.bl.injEq,V.ty.injEq,List.cons.injEq,HO.tup.injEq,HO.lst.injEq,and_true,true_and,reduceCtorEq,dB,cV,bK,decide_true,decide_false,Bool.not_true,Bool.not_false,if_true,if_false,ite_true,ite_false,Bool.false_eq_true,List.mem_cons,String.reduceEq,or_true,true_or,or_false,false_or,beq_self_eq_true,Bool.or_true,Bool.true_or,Bool.or_false,Bool.false_or,Bool.and_true,Bool.and_false,Bool.true_and,Bool.false_and,String.reduceBEq,Int.reduceToNat,Int.reducePow,Int.reduceMul,Int.reduceSub,Int.reduceAdd,Int.reduceNeg,Int.reduceLE,Int.reduceLT,Int.reduceEq,ne_eq,not_false_eq_true,not_true_eq_false,Int.cast_ofNat_Int])
open PySem.NumText
abbrev aac:Stmt:=top 0
abbrev W6:List Str:=["k"]
abbrev XH:Str := "_wall"
abbrev v8:Stmt:=top 13
abbrev fK:List Str:=["thing"]
abbrev fM:Str := "is_whole"
abbrev Oj:List Str:=["thing"]
theorem Mf:bZ Oj fK (bN v8):=fsc
abbrev zJ:Stmt:=top 14
abbrev gM:List Str:=["one", "other"]
abbrev gR:Str := "divisor"
abbrev RN:List Str:=["one", "other", "left", "right", "rest"]
theorem mC:bZ RN gM (bN zJ):=fsc
abbrev Kq:Stmt:=top 18
abbrev iK:List Str:=["top", "bottom"]
abbrev ji:Str := "ratio"
abbrev aaM:List Str:=["top", "bottom", "common"]
theorem C_:bZ aaM iK (bN Kq):=fsc
abbrev wu:Stmt:=top 19
abbrev iR:List Str:=["thing"]
abbrev iG:Str := "is_ratio"
abbrev PN:List Str:=["thing", "top", "bottom"]
theorem uw:bZ PN iR (bN wu):=fsc
abbrev Nt:Stmt:=top 20
abbrev rH:List Str:=["one", "other"]
abbrev rD:Str := "plus"
abbrev acz:List Str:=["one", "other"]
theorem Yv:bZ acz rH (bN Nt):=fsc
abbrev Jm:Stmt:=top 21
abbrev sZ:List Str:=["one", "other"]
abbrev sy:Str := "minus"
abbrev Yt:List Str:=["one", "other"]
theorem Vo:bZ Yt sZ (bN Jm):=fsc
abbrev Jg:Stmt:=top 22
abbrev sY:List Str:=["one", "other"]
abbrev tK:Str := "times"
abbrev aaG:List Str:=["one", "other"]
theorem Vw:bZ aaG sY (bN Jg):=fsc
abbrev O6:Stmt:=top 23
abbrev wX:List Str:=["one", "other"]
abbrev xq:Str := "over"
abbrev abR:List Str:=["one", "other"]
theorem YF:bZ abR wX (bN O6):=fsc
abbrev JK:Stmt:=top 24
abbrev mZ:List Str:=["one", "other"]
abbrev m_:Str := "under"
abbrev ZQ:List Str:=["one", "other"]
theorem Vn:bZ ZQ mZ (bN JK):=fsc
abbrev wL:Stmt:=top 26
abbrev je:List Str:=["fractions"]
abbrev gW:Str := "level"
abbrev Qh:List Str:=["fractions", "bottom", "one"]
theorem yG:bZ Qh je (bN wL):=fsc
abbrev Kp:Stmt:=top 27
abbrev uo:List Str:=["fractions"]
abbrev tO:Str := "total"
abbrev aat:List Str:=["fractions", "leveled"]
theorem MN:bZ aat uo (bN Kp):=fsc
abbrev vV:Stmt:=top 28
abbrev ni:List Str:=["fractions"]
abbrev m6:Str := "greatest"
abbrev O1:List Str:=["fractions", "found", "one"]
theorem pJ:bZ O1 ni (bN vV):=fsc
abbrev jR:Stmt:=top 30
abbrev jc:List Str:=["offer", "tops"]
abbrev i_:Str := "behind_door"
abbrev jK:List Str:=["offer", "tops", "leveled"]
theorem uq:bZ jK jc (bN jR):=fsc
abbrev pX:Stmt:=top 31
abbrev iQ:List Str:=["hall", "offer", "leveled"]
abbrev jd:Str := "raised_look"
abbrev Es:List Str:=["hall", "offer", "leveled", "behind"]
theorem ur:bZ Es iQ (bN pX):=fsc
abbrev qW:Stmt:=top 34
abbrev jF:List Str:=["many"]
abbrev jG:Str := "check_many"
abbrev Hh:List Str:=["many"]
theorem FQ:bZ Hh jF (bN qW):=fsc
abbrev zq:Stmt:=top 35
abbrev oZ:List Str:=["raised", "bottom"]
abbrev oW:Str := "lowered"
abbrev Tn:List Str:=["raised", "bottom"]
theorem PL:bZ Tn oZ (bN zq):=fsc
abbrev nY:Stmt:=top 36
abbrev iz:List Str:=["hall", "ahead"]
abbrev iu:Str := "best_round"
abbrev qG:List Str:=["hall", "ahead", "leveled", "told", "room", "seen"]
theorem jL:bZ qG iz (bN nY):=fsc
abbrev nH:Stmt:=top 37
abbrev mD:List Str:=["first", "many", "follow"]
abbrev mH:Str := "rounds_behind"
abbrev Al:List Str:=["first", "many", "follow", "told"]
theorem qp:bZ Al mD (bN nH):=fsc
abbrev iy:Stmt:=top 38
abbrev gB:List Str:=["hall", "many"]
abbrev eZ:Str := "best_rounds"
abbrev Ez:List Str:=["hall", "many"]
theorem Dq:bZ Ez gB (bN iy):=fsc
abbrev vm:Stmt:=top 41
abbrev jZ:List Str:=["thing"]
abbrev j7:Str := "is_word"
abbrev zG:List Str:=["thing"]
theorem Oi:bZ zG jZ (bN vm):=fsc
abbrev rK:Stmt:=top 43
abbrev gZ:List Str:=["name", "pay"]
abbrev iw:Str := "check_head"
abbrev JZ:List Str:=["name", "pay"]
theorem Fd:bZ JZ gZ (bN rK):=fsc
abbrev kZ:Stmt:=top 44
abbrev dY:List Str:=["room"]
abbrev dX:Str := "check_room_name"
abbrev yr:List Str:=["room"]
theorem wD:bZ yr dY (bN kZ):=fsc
abbrev pq:Stmt:=top 45
abbrev fH:List Str:=["chance"]
abbrev fB:Str := "check_chance"
abbrev BR:List Str:=["chance"]
theorem Ad:bZ BR fH (bN pq):=fsc
abbrev mO:Stmt:=top 46
abbrev iI:List Str:=["pairs"]
abbrev iH:Str := "check_pairs"
abbrev p7:List Str:=["pairs", "room", "chance"]
theorem oO:bZ p7 iI (bN mO):=fsc
abbrev mW:Stmt:=top 47
abbrev jf:List Str:=["pairs"]
abbrev iT:Str := "joined_ways"
abbrev vG:List Str:=["pairs", "chances", "room", "chance"]
theorem lU:bZ vG jf (bN mW):=fsc
abbrev pQ:Stmt:=top 54
abbrev iZ:List Str:=["share"]
abbrev jk:Str := "check_share"
abbrev FJ:List Str:=["share"]
theorem Ds:bZ FJ iZ (bN pQ):=fsc
abbrev qT:Stmt:=top 55
abbrev jU:List Str:=["rooms"]
abbrev jT:Str := "numbers_of"
abbrev JX:List Str:=["rooms", "numbers", "room", "name"]
theorem mL:bZ JX jU (bN qT):=fsc
abbrev nM:Stmt:=top 56
abbrev gF:List Str:=["door", "numbers"]
abbrev gH:Str := "numbered_ways"
abbrev Ai:List Str:=["door", "numbers", "numbered", "name", "chance"]
theorem jz:bZ Ai gF (bN nM):=fsc
abbrev uh:Stmt:=top 57
abbrev lG:List Str:=["doors", "numbers"]
abbrev lQ:Str := "offers_of"
abbrev Lg:List Str:=["doors", "numbers", "taken", "told", "door"]
theorem n_:bZ Lg lG (bN uh):=fsc
abbrev Pa:Stmt:=top 60
abbrev vf:List Str:=["_law_script", "_law_k"]
abbrev u_:Str := "_law_cell"
abbrev aa8:List Str:=["_law_script", "_law_k"]
theorem aaw:bZ aa8 vf (bN Pa):=fsc
abbrev Cv:Stmt:=top 61
abbrev gY:List Str:=["_law_cell_here", "_law_many"]
abbrev iB:Str := "_law_stream"
abbrev V4:List Str:=["_law_cell_here", "_law_many", "_law_found", "_law_number", "_law_digits", "_law_k"]
theorem j_:bZ V4 gY (bN Cv):=fsc
abbrev Yb:Stmt:=top 62
abbrev zx:List Str:=["_law_one", "_law_other"]
abbrev zy:Str := "_law_gcd"
abbrev adY:List Str:=["_law_one", "_law_other", "_law_low", "_law_high"]
theorem Jd:bZ adY zx (bN Yb):=fsc
abbrev Cz:Stmt:=top 63
abbrev mz:List Str:=["_law_top", "_law_bottom"]
abbrev mG:Str := "_law_ratio"
abbrev Ye:List Str:=["_law_top", "_law_bottom", "_law_common"]
theorem Gu:bZ Ye mz (bN Cz):=fsc
abbrev sI:Stmt:=top 64
abbrev kj:List Str:=["_law_found"]
abbrev lM:Str := "_law_is_ratio"
abbrev Mh:List Str:=["_law_found", "_law_number"]
theorem w6:bZ Mh kj (bN sI):=fsc
abbrev nW:Stmt:=top 65
abbrev jV:List Str:=["_law_found", "_law_many"]
abbrev jN:Str := "_law_are_ratios"
abbrev qQ:List Str:=["_law_found", "_law_many"]
theorem Eu:bZ qQ jV (bN nW):=fsc
abbrev s_same:Stmt:=top 66
abbrev wU:List Str:=["_law_one", "_law_other"]
abbrev xO:Str := "_law_same"
abbrev ab2:List Str:=["_law_one", "_law_other"]
theorem Y4:bZ ab2 wU (bN s_same):=fsc
abbrev uT:Stmt:=top 67
abbrev uE:List Str:=["_law_cell_here", "_law_many"]
abbrev uI:Str := "_law_names"
abbrev qN:List Str:=["_law_cell_here", "_law_many", "_law_letters", "_law_xs", "_law_base", "_law_at", "_law_step"]
theorem qy:bZ qN uE (bN uT):=fsc
abbrev Jv:Stmt:=top 68
abbrev rY:List Str:=["_law_cell_here", "_law_small"]
abbrev uy:Str := "_law_share"
abbrev YW:List Str:=["_law_cell_here", "_law_small", "_law_xs", "_law_bottom"]
theorem Dj:bZ YW rY (bN Jv):=fsc
abbrev Ve:Stmt:=top 69
abbrev BK:List Str:=["_law_cell_here", "_law_x", "_law_y", "_law_small"]
abbrev Dt:Str := "_law_pay"
abbrev ae3:List Str:=["_law_cell_here", "_law_x", "_law_y", "_law_small"]
theorem abb:bZ ae3 BK (bN Ve):=fsc
abbrev vY:Stmt:=top 70
abbrev xg:List Str:=["_law_cell_here", "_law_many", "_law_small"]
abbrev wI:Str := "_law_door"
abbrev qJ:List Str:=["_law_cell_here", "_law_many", "_law_small", "_law_xs", "_law_rooms", "_law_sort", "_law_pairs", "_law_bottom", "_law_part", "_law_weights"]
theorem jX:bZ qJ xg (bN vY):=fsc
abbrev Az:Stmt:=top 71
abbrev ux:List Str:=["_law_script", "_law_at", "_law_many", "_law_small"]
abbrev t_:Str := "_law_doors"
abbrev Hj:List Str:=["_law_script", "_law_at", "_law_many", "_law_small", "_law_rooms", "_law_first", "_law_cells", "_law_cell_here", "_law_room", "_law_door_here"]
theorem oR:bZ Hj ux (bN Az):=fsc
abbrev yd:Stmt:=top 72
abbrev tW:List Str:=["_law_title", "_law_door_here", "_law_names_here"]
abbrev sW:Str := "_law_built"
abbrev xY:List Str:=["_law_title", "_law_door_here", "_law_names_here", "_law_told", "_law_sort", "_law_pay_here", "_law_pairs"]
theorem su:bZ xY tW (bN yd):=fsc
abbrev Ie:Stmt:=top 73
abbrev xJ:List Str:=["_law_cell_here", "_law_share_here", "_law_rooms"]
abbrev yx:Str := "_law_hall"
abbrev OD:List Str:=["_law_cell_here", "_law_share_here", "_law_rooms", "_law_names_here", "_law_found", "_law_k", "_law_titles"]
theorem yL:bZ OD xJ (bN Ie):=fsc
abbrev Ou:Stmt:=top 75
abbrev yw:List Str:=["_law_share_here", "_law_door_here", "_law_worths"]
abbrev wQ:Str := "_law_look"
abbrev acp:List Str:=["_law_share_here", "_law_door_here", "_law_worths", "_law_top", "_law_bottom", "_law_room", "_law_chance", "_law_part"]
theorem mJ:bZ acp yw (bN Ou):=fsc
abbrev Kl:Stmt:=top 76
abbrev tQ:List Str:=["_law_one", "_law_other"]
abbrev uf:Str := "_law_below"
abbrev aau:List Str:=["_law_one", "_law_other"]
theorem Xa:bZ aau tQ (bN Kl):=fsc
abbrev Ke:Stmt:=top 77
abbrev uF:List Str:=["_law_cell_here"]
abbrev tX:Str := "_law_sizes"
abbrev Zh:List Str:=["_law_cell_here", "_law_xs"]
theorem K1:bZ Zh uF (bN Ke):=fsc
abbrev n8:Stmt:=top 78
abbrev jH:List Str:=["_law_found", "_law_many", "_law_size"]
abbrev jO:Str := "_law_are_rounds"
abbrev qR:List Str:=["_law_found", "_law_many", "_law_size"]
theorem Gf:bZ qR jH (bN n8):=fsc
abbrev uZ:Stmt:=top 79
abbrev tU:List Str:=["_law_found", "_law_many", "_law_share_here", "_law_rooms"]
abbrev uO:Str := "_law_right"
abbrev rC:List Str:=["_law_found", "_law_many", "_law_share_here", "_law_rooms", "_law_k", "_law_room", "_law_some"]
theorem uJ:bZ rC tU (bN uZ):=fsc
abbrev yR:Stmt:=top 80
abbrev o_:List Str:=["_law_hall_here", "_law_many"]
abbrev oV:Str := "_law_refused"
abbrev Tr:List Str:=["_law_hall_here", "_law_many", "e", "_law_others"]
theorem qM:bZ Tr o_ (bN yR):=fsc
abbrev K4:Stmt:=top 81
abbrev N6:List Str:=["_law_script"]
abbrev Iz:Str := "law"
abbrev aa4:List Str:=["_law_script", "_law_share_here", "_law_rooms", "_law_hall_here", "_law_xs", "_law_fewer", "_law_held", "_law_odd", "_law_size", "_law_many", "_law_small", "_law_found", "_law_due", "_law_one"]
theorem kJ:bZ aa4 N6 (bN K4):=fsc
abbrev uP:Stmt:=eN 48 0
abbrev jm:List Str:=["self", "name", "pay"]
abbrev xR:Str := "__init__"
abbrev yD:Str := "Door.__init__"
abbrev Mp:List Str:=["self", "name", "pay"]
theorem Im:bZ Mp jm (bN uP):=fsc
abbrev tV:Stmt:=eN 48 1
abbrev kh:List Str:=["self"]
abbrev w5:Str := "ways"
abbrev xK:Str := "Door.ways"
abbrev Ln:List Str:=["self"]
theorem J_:bZ Ln kh (bN tV):=fsc
abbrev yS:Stmt:=eN 48 2
abbrev yu:List Str:=["self", "room"]
abbrev xU:Str := "chance_to"
abbrev yc:Str := "Door.chance_to"
abbrev sH:Stmt:=eN 49 0
abbrev lF:List Str:=["self", "name", "pay", "room"]
abbrev yP:Str := "__init__"
abbrev wV:Str := "Sure.__init__"
abbrev KQ:List Str:=["self", "name", "pay", "room"]
theorem JB:bZ KQ lF (bN sH):=fsc
abbrev qF:Stmt:=eN 50 0
abbrev fV:List Str:=["self", "name", "pay", "pairs"]
abbrev vI:Str := "__init__"
abbrev vC:Str := "Mixed.__init__"
abbrev HJ:List Str:=["self", "name", "pay", "pairs"]
theorem Ep:bZ HJ fV (bN qF):=fsc
abbrev tY:Stmt:=eN 51 0
abbrev lO:List Str:=["self", "name", "pay", "chance", "room", "other"]
abbrev xZ:Str := "__init__"
abbrev wO:Str := "Toss.__init__"
abbrev Kz:List Str:=["self", "name", "pay", "chance", "room", "other"]
theorem HS:bZ Kz lO (bN tY):=fsc
abbrev pL:Stmt:=eN 52 0
abbrev lW:List Str:=["self", "name", "pay", "rooms"]
abbrev xM:Str := "__init__"
abbrev yh:Str := "Even.__init__"
abbrev sJ:List Str:=["self", "name", "pay", "rooms"]
theorem Hz:bZ sJ lW (bN pL):=fsc
abbrev pF:Stmt:=eN 58 0
abbrev kE:List Str:=["self", "share", "rooms"]
abbrev wM:Str := "__init__"
abbrev xu:Str := "Hall.__init__"
abbrev tu:List Str:=["self", "share", "rooms"]
theorem Ji:bZ tu kE (bN pF):=fsc
abbrev sX:Stmt:=eN 58 1
abbrev fQ:List Str:=["self"]
abbrev wN:Str := "size"
abbrev yH:Str := "Hall.size"
abbrev KY:List Str:=["self"]
theorem Jr:bZ KY fQ (bN sX):=fsc
abbrev I9:Stmt:=eN 58 2
abbrev Fy:List Str:=["self"]
abbrev Gi:Str := "names"
abbrev Ew:Str := "Hall.names"
abbrev IV:Stmt:=eN 58 3
abbrev Ge:List Str:=["self", "name"]
abbrev Er:Str := "place"
abbrev Gb:Str := "Hall.place"
abbrev lA:Stmt:=eN 58 4
abbrev fu:List Str:=["self", "room"]
abbrev oU:Str := "check_room"
abbrev oK:Str := "Hall.check_room"
abbrev yI:List Str:=["self", "room"]
theorem wg:bZ yI fu (bN lA):=fsc
abbrev Eh:Stmt:=eN 58 5
abbrev Aa:List Str:=["self", "room", "name"]
abbrev Af:Str := "door_at"
abbrev Ae:Str := "Hall.door_at"
abbrev mX:Stmt:=eN 58 6
abbrev iU:List Str:=["self", "room"]
abbrev uc:Str := "offers"
abbrev tD:Str := "Hall.offers"
abbrev pZ:List Str:=["self", "room"]
theorem Dm:bZ pZ iU (bN mX):=fsc
structure Adr where
 HallError:Addr
 NoNumber:Addr
 NoName:Addr
 NoChance:Addr
 NoShare:Addr
 NoText:Addr
 NoRow:Addr
 NoRoom:Addr
 NoDoor:Addr
 NoPlan:Addr
 Door:Addr
 Sure:Addr
 Mixed:Addr
 Toss:Addr
 Even:Addr
 Hall:Addr
 NOUGHT:Addr
 ONE:Addr
 Door_init:Addr
 Door_ways:Addr
 Door_chance_to:Addr
 Sure_init:Addr
 Mixed_init:Addr
 Toss_init:Addr
 Even_init:Addr
 Hall_init:Addr
 Hall_size:Addr
 Hall_names:Addr
 Hall_place:Addr
 Hall_check_room:Addr
 Hall_door_at:Addr
 Hall_offers:Addr
 T_best_rounds:Addr
structure Txt (K:Frag) (mg:Str->Option Value) (D:Adr):Prop where
 X3:mg "Door" = some (.ref D.Door)
 abZ:mg "Even" = some (.ref D.Even)
 abe:mg "Hall" = some (.ref D.Hall)
 KD:mg "HallError" = some (.ref D.HallError)
 Ik:mg "Mixed" = some (.ref D.Mixed)
 qj:mg "NOUGHT" = some (.ref D.NOUGHT)
 wj:mg "NoChance" = some (.ref D.NoChance)
 W2:mg "NoDoor" = some (.ref D.NoDoor)
 Dz:mg "NoName" = some (.ref D.NoName)
 wF:mg "NoNumber" = some (.ref D.NoNumber)
 Vz:mg "NoPlan" = some (.ref D.NoPlan)
 Yh:mg "NoRoom" = some (.ref D.NoRoom)
 Zu:mg "NoRow" = some (.ref D.NoRow)
 Tp:mg "NoShare" = some (.ref D.NoShare)
 Xq:mg "NoText" = some (.ref D.NoText)
 Ml:mg "ONE" = some (.ref D.ONE)
 ab9:mg "Sure" = some (.ref D.Sure)
 ab6:mg "Toss" = some (.ref D.Toss)
 B_:Nf K D.NoChance
 Lx:Nf K D.NoName
 CP:Nf K D.NoNumber
 acC:Nf K D.NoShare
 fU:Ng K D.NoNumber
 Od:PySem.W.kitOne K (.ref D.NoNumber) (.ref D.NoChance) = some false
 Wc:PySem.W.kitOne K (.ref D.NoNumber) (.ref D.NoDoor) = some false
 Wk:PySem.W.kitOne K (.ref D.NoNumber) (.ref D.NoName) = some false
 N5:PySem.W.kitOne K (.ref D.NoNumber) (.ref D.NoNumber) = some true
 Vs:PySem.W.kitOne K (.ref D.NoNumber) (.ref D.NoPlan) = some false
 Xn:PySem.W.kitOne K (.ref D.NoNumber) (.ref D.NoRoom) = some false
 YQ:PySem.W.kitOne K (.ref D.NoNumber) (.ref D.NoRow) = some false
 R_:PySem.W.kitOne K (.ref D.NoNumber) (.ref D.NoShare) = some false
 Xo:PySem.W.kitOne K (.ref D.NoNumber) (.ref D.NoText) = some false
 Il:PySem.W.kitOne K (.ref D.NoNumber) (.type "ValueError") = some true
 KJ:PySem.W.mroIn K D.HallError (.type "BaseException") = some true
 L_:PySem.W.typeIn K (.ref D.HallError) = some (.type "type")
 O5:PySem.W.mroIn K D.NoNumber (.ref D.HallError) = some true
 Ei:∃ u,mg "LONGEST_WORD" = some u/\RelV (.int 8) u
 abp:∃ u,mg "MOST" = some u/\RelV (.int 40) u
 oF:∀ H,SqT K H D.NOUGHT [.int 0,.int 1]
 Ci:∀ H,SqT K H D.ONE [.int 1,.int 1]
 afS:Mk K D.Door D.Door_init
 Vt:Cls K D.Door
 afW:Mi K D.Door
 Rx:Meth K D.Door "chance_to" D.Door_chance_to
 Js:Meth K D.Door "ways" D.Door_ways
 Gh:cL K D.Door "leads"
 Jy:cL K D.Door "name"
 Uk:cL K D.Door "numbers"
 Ug:cL K D.Door "offered"
 Mx:cL K D.Door "pay"
 Yp:cL K D.Door "share"
 YS:Mk K D.Sure D.Sure_init
 Kv:Cls K D.Sure
 afQ:Mi K D.Sure
 Qo:Meth K D.Sure "chance_to" D.Door_chance_to
 Jo:Meth K D.Sure "ways" D.Door_ways
 vN:cL K D.Sure "leads"
 I_:cL K D.Sure "name"
 Uc:cL K D.Sure "numbers"
 Ul:cL K D.Sure "offered"
 M7:cL K D.Sure "pay"
 Yi:cL K D.Sure "share"
 X_:Mk K D.Mixed D.Mixed_init
 R6:Cls K D.Mixed
 aeR:Mi K D.Mixed
 NT:Meth K D.Mixed "chance_to" D.Door_chance_to
 Gd:Meth K D.Mixed "ways" D.Door_ways
 Dk:cL K D.Mixed "leads"
 Fg:cL K D.Mixed "name"
 RX:cL K D.Mixed "numbers"
 Sv:cL K D.Mixed "offered"
 JQ:cL K D.Mixed "pay"
 Yg:cL K D.Mixed "share"
 Zo:Mk K D.Toss D.Toss_init
 Uz:Cls K D.Toss
 afR:Mi K D.Toss
 Rp:Meth K D.Toss "chance_to" D.Door_chance_to
 Ia:Meth K D.Toss "ways" D.Door_ways
 E_:cL K D.Toss "leads"
 Hu:cL K D.Toss "name"
 Uo:cL K D.Toss "numbers"
 Uh:cL K D.Toss "offered"
 Nb:cL K D.Toss "pay"
 Yl:cL K D.Toss "share"
 aaB:Mk K D.Even D.Even_init
 U3:Cls K D.Even
 afT:Mi K D.Even
 Q9:Meth K D.Even "chance_to" D.Door_chance_to
 Hi:Meth K D.Even "ways" D.Door_ways
 Gj:cL K D.Even "leads"
 Jc:cL K D.Even "name"
 Ui:cL K D.Even "numbers"
 Um:cL K D.Even "offered"
 KZ:cL K D.Even "pay"
 Yn:cL K D.Even "share"
 ZC:Mk K D.Hall D.Hall_init
 tR:Cls K D.Hall
 afV:Mi K D.Hall
 vR:Meth K D.Hall "check_room" D.Hall_check_room
 Ue:Meth K D.Hall "door_at" D.Hall_door_at
 Ym:Meth K D.Hall "names" D.Hall_names
 Bh:Meth K D.Hall "offers" D.Hall_offers
 Yq:Meth K D.Hall "place" D.Hall_place
 Ho:Meth K D.Hall "size" D.Hall_size
 Et:cL K D.Hall "leads"
 Hr:cL K D.Hall "name"
 nG:cL K D.Hall "numbers"
 rP:cL K D.Hall "offered"
 Kw:cL K D.Hall "pay"
 vH:cL K D.Hall "share"
 wZ:kY K D.Door "__init__" D.Door_init
 Ip:rR K xR yD uP jm D.Door_init
 Zv:kY K D.Door "ways" D.Door_ways
 IK:rR K w5 xK tV kh D.Door_ways
 Rn:kY K D.Door "chance_to" D.Door_chance_to
 Qu:rR K xU yc yS yu D.Door_chance_to
 Zj:kY K D.Sure "__init__" D.Sure_init
 Km:rR K yP wV sH lF D.Sure_init
 vB:kY K D.Mixed "__init__" D.Mixed_init
 Ey:rR K vI vC qF fV D.Mixed_init
 Za:kY K D.Toss "__init__" D.Toss_init
 Kg:rR K xZ wO tY lO D.Toss_init
 Zd:kY K D.Even "__init__" D.Even_init
 Kf:rR K xM yh pL lW D.Even_init
 Zy:kY K D.Hall "__init__" D.Hall_init
 J3:rR K wM xu pF kE D.Hall_init
 Zr:kY K D.Hall "size" D.Hall_size
 yF:rR K wN yH sX fQ D.Hall_size
 Yk:kY K D.Hall "names" D.Hall_names
 Yj:rR K Gi Ew I9 Fy D.Hall_names
 Yo:kY K D.Hall "place" D.Hall_place
 Yr:rR K Er Gb IV Ge D.Hall_place
 Oa:kY K D.Hall "check_room" D.Hall_check_room
 vU:rR K oU oK lA fu D.Hall_check_room
 Uj:kY K D.Hall "door_at" D.Hall_door_at
 Ud:rR K Af Ae Eh Aa D.Hall_door_at
 Xv:kY K D.Hall "offers" D.Hall_offers
 CZ:rR K uc tD mX iU D.Hall_offers
 Iu:mg "ValueError" = none
 M9:mg "abs" = none
 Xz:mg "all" = none
 W7:mg "any" = none
 W9:mg "bool" = none
 GF:mg "int" = none
 cG:mg "isinstance" = none
 kI:mg "len" = none
 JW:mg "list" = none
 nZ:mg "range" = none
 XC:mg "sorted" = none
 acU:mg "str" = none
 VF:mg "sum" = none
 Qz:mg "tuple" = none
 Va:mg "zip" = none
 afU:dU K mg XH aac W6
 Cm:dU K mg fM v8 fK
 G7:dU K mg gR zJ gM
 Rf:dU K mg ji Kq iK
 Oq:dU K mg iG wu iR
 XM:dU K mg rD Nt rH
 aaF:dU K mg sy Jm sZ
 YG:dU K mg tK Jg sY
 ab8:dU K mg xq O6 wX
 QL:dU K mg m_ JK mZ
 Aw:dU K mg gW wL je
 f_total:dU K mg tO Kp uo
 O7:dU K mg m6 vV ni
 Fe:dU K mg i_ jR jc
 FN:dU K mg jd pX iQ
 Jt:dU K mg jG qW jF
 RK:dU K mg oW zq oZ
 G9:dU K mg iu nY iz
 Ak:dU K mg mH nH mD
 FW:YZ K mg eZ iy gB D.T_best_rounds
 T_:dU K mg j7 vm jZ
 JC:dU K mg iw rK gZ
 yj:dU K mg dX kZ dY
 Bk:dU K mg fB pq fH
 Fo:dU K mg iH mO iI
 Em:dU K mg iT mW jf
 Ga:dU K mg jk pQ iZ
 JR:dU K mg jT qT jU
 Ah:dU K mg gH nM gF
 MP:dU K mg lQ uh lG
 abG:dU K mg u_ Pa vf
 Vu:dU K mg iB Cv gY
 ae1:dU K mg zy Yb zx
 W5:dU K mg mG Cz mz
 Ms:dU K mg lM sI kj
 Ii:dU K mg jN nW jV
 aby:dU K mg xO s_same wU
 Y0:dU K mg uI uT uE
 aaQ:dU K mg uy Jv rY
 aeo:dU K mg Dt Ve BK
 abD:dU K mg wI vY xg
 aay:dU K mg t_ Az ux
 Z4:dU K mg sW yd tW
 abk:dU K mg yx Ie xJ
 f_look:dU K mg wQ Ou yw
 aaf:dU K mg uf Kl tQ
 aam:dU K mg tX Ke uF
 Iw:dU K mg jO n8 jH
 aaH:dU K mg uO uZ tU
 TY:dU K mg oV yR o_
def Fam (D:Adr) (C:Addr):Prop:=C = D.Door\/C = D.Sure\/C = D.Mixed\/C = D.Toss\/C = D.Even\/C = D.Hall
theorem Txt.cl {K:Frag} {mg:Str->Option Value} {D:Adr} (T:Txt K mg D):∀ C,Fam D C->Cls K C:=by
 rintro C (rfl | rfl | rfl | rfl | rfl | rfl)
 .exact T.Vt
 .exact T.Kv
 .exact T.R6
 .exact T.Uz
 .exact T.U3
 .exact T.tR
theorem Txt.CJ {K:Frag} {mg:Str->Option Value} {D:Adr} (T:Txt K mg D):∀ C,Fam D C->cL K C "leads" := by
 rintro C (rfl | rfl | rfl | rfl | rfl | rfl)
 .exact T.Gh
 .exact T.vN
 .exact T.Dk
 .exact T.E_
 .exact T.Gj
 .exact T.Et
theorem Txt.Bf {K:Frag} {mg:Str->Option Value} {D:Adr} (T:Txt K mg D):∀ C,Fam D C->cL K C "name" := by
 rintro C (rfl | rfl | rfl | rfl | rfl | rfl)
 .exact T.Jy
 .exact T.I_
 .exact T.Fg
 .exact T.Hu
 .exact T.Jc
 .exact T.Hr
theorem Txt.Wh {K:Frag} {mg:Str->Option Value} {D:Adr} (T:Txt K mg D):∀ C,Fam D C->cL K C "pay" := by
 rintro C (rfl | rfl | rfl | rfl | rfl | rfl)
 .exact T.Mx
 .exact T.M7
 .exact T.JQ
 .exact T.Nb
 .exact T.KZ
 .exact T.Kw
def dW (D:Adr) (C:Addr):Prop:=C = D.Hall
theorem dW.fam {D:Adr} {C:Addr} (h:dW D C):Fam D C:=by
 unfold dW at h
 unfold Fam
 simp [h]
theorem Txt.vQ {K:Frag} {mg:Str->Option Value} {D:Adr} (T:Txt K mg D):∀ C,dW D C->Meth K C "check_room" D.Hall_check_room:=by
 rintro C (rfl)
 .exact T.vR
def gC (D:Adr) (C:Addr):Prop:=C = D.Hall
theorem gC.fam {D:Adr} {C:Addr} (h:gC D C):Fam D C:=by
 unfold gC at h
 unfold Fam
 simp [h]
theorem Txt.CG {K:Frag} {mg:Str->Option Value} {D:Adr} (T:Txt K mg D):∀ C,gC D C->Meth K C "offers" D.Hall_offers:=by
 rintro C (rfl)
 .exact T.Bh
def dZ (D:Adr) (C:Addr):Prop:=C = D.Hall
theorem dZ.fam {D:Adr} {C:Addr} (h:dZ D C):Fam D C:=by
 unfold dZ at h
 unfold Fam
 simp [h]
theorem Txt.qP {K:Frag} {mg:Str->Option Value} {D:Adr} (T:Txt K mg D):∀ C,dZ D C->Meth K C "size" D.Hall_size:=by
 rintro C (rfl)
 .exact T.Ho
def eU (D:Adr) (C:Addr):Prop:=C = D.Door\/C = D.Sure\/C = D.Mixed\/C = D.Toss\/C = D.Even
theorem eU.fam {D:Adr} {C:Addr} (h:eU D C):Fam D C:=by
 unfold eU at h
 unfold Fam
 rcases h with h | h | h | h | h <;> simp [h]
theorem Txt.JD {K:Frag} {mg:Str->Option Value} {D:Adr} (T:Txt K mg D):∀ C,eU D C->Meth K C "ways" D.Door_ways:=by
 rintro C (rfl | rfl | rfl | rfl | rfl)
 .exact T.Js
 .exact T.Jo
 .exact T.Gd
 .exact T.Ia
 .exact T.Hi
section
variable {P:Program} {w:World} {K:Frag} {mg:Str->Option Value} {base:Heap} {D:Adr}
theorem boot_abs:bootBuiltins "abs" = some (.builtin "abs"):=by decide +kernel
theorem QV:1 <= sizeLine:=by decide
theorem d8:2 <= sizeLine:=by decide
theorem abI {n:Int} (h0:0 <= n) (h1:n <= 1000000):acW 10 n:=⟨h0,h1,by decide⟩
theorem abo {n:Nat} (h:n <= 64):n <= sizeLine:=aN h (by decide)
theorem Z1 (ns:List Int) (k:Nat):atI (pA (ns.map V.int) (some (k:Int)) (some ((k:Int) + 1)) ++ [V.int 0]) 0 = some (V.int (ns.getD k 0)):=by
 unfold pA
 rw [show ((k:Int) + 1) = ((k + 1:Nat):Int) by omega,HT.qZ,HT.qZ,ao]
 refine cg (j:=0) ?_
 by_cases h:k < ns.length
 .rw [Nat.min_eq_left (Nat.le_of_lt h),Nat.min_eq_left (Nat.succ_le_of_lt h)]
  rw [show k + 1 - k = 1 by omega]
  rw [List.drop_eq_getElem_cons (by rw [ao]; exact h)]
  simp [List.getD,h]
 .have e1:min k ns.length = ns.length:=by omega
  have e2:min (k + 1) ns.length = ns.length:=by omega
  rw [e1,e2]
  simp [List.getD,List.getElem?_eq_none (Nat.le_of_not_lt h)]
theorem cj {t u:TS} {D:Ends} {σ:L2.St} {H:Hp} (h:∀ u',u' = u->qx t u' D σ H):qx t u D σ H:=h u rfl
theorem GK {a b c d:TS} {D:Ends} {σ:L2.St} {H:Hp} (h:∀ d',d' = d->qx a (qx b (qx c d')) D σ H):qx a (qx b (qx c d)) D σ H:=h d rfl
theorem wG {α:Type} : ∀ {l:List α},l.length = 2->∃ a b,l = [a,b]
 | [a,b],_=>⟨a,b,rfl⟩
theorem lZ {t0:TE} {t v:TS} {D:Ends} {σ:L2.St} {H:Hp} {i k:Int} (ht:∀ R:VK,R (.int i) H->t0 σ H R) (ne:i ≠ k) (h:v D σ H):qx (Fw (yE (tOp rEq t0 (tC (.int k)))) t yK) v D σ H:=by
 refine ht _ ⟨rfl,_,rfl,?_⟩
 dsimp only
 rw [if_neg (by simp [ne])]
 exact h
theorem ud {t0:TE} {t v:TS} {D:Ends} {σ:L2.St} {H:Hp} {i k:Int} (ht:∀ R:VK,R (.int i) H->t0 σ H R) (e:i = k) (h:∀ Kn:L2.St->Hp->Prop,(∀ σ' H',v D σ' H'->Kn σ' H')->t { D with nx:=Kn } σ H):qx (Fw (yE (tOp rEq t0 (tC (.int k)))) t yK) v D σ H:=by
 refine ht _ ⟨rfl,_,rfl,?_⟩
 dsimp only
 rw [if_pos (by simp [e])]
 exact h _ fun _ _ z=>z
theorem eY {te:TE} {D:Ends} {σ:L2.St} {H:Hp} (h:te σ H D.rt):Tq te D σ H:=h
theorem MF {te:TE} {σ:L2.St} {H:Hp} {Q:List V->Hp->Prop} (h:te σ H fun x H1=>Q [x] H1):sE te Bq σ H Q:=h
theorem dO {t u:TS} {D:Ends} {σ:L2.St} {H:Hp} (h:t { D with nx:=u D } σ H):qx t u D σ H:=h
theorem cI {te:TE} {g:TG} {u:TS} {D:Ends} {σ:L2.St} {H:Hp} (h:te σ H fun x H1=>g x σ H1 (u D)):qx (Ft te g) u D σ H:=h
theorem Yd {c:TT} {t u:TS} {D:Ends} {σ:L2.St} {H:Hp} (h:c σ H fun b H1=>if b = true then t D σ H1 else u D σ H1):Fw c t u D σ H:=h
theorem NP {r:List V->Hp->VK->Prop} {te:TE} {σ:L2.St} {H:Hp} {Q:VK} (h:te σ H fun x H1=>r [x] H1 Q):tCB r (sE te Bq) σ H Q:=h
theorem QW {r:List V->Hp->VK->Prop} {te:TE} {σ:L2.St} {H:Hp} {Q:Bool->Hp->Prop} (h:te σ H fun x H1=>r [x] H1 fun y H2=>∃ k,Ku y = some k/\Q k H2):Ph (tCB r (sE te Bq)) σ H Q:=h
def jh:Sp:=fun vs H Q _=>∃ x t,vs = [x]/\tyS H x = some t/\Q (.bl (t == "int")) H
theorem zX (F:Fun K fM fM v8 f fd) (T:Txt K mg D):cC P w K mg base CX0 1 f fd fK jh:=by
 refine F.ok Mf (fun vs H Q E h=>?_) (fun cdv A outer s H vs Q E hr h=>?_)
 .obtain ⟨x,t,rfl,_⟩:=h
  rfl
 .obtain ⟨x,t,rfl,ht,q⟩:=h
  refine ⟨_,(bO (cu (Bs (b_ lV (by rfl) T.cG boot_isinstance (bF (pv 0) (bF (mY (v:=.ty "int") (by rfl) T.GF boot_int rfl) bH))) (Hv (O2 (b_ lV (by rfl) T.cG boot_isinstance (bF (pv 0) (bF (mY (v:=.ty "bool") (by rfl) T.W9 boot_bool rfl) bH)))))))),?_⟩
  walk_at "rd"
  rw [ht]
  walk_at "rd"
  have hm:=Us ht
  simp only [List.mem_cons,List.not_mem_nil,or_false] at hm
  rcases hm with rfl | rfl | rfl | rfl | rfl | rfl | rfl <;> simpa using q
def CT:Sp:=fun vs H Q _=>∃ (a b:Int),vs = [.int a,.int b]/\Q (.int (Int.gcd a b:Nat)) H
theorem acv (F:Fun K zy zy Yb f fd) (T:Txt K mg D):cC P w K mg base CX0 1 f fd zx CT:=by
 refine cC.clean (sp:=fun vs H Q _=>∃ (a b:Int),vs = [.int a,.int b]/\∀ H',Same H H'->Q (.int (Int.gcd a b:Nat)) H')
  (F.ok Jd (fun vs H Q E h=>?_) (fun cdv A outer s H vs Q E hr h=>?_)) fun vs H Q E ⟨a,b,h1,h4⟩=>⟨a,b,h1,fun H' S=>⟨S,h4⟩⟩
 .obtain ⟨a,b,rfl,_⟩:=h
  rfl
 .obtain ⟨a,b,rfl,q⟩:=h
  refine ⟨_,(bM (DN (b_ Tc (by rfl) T.XC boot_sorted (bF (lY (bF (b_ uK (by rfl) T.M9 boot_abs (bF (pv 0) bH)) (bF (b_ uK (by rfl) T.M9 boot_abs (bF (pv 1) bH)) bH))) bH)) (Zg (n:=2) rfl (cD (cH (i:=2) Jd.nd rfl (Or.inl rfl)) (cD (cH (i:=3) Jd.nd rfl (Or.inl rfl)) gO))))
   (bM (Cd PassesOwn.never (cQ GR (pv 2) bG (cN _))
    (bO (abN (i:=2) (j:=3) rfl Jd.nd rfl rfl (by decide) rfl rfl (bF (bU mK (pv 3) (pv 2)) (bF (pv 2) bH)) rfl)))
   (bO (cu (pv 3))))),?_⟩
  walk_at "rd"
  refine ⟨d8,fun p hp=>⟨[(a.natAbs:Int),(b.natAbs:Int)],?_,(by simp),fun ms p1 hp1 hm hs=>?_⟩⟩
  .rw [Kh,Kh]; rfl
  have S:Same H (upd (upd H p (HO.lst [V.int (if a < 0 then -a else a),V.int (if b < 0 then -b else b)])) p1 (HO.lst (ms.map V.int))):=(Same.upd hp).trans (Same.upd hp1)
  generalize upd (upd H p (HO.lst [V.int (if a < 0 then -a else a),V.int (if b < 0 then -b else b)])) p1 (HO.lst (ms.map V.int)) = H1 at S
  have hk:∃ l k:Nat,ms = [(l:Int),(k:Int)]/\Nat.gcd l k = Int.gcd a b:=by
   rcases XD hm with rfl | rfl
   .exact ⟨_,_,rfl,rfl⟩
   .exact ⟨_,_,rfl,Nat.gcd_comm _ _⟩
  obtain ⟨l,k,rfl,hg⟩:=hk
  walk_at "rd"
  refine K8 (fun σ H2=>∃ l k:Nat,σ = [some (.int a),some (.int b),some (.int l),some (.int k)]/\H2 = H1/\Nat.gcd l k = Int.gcd a b)
   (fun σ _=>match σ with | [_,_,some (.int l),_]=>l.natAbs | _=>0) ⟨l,k,rfl,rfl,hg⟩ ?_ ?_
  .rintro σ H2 ⟨l,k,rfl,rfl,hg⟩
   walk_at "rd"
   by_cases hl:l = 0
   .subst hl
    simp only [Int.natCast_zero,Int.lt_irrefl,decide_false,Bool.false_eq_true,if_false]
    rw [show k = Int.gcd a b by rw [<- hg,Nat.gcd_zero_left]]
    exact q _ S
   .have hl':(0:Int) < l:=by omega
    rw [if_pos (decide_eq_true hl')]
    refine ⟨by omega,⟨k % l,xH _ _,l,rfl,?_⟩,?_⟩
    .rw [<- Nat.gcd_rec]; exact hg
    .rw [xH]
     show (k % l) < l
     exact Nat.mod_lt _ (by omega)
  .intro σ H2 Q1 Q2 hq
   walk_at "rd"
   rintro ⟨v,h1,i,h2,h3⟩
   exact ⟨v,h1,i,h2,hq _ _ h3⟩
theorem Ju {a b:Int} (h:b ≠ 0):(0:Int) < (Int.gcd a b:Nat):=by
 have:=Int.gcd_pos_of_ne_zero_right a h
 omega
theorem Oe {a b:Int} (h:b ≠ 0) (hb:Bd b):Bd (Int.gcd a b:Nat):=by
 unfold Bd at *
 refine Nat.lt_of_le_of_lt ?_ hb
 rw [Int.natAbs_natCast]
 exact Nat.le_of_dvd (by omega) (Int.gcd_dvd_natAbs_right a b)
def fZ:Sp:=fun vs H Q _=>∃ (a b:Int),vs = [.int a,.int b]/\Q (.int (Int.gcd a b:Nat)) H
def ahn (a b:Int) (H1:Hp) (σ:L2.St) (H:Hp):Prop:=∃ (l k:Nat) (z:Option V),σ = [some (.int a),some (.int b),some (.int l),some (.int k),z]/\H = H1/\Nat.gcd l k = Int.gcd a b
theorem Bu (F:Fun K gR gR zJ f fd) (T:Txt K mg D):cC P w K mg base CX0 1 f fd gM fZ:=by
 refine F.ok mC (fun vs H Q E h=>?_) (fun cdv A outer s H vs Q E hr h=>?_)
 .obtain ⟨a,b,rfl,_⟩:=h
  rfl
 .obtain ⟨a,b,rfl,q⟩:=h
  refine ⟨_,(bM (cA (i:=2) mC.nd rfl (Or.inl rfl) (b_ uK (by rfl) T.M9 boot_abs (bF (pv 0) bH)))
   (bM (cA (i:=3) mC.nd rfl (Or.inl rfl) (b_ uK (by rfl) T.M9 boot_abs (bF (pv 1) bH)))
   (bM (Cd PassesOwn.never (cQ Gq (pv 3) bG (cN _))
    (bM (cA (i:=4) mC.nd rfl (Or.inl rfl) (bU mK (pv 2) (pv 3)))
    (bM (cA (i:=2) mC.nd rfl (Or.inl rfl) (pv 3))
    (bO (cA (i:=3) mC.nd rfl (Or.inl rfl) (pv 4))))))
   (bO (cu (pv 2)))))),?_⟩
  walk_at "rd"
  rw [Kh,Kh]
  refine K8 (ahn a b H) (fun σ _=>match σ with | [_,_,_,some (.int k),_]=>k.natAbs | _=>0) ⟨a.natAbs,b.natAbs,none,rfl,rfl,rfl⟩ ?_ ?_
  .rintro σ H2 ⟨l,k,z,rfl,rfl,hg⟩
   walk_at "rd"
   by_cases hl:k = 0
   .subst hl
    rw [if_neg (by simp)]
    rw [show l = Int.gcd a b by rw [<- hg,Nat.gcd_zero_right]]
    exact q
   .have hl':¬ ((k:Int) = 0):=by omega
    rw [if_pos (by simpa using hl)]
    refine ⟨by omega,⟨k,l % k,some (.int ((l % k:Nat):Int)),?_,rfl,?_⟩,?_⟩
    .rw [xH]
    .rw [Nat.gcd_comm,<- Nat.gcd_rec,Nat.gcd_comm]; exact hg
    .rw [xH]
     show (l % k) < k
     exact Nat.mod_lt _ (by omega)
  .intro σ H2 Q1 Q2 hq
   walk_at "rd"
   rintro ⟨v,h1,h2,h3⟩
   exact ⟨v,h1,h2,hq _ _ h3⟩
structure Low (t b x y:Int):Prop where
 pos:0 < y
 gcd:Int.gcd x y = 1
 eq:x * b = t * y
 lx:x.natAbs <= t.natAbs
 ly:y.natAbs <= b.natAbs
theorem DR {c q:Int} (h:c ≠ 0):Int.fdiv (c * q) c = q:=by
 rw [Int.fdiv_eq_ediv_of_dvd (Int.dvd_mul_right c q),Int.mul_ediv_cancel_left _ h]
theorem DG {c q:Int} (h:c ≠ 0):q.natAbs <= (c * q).natAbs:=by
 rw [Int.natAbs_mul]
 exact Nat.le_mul_of_pos_left _ (by omega)
theorem Xh {t b c:Int} (hb:b ≠ 0) (hc:c ≠ 0) (hg:c.natAbs = Int.gcd t b) (hs:0 < c * b):Low t b (Int.fdiv t c) (Int.fdiv b c):=by
 have d1:c ∣ t:=Int.natAbs_dvd.mp (by rw [hg]; exact Int.gcd_dvd_left t b)
 have d2:c ∣ b:=Int.natAbs_dvd.mp (by rw [hg]; exact Int.gcd_dvd_right t b)
 obtain ⟨x,rfl⟩:=d1
 obtain ⟨y,rfl⟩:=d2
 rw [DR hc,DR hc]
 refine ⟨?_,?_,?_,DG hc,DG hc⟩
 .rw [<- Int.mul_assoc] at hs
  have hp:0 < c * c:=by
   rcases Int.lt_or_lt_of_ne hc with z | z
   .exact Int.mul_pos_of_neg_of_neg z z
   .exact Int.mul_pos z z
  exact Int.pos_of_mul_pos_right hs hp
 .rw [Int.gcd_mul_left] at hg
  have hp:0 < c.natAbs:=by omega
  exact Nat.eq_of_mul_eq_mul_left hp (by rw [Nat.mul_one]; exact hg.symm)
 .rw [Int.mul_left_comm,Int.mul_assoc]
def gU:Sp:=fun vs H Q _=>∃ (t b:Int),vs = [.int t,.int b]/\b ≠ 0/\Bd b/\∀ p x y,Low t b x y->H p = none->Q (.ref p) (upd H p (.tup [.int x,.int y]))
theorem Vd {i:Int} (h:Bd i):Bd (-i):=by unfold Bd at *; rw [Int.natAbs_neg]; exact h
theorem Lr (F:Fun K ji ji Kq f fd) (T:Txt K mg D) (dh:OkF P w K mg base 1 fM fK jh) (dI:OkF P w K mg base 1 gR gM fZ):cC P w K mg base CX0 2 f fd iK gU:=by
 refine F.ok C_ (fun vs H Q E h=>?_) (fun cdv A outer s H vs Q E hr h=>?_)
 .obtain ⟨t,b,rfl,_⟩:=h
  rfl
 .obtain ⟨t,b,rfl,hb,hbd,q⟩:=h
  refine ⟨_,(bM (cY (PW.pt (pw_or (d9 (dz (bQ dh (hr.mono (by decide)) (by rfl) (bF (pv 0) bH)) (fun _=>rfl))) (pw_or1 (d9 (dz (bQ dh (hr.mono (by decide)) (by rfl) (bF (pv 1) bH)) (fun _=>rfl))))))
    (bO o8)
    cB)
   (bM (cY (cQ nR (pv 1) bG (cN _))
    (bO o8)
    cB)
   (bM (cA (i:=2) C_.nd rfl (Or.inl rfl) (bQ dI (hr.mono (by decide)) (by rfl) (bF (pv 0) (bF (pv 1) bH))))
   (bM (cY (cQ zZ (pv 1) bG (cN _))
    (bO (cA (i:=2) C_.nd rfl (Or.inl rfl) (K7 BX (pv 2))))
    cB)
   (bO (cu (j6 (bF (bU lg (pv 0) (pv 2)) (bF (bU lg (pv 1) (pv 2)) bH))))))))),?_⟩
  unfold jh fZ
  walk_at "rd"
  have g0:=Ju (a:=t) hb
  have g1:=Oe (a:=t) hb hbd
  rw [if_neg (by simpa using hb)]
  refine ZW (fun hn=>?_) fun hn=>?_
  .rw [decide_eq_true_eq] at hn
   refine ⟨by omega,Vd g1,by omega,Vd g1,d8,fun p hp=>q p _ _ (Xh hb (by omega) (by omega) ?_) hp⟩
   exact Int.mul_pos_of_neg_of_neg (by omega) hn
  .rw [decide_eq_true_eq] at hn
   refine ⟨by omega,g1,by omega,g1,d8,fun p hp=>q p _ _ (Xh hb (by omega) (by omega) ?_) hp⟩
   exact Int.mul_pos g0 (by omega)
def m9:Sp:=fun vs H Q _=>∃ (p q:Addr) (x y u v:Int),vs = [.ref p,.ref q]/\SqT K H p [.int x,.int y]/\SqT K H q [.int u,.int v]/\Bd x/\Bd y/\Bd u/\Bd v/\Q (.bl (decide (x * v < u * y))) H
theorem KN (F:Fun K m_ m_ JK f fd):cC P w K mg base CX0 1 f fd mZ (m9 (K:=K)):=by
 refine F.ok Vn (fun vs H Q E h=>?_) (fun cdv A outer s H vs Q E hr h=>?_)
 .obtain ⟨p,q,x,y,u,v,rfl,_⟩:=h
  rfl
 .obtain ⟨p,q,x,y,u,v,rfl,hp,hq,bx,b_y,bu,bv,k⟩:=h
  refine ⟨_,(bO (cu (mQ zZ (bU cM (bV cJ (pv 0) bG (fun _ _=>rfl)) (bV cJ (pv 1) bG (fun _ _=>rfl))) (bU cM (bV cJ (pv 1) bG (fun _ _=>rfl)) (bV cJ (pv 0) bG (fun _ _=>rfl))) (cN _)))),?_⟩
  walk_at "rd"
  exact ⟨_,hp,_,dB,_,hq,_,cV,_,rfl,_,rfl,bx,bv,_,hq,_,dB,_,hp,_,cV,_,rfl,_,rfl,bu,b_y,k⟩
def p8 (g:Int->Int->Int):Sp:=fun vs H Q _=>∃ (p q:Addr) (x y u v:Int),vs = [.ref p,.ref q]/\SqT K H p [.int x,.int y]/\SqT K H q [.int u,.int v]/\Bd x/\Bd y/\Bd u/\Bd v/\0 < y/\0 < v/\Bd (y * v) /\
 ∀ r z o,Low (g (x * v) (u * y)) (y * v) z o->H r = none->Q (.ref r) (upd H r (.tup [.int z,.int o]))
theorem QH (F:Fun K rD rD Nt f fd) (eF:OkF P w K mg base 2 ji iK gU):cC P w K mg base CX0 3 f fd rH (p8 (K:=K) fun a b=>a + b):=by
 refine F.ok Yv (fun vs H Q E h=>?_) (fun cdv A outer s H vs Q E hr h=>?_)
 .obtain ⟨p,q,x,y,u,v,rfl,_⟩:=h
  rfl
 .obtain ⟨p,q,x,y,u,v,rfl,hp,hq,bx,b_y,bu,bv,y0,v0,byv,k⟩:=h
  refine ⟨_,(bO (cu (bQ eF (hr.mono (by decide)) (by rfl) (bF (bU cZ (bU cM (bV cJ (pv 0) bG (fun _ _=>rfl)) (bV cJ (pv 1) bG (fun _ _=>rfl))) (bU cM (bV cJ (pv 1) bG (fun _ _=>rfl)) (bV cJ (pv 0) bG (fun _ _=>rfl)))) (bF (bU cM (bV cJ (pv 0) bG (fun _ _=>rfl)) (bV cJ (pv 1) bG (fun _ _=>rfl))) bH))))),?_⟩
  unfold gU
  walk_at "rd"
  exact ⟨_,hp,_,dB,_,hq,_,cV,_,rfl,_,rfl,bx,bv,_,hq,_,dB,_,hp,_,cV,_,rfl,_,rfl,bu,b_y,_,hp,_,cV,_,hq,_,cV,_,rfl,_,rfl,b_y,bv,Int.ne_of_gt (Int.mul_pos y0 v0),byv,fun r z o l hr=>k r z o l hr⟩
theorem W_ (F:Fun K sy sy Jm f fd) (eF:OkF P w K mg base 2 ji iK gU):cC P w K mg base CX0 3 f fd sZ (p8 (K:=K) fun a b=>a - b):=by
 refine F.ok Vo (fun vs H Q E h=>?_) (fun cdv A outer s H vs Q E hr h=>?_)
 .obtain ⟨p,q,x,y,u,v,rfl,_⟩:=h
  rfl
 .obtain ⟨p,q,x,y,u,v,rfl,hp,hq,bx,b_y,bu,bv,y0,v0,byv,k⟩:=h
  refine ⟨_,(bO (cu (bQ eF (hr.mono (by decide)) (by rfl) (bF (bU um (bU cM (bV cJ (pv 0) bG (fun _ _=>rfl)) (bV cJ (pv 1) bG (fun _ _=>rfl))) (bU cM (bV cJ (pv 1) bG (fun _ _=>rfl)) (bV cJ (pv 0) bG (fun _ _=>rfl)))) (bF (bU cM (bV cJ (pv 0) bG (fun _ _=>rfl)) (bV cJ (pv 1) bG (fun _ _=>rfl))) bH))))),?_⟩
  unfold gU
  walk_at "rd"
  exact ⟨_,hp,_,dB,_,hq,_,cV,_,rfl,_,rfl,bx,bv,_,hq,_,dB,_,hp,_,cV,_,rfl,_,rfl,bu,b_y,_,hp,_,cV,_,hq,_,cV,_,rfl,_,rfl,b_y,bv,Int.ne_of_gt (Int.mul_pos y0 v0),byv,fun r z o l hr=>k r z o l hr⟩
def wz (c:Nat):Bool:=decide (c ∈ (Str.ofString "abcdefghijklmnopqrstuvwxyz").cps.toList)
def j9 (l:List Nat):Bool:=decide (1 <= l.length) && decide (l.length <= 8) && l.all wz
theorem ZX (c:Nat):((!decide ([c] < [97])) && !decide ([122] < [c])) = wz c:=by
 have e:(Str.ofString "abcdefghijklmnopqrstuvwxyz").cps.toList = (List.range 26).map (97 + ·):=by decide +kernel
 have m:c ∈ (List.range 26).map (97 + ·) ↔ 97 <= c/\c <= 122:=by
  rw [List.mem_map]
  constructor
  .rintro ⟨i,h,rfl⟩
   have:=List.mem_range.mp h
   exact ⟨Nat.le_add_right ..,by omega⟩
  .exact fun h=>⟨c - 97,List.mem_range.mpr (by omega),by omega⟩
 have h1:([c] < [97]) ↔ c < 97:=by rw [List.cons_lt_cons_iff]; simp
 have h2:([122] < [c]) ↔ 122 < c:=by rw [List.cons_lt_cons_iff]; simp
 unfold wz
 rw [e,decide_eq_decide.mpr m,decide_eq_decide.mpr h1,decide_eq_decide.mpr h2]
 by_cases a:c < 97
 .rw [decide_eq_true a,decide_eq_false (p:=97 <= c/\c <= 122) (by omega)]; rfl
 .by_cases b:122 < c
  .rw [decide_eq_true b,decide_eq_false (p:=97 <= c/\c <= 122) (by omega)]; exact Bool.and_false _
  .rw [decide_eq_false a,decide_eq_false b,decide_eq_true ⟨by omega,by omega⟩]; rfl
def uN:Sp:=fun vs H Q _=>∃ v,vs = [v]/\((∃ x:Str,v = .str x/\x.length <= 1000/\Q (.bl (j9 x.cps.toList)) H)\/∃ t,tyS H v = some t/\t ≠ "str" /\ Q (.bl false) H)
theorem Pj (F:Fun K j7 j7 vm f fd) (T:Txt K mg D):cC P w K mg base CX0 1 f fd jZ uN:=by
 refine cC.clean (sp:=fun vs H Q _=>∃ v,vs = [v]/\((∃ x:Str,v = .str x/\x.length <= 1000/\∀ H',Same H H'->Q (.bl (j9 x.cps.toList)) H')\/∃ t,tyS H v = some t/\t ≠ "str" /\ ∀ H',Same H H'->Q (.bl false) H'))
  (F.ok Oi (fun vs H Q E h=>?_) (fun cdv A outer s H vs Q E hr h=>?_)) fun vs H Q E ⟨v,h1,h2⟩=>⟨v,h1,h2.imp (fun ⟨x,a,b,c⟩=>⟨x,a,b,fun H' S=>⟨S,c⟩⟩) fun ⟨t,a,b,c⟩=>⟨t,a,b,fun H' S=>⟨S,c⟩⟩⟩
 .obtain ⟨v,rfl,_⟩:=h
  rfl
 .obtain ⟨v,rfl,h⟩:=h
  refine ⟨_,(bM (cY (PW.pt (pw_or (d9 (dz (b_ lV (by rfl) T.cG boot_isinstance (bF (pv 0) (bF (mY (v:=.ty "str") (by rfl) T.acU boot_str rfl) bH))) (fun _=>rfl))) (pw_or1 (d9 (Dh Bo Bo bG (b_ Jw (by rfl) T.kI PySem.boot_len (bF (pv 0) bH)) (Ls (by rfl) T.Ei))))))
    (bO (cu iC))
    cB)
   (bO (cu (b_ (zP rfl) (by rfl) T.Xz boot_all (bF (jM (bN vm) zG zG ["sign"] (abw ((pv 0)).mono) (eG (i:=0)) dj (Vg Ux Ux oH (pv 0) oH)) bH))))),?_⟩
  rcases h with ⟨x,rfl,hx,q⟩ | ⟨t,ht,hne,q⟩
  .have hz:x.length <= sizeLine:=aN hx (by decide)
   have hl:x.cps.toList.length = x.length:=Array.length_toList
   have ea:Str.ofString "a" = ⟨#[97]⟩:=by decide +kernel
   have ez:Str.ofString "z" = ⟨#[122]⟩:=by decide +kernel
   walk_at "rd"
   refine ⟨hz,?_⟩
   by_cases h1:1 <= x.length
   .rw [if_pos (decide_eq_true (by omega))]
    by_cases h2:x.length <= 8
    .rw [if_neg (by rw [decide_eq_true (by omega)]; decide)]
     refine K3 wz x (fun R h=>⟨_,rfl,h⟩) hz (fun c Hc R h=>?_) fun L hL=>⟨L,rfl,_,bK,?_⟩
     .simp only [qx,Fw,Tq,V2,tOp,tUn,rU,Qy,Ks,aaL,tSl,FZ,tC,Rr,rI0,rI,Zq,Xf,ZL,sE,Bq,tCB,zF,yE,RB,tOr,Xc,Qw,QS,acr,Ph,Ft,ZP,cU,Zn,QM,Qs,Qx,Uq,Qc,Y_,QZ,Ht,N8,yC,Hl,Te,Ku,rEq,rNe,R8,yK,QX,zK,Py,Ib,H_,V_,Vh,acn,ab7,Ends.unset,aaE,abC,Kc,YX,Rh,aaN,acs,P_,Xr,Vr,aco,tSM,Nm,Ja,BJ,Uv,Z_,Qj,HY,aae,Ba,HN,Rw,XR,rJoin,X4,Xk,tB,Mr,ZK,UG,Ar,Qg,QT,aai,abQ,XF,Ro,Io,V0,Ow,VR,Df,aar,ZM,Ax,V.str.injEq,L2.start,List.replicate_succ,List.replicate_zero,Nat.reduceSub,Nat.reduceAdd,List.map_cons,List.map_nil,List.length_cons,List.length_nil,List.cons_append,List.nil_append,List.append_nil,List.getElem?_cons_zero,List.getElem?_cons_succ,List.set_cons_zero,List.set_cons_succ,List.set_nil,Option.some.injEq,exists_eq_left',exists_eq_left,exists_and_left,exists_and_right,exists_eq_right,exists_eq,exists_eq',and_assoc,V.int.injEq,V.ref.injEq,V.bl.injEq,V.ty.injEq,List.cons.injEq,HO.tup.injEq,HO.lst.injEq,and_true,true_and,reduceCtorEq,dB,cV,bK,decide_true,decide_false,Bool.not_true,Bool.not_false,if_true,if_false,ite_true,ite_false,Bool.false_eq_true,List.mem_cons,String.reduceEq,or_true,true_or,or_false,false_or,beq_self_eq_true,Bool.or_true,Bool.true_or,Bool.or_false,Bool.false_or,Bool.and_true,Bool.and_false,Bool.true_and,Bool.false_and,String.reduceBEq,Int.reduceToNat,Int.reducePow,Int.reduceMul,Int.reduceSub,Int.reduceAdd,Int.reduceNeg,Int.reduceLE,Int.reduceLT,Int.reduceEq,ne_eq,not_false_eq_true,not_true_eq_false,Int.cast_ofNat_Int,ea,ez]
      have:=ZX c
      rw [<- this] at h
      cases hd:(!decide ([c] < [97])) with
      | false=>rw [hd] at h; exact h
      | true=>rw [hd] at h; exact h
     .have ew:j9 x.cps.toList = (x.cps.toList.map wz).all id:=by
       unfold j9
       rw [hl,decide_eq_true h1,decide_eq_true h2,List.all_map]; rfl
      rw [<- ew]
      exact q _ (Same.upd hL)
    .rw [if_pos (by rw [decide_eq_false (by omega)]; rfl)]
     have ew:j9 x.cps.toList = false:=by
      unfold j9
      rw [hl,decide_eq_false h2,Bool.and_false]; rfl
     rw [ew] at q
     exact q _ (Same.refl _)
   .rw [if_neg (by rw [decide_eq_true_eq]; omega)]
    have ew:j9 x.cps.toList = false:=by
     unfold j9
     rw [hl,decide_eq_false h1]; rfl
    rw [ew] at q
    exact q _ (Same.refl _)
  .simp only [qx,Fw,Tq,V2,tOp,tUn,rU,Qy,Ks,aaL,tSl,FZ,tC,Rr,rI0,rI,Zq,Xf,ZL,sE,Bq,tCB,zF,yE,RB,tOr,Xc,Qw,QS,acr,Ph,Ft,ZP,cU,Zn,QM,Qs,Qx,Uq,Qc,Y_,QZ,Ht,N8,yC,Hl,Te,Ku,rEq,rNe,R8,yK,QX,zK,Py,Ib,H_,V_,Vh,acn,ab7,Ends.unset,aaE,abC,Kc,YX,Rh,aaN,acs,P_,Xr,Vr,aco,tSM,Nm,Ja,BJ,Uv,Z_,Qj,HY,aae,Ba,HN,Rw,XR,rJoin,X4,Xk,tB,Mr,ZK,UG,Ar,Qg,QT,aai,abQ,XF,Ro,Io,V0,Ow,VR,Df,aar,ZM,Ax,V.str.injEq,L2.start,List.replicate_succ,List.replicate_zero,Nat.reduceSub,Nat.reduceAdd,List.map_cons,List.map_nil,List.length_cons,List.length_nil,List.cons_append,List.nil_append,List.append_nil,List.getElem?_cons_zero,List.getElem?_cons_succ,List.set_cons_zero,List.set_cons_succ,List.set_nil,Option.some.injEq,exists_eq_left',exists_eq_left,exists_and_left,exists_and_right,exists_eq_right,exists_eq,exists_eq',and_assoc,V.int.injEq,V.ref.injEq,V.bl.injEq,V.ty.injEq,List.cons.injEq,HO.tup.injEq,HO.lst.injEq,and_true,true_and,reduceCtorEq,dB,cV,bK,decide_true,decide_false,Bool.not_true,Bool.not_false,if_true,if_false,ite_true,ite_false,Bool.false_eq_true,List.mem_cons,String.reduceEq,or_true,true_or,or_false,false_or,beq_self_eq_true,Bool.or_true,Bool.true_or,Bool.or_false,Bool.false_or,Bool.and_true,Bool.and_false,Bool.true_and,Bool.false_and,String.reduceBEq,Int.reduceToNat,Int.reducePow,Int.reduceMul,Int.reduceSub,Int.reduceAdd,Int.reduceNeg,Int.reduceLE,Int.reduceLT,Int.reduceEq,ne_eq,not_false_eq_true,not_true_eq_false,Int.cast_ofNat_Int,ht]
   rw [beq_eq_false_iff_ne.mpr hne]
   exact q _ (Same.refl _)
structure Fk (K:Frag) (H:Hp) (p:Addr) (x y:Int):Prop where
 at_:SqT K H p [.int x,.int y]
 pos:0 < y
 gcd:Int.gcd x y = 1
theorem Fk.same {K:Frag} {H H':Hp} {p:Addr} {x y:Int} (h:Fk K H p x y) (S:Same H H'):Fk K H' p x y:=⟨S.tup h.at_,h.pos,h.gcd⟩
def gK:Sp:=fun vs H Q _=>∃ p x y,vs = [.ref p]/\Fk K H p x y/\Q (.bl true) H
theorem Le (F:Fun K iG iG wu f fd) (T:Txt K mg D) (dh:OkF P w K mg base 1 fM fK jh) (dI:OkF P w K mg base 1 gR gM fZ):cC P w K mg base CX0 2 f fd iR (gK (K:=K)):=by
 refine F.ok uw (fun vs H Q E h=>?_) (fun cdv A outer s H vs Q E hr h=>?_)
 .obtain ⟨p,x,y,rfl,_⟩:=h
  rfl
 .obtain ⟨p,x,y,rfl,hf,q⟩:=h
  have hp:=hf.at_
  refine ⟨_,(bM (cY (PW.pt (pw_or (d9 (dz (b_ (lV.or pH) (by rfl) T.cG boot_isinstance (bF (pv 0) (bF (mY (v:=.ty "tuple") (by rfl) T.Qz boot_tuple rfl) bH))) (fun _=>rfl))) (pw_or1 (cQ Gq (b_ Gv (by rfl) T.kI PySem.boot_len (bF (pv 0) bH)) bG (cN _)))))
    (bO (cu iC))
    cB)
   (bM (cA (i:=1) uw.nd rfl (Or.inl rfl) (bV cJ (pv 0) bG (fun _ _=>rfl)))
   (bM (cA (i:=2) uw.nd rfl (Or.inl rfl) (bV cJ (pv 0) bG (fun _ _=>rfl)))
   (bM (cY (PW.pt (pw_or (d9 (dz (bQ dh (hr.mono (by decide)) (by rfl) (bF (pv 1) bH)) (fun _=>rfl))) (pw_or1 (d9 (dz (bQ dh (hr.mono (by decide)) (by rfl) (bF (pv 2) bH)) (fun _=>rfl))))))
    (bO (cu iC))
    cB)
   (bO (cu (Bs (mQ aa5 (pv 2) bG (cN _)) (Hv (mQ nR (bQ dI (hr.mono (by decide)) (by rfl) (bF (pv 1) (bF (pv 2) bH))) bG (cN _)))))))))),?_⟩
  unfold jh fZ
  walk_at "rd"
  refine .inr ⟨⟨_,hp⟩,_,hp,?_⟩
  rw [if_neg (by simp)]
  refine ⟨_,hp,_,dB,_,hp,_,cV,_,yC,?_⟩
  rw [if_neg (by decide)]
  refine ⟨_,yC,?_⟩
  rw [if_neg (by decide)]
  have hy:=hf.pos
  refine ⟨y,rfl,?_⟩
  rw [if_pos (decide_eq_true (by omega))]
  refine ⟨x,rfl,y,rfl,?_⟩
  rw [hf.gcd]
  exact q
def g_:Sp:=fun vs H Q _=>∃ (n:Str) (p:Addr) (x y:Int),vs = [.str n,.ref p]/\n.length <= 1000/\j9 n.cps.toList = true/\Fk K H p x y/\Q .non H
theorem Fj (F:Fun K iw iw rK f fd) (T:Txt K mg D) (jw:OkF P w K mg base 1 j7 jZ uN) (gQ:OkF P w K mg base 2 iG iR (gK (K:=K))):cC P w K mg base (CXO P w) 3 f fd gZ (g_ (K:=K)):=by
 refine F.okX Fd (fun vs H Q E h=>?_) (fun cdv A outer s H vs Q E hr h=>?_)
 .obtain ⟨n,p,x,y,rfl,_⟩:=h
  rfl
 .obtain ⟨n,p,x,y,rfl,hn,hw,hf,q⟩:=h
  refine ⟨_,(bM (cY (d9 (dz (bQ jw (hr.mono (by decide)) (by rfl) (bF (pv 0) bH)) (fun _=>rfl)))
    (bO (qu rfl (by rfl) T.Dz T.Lx qz (bF oH bH)))
    cB)
   (bO (cY (d9 (dz (bQ gQ (hr.mono (by decide)) (by rfl) (bF (pv 1) bH)) (fun _=>rfl)))
    (bO (qu rfl (by rfl) T.wF T.CP qz (bF oH bH)))
    cB))),?_⟩
  unfold uN gK
  walk_at "rd"
  rw [hw]
  exact .inl ⟨hn,⟨x,y,hf⟩,q⟩
def jy (D:Adr):Sp:=fun vs H Q _=>∃ (s dx C:Addr) (n:Str) (p:Addr) (x y:Int),vs = [.ref s,.str n,.ref p]/\H s = some (.ins C dx [])/\Fam D C/\n.length <= 1000/\j9 n.cps.toList = true/\Fk K H p x y /\
 ∀ l,upd H s (.ins C dx [("name",.str n),("pay",.ref p)]) l = none->Q .non (upd (upd H l (.lst [])) s (.ins C dx [("name",.str n),("pay",.ref p),("leads",.ref l)]))
theorem J2 (F:Fun K xR yD uP f fd) (T:Txt K mg D) (ig:OkX P w K mg base 3 iw gZ (g_ (K:=K))):cC P w K mg base (CXO P w) 4 f fd jm (jy (K:=K) D):=by
 refine F.okX Im (fun vs H Q E h=>?_) (fun cdv A outer s H vs Q E hr h=>?_)
 .obtain ⟨s,dx,C,n,p,x,y,rfl,_⟩:=h
  rfl
 .obtain ⟨o,dx,C,n,p,x,y,rfl,ho,hC,hn,hw,hf,q⟩:=h
  refine ⟨_,(bM (dD (gG ig (hr.mono (by decide)) (by rfl) gq (bF (pv 1) (bF (pv 2) bH))))
   (bM (sS (pv 0) (pv 1) rfl)
   (bM (sS (pv 0) (pv 2) rfl)
   (bO (sS (pv 0) (lY bH) rfl))))),?_⟩
  unfold g_
  walk_at "rd"
  have cl:=T.cl C hC
  refine ⟨hn,hw,⟨x,y,hf⟩,C,dx,[],ho,cl,T.Bf C hC,(by decide),C,dx,_,rfl,cl,T.Wh C hC,(by show 1 < 1000; decide),bA _,fun l hl=>?_⟩
  rw [uW] at hl ⊢
  have ne:o ≠ l:=bI bK hl
  refine ⟨C,dx,_,(bL ne).trans bK,cl,T.CJ C hC,(by show 2 < 1000; decide),?_⟩
  have e:upd (upd (upd H o (.ins C dx (lC "pay" (.ref p) (lC "name" (.str n) [])))) l (.lst [])) o (.ins C dx (lC "leads" (.ref l) (lC "pay" (.ref p) (lC "name" (.str n) [])))) = upd (upd H l (.lst [])) o (.ins C dx [("name",.str n),("pay",.ref p),("leads",.ref l)]):=by
   funext b
   by_cases h1:b = o
   .subst h1; rw [bK,bK]; rfl
   .rw [bL h1,bL h1]
    by_cases h2:b = l
    .subst h2; rw [bK,bK]
    .rw [bL h2,bL h2,bL h1]
  rw [e]
  exact q l hl
def ju:Sp:=fun vs H Q _=>∃ n:Str,vs = [.str n]/\n.length <= 1000/\j9 n.cps.toList = true/\Q .non H
theorem vX (F:Fun K dX dX kZ f fd) (T:Txt K mg D) (jw:OkF P w K mg base 1 j7 jZ uN):cC P w K mg base (CXO P w) 2 f fd dY ju:=by
 refine F.okX wD (fun vs H Q E h=>?_) (fun cdv A outer s H vs Q E hr h=>?_)
 .obtain ⟨n,rfl,_⟩:=h
  rfl
 .obtain ⟨n,rfl,hn,hw,q⟩:=h
  refine ⟨_,(bO (cY (d9 (dz (bQ jw (hr.mono (by decide)) (by rfl) (bF (pv 0) bH)) (fun _=>rfl)))
    (bO (qu rfl (by rfl) T.Dz T.Lx qz (bF oH bH)))
    cB)),?_⟩
  unfold uN
  walk_at "rd"
  rw [hw]
  exact .inl ⟨hn,q⟩
structure Ck (K:Frag) (H:Hp) (p:Addr) (x y:Int):Prop where
 fk:Fk K H p x y
 lo:0 <= x
 hi:x <= y
 by_:Bd y
def oE:Sp:=fun vs H Q _=>∃ p x y,vs = [.ref p]/\Ck K H p x y/\Q .non H
theorem Am (F:Fun K fB fB pq f fd) (T:Txt K mg D) (gQ:OkF P w K mg base 2 iG iR (gK (K:=K))) (jY:OkF P w K mg base 1 m_ mZ (m9 (K:=K))):cC P w K mg base (CXO P w) 3 f fd fH (oE (K:=K)):=by
 refine F.okX Ad (fun vs H Q E h=>?_) (fun cdv A outer s H vs Q E hr h=>?_)
 .obtain ⟨p,x,y,rfl,_⟩:=h
  rfl
 .obtain ⟨p,x,y,rfl,hc,q⟩:=h
  refine ⟨_,(bO (cY (PW.pt (pw_or (d9 (dz (bQ gQ (hr.mono (by decide)) (by rfl) (bF (pv 0) bH)) (fun _=>rfl))) (pw_or (dz (bQ jY (hr.mono (by decide)) (by rfl) (bF (pv 0) (bF (iY (by rfl) T.qj) bH))) (fun _=>rfl)) (pw_or1 (dz (bQ jY (hr.mono (by decide)) (by rfl) (bF (iY (by rfl) T.Ml) (bF (pv 0) bH))) (fun _=>rfl))))))
    (bO (qu rfl (by rfl) T.wj T.B_ qz (bF oH bH)))
    cB)),?_⟩
  unfold gK m9
  walk_at "rd"
  have hy:=hc.fk.pos
  have lo:=hc.lo
  have hi:=hc.hi
  have by_:=hc.by_
  have bx:Bd x:=Nat.lt_of_le_of_lt (by omega:x.natAbs <= y.natAbs) by_
  have b0:Bd 0:=Nat.two_pow_pos 8000
  have b1:Bd 1:=Nat.one_lt_two_pow (by decide)
  refine ⟨⟨x,y,hc.fk⟩,x,y,hc.fk.at_,0,1,T.oF H,bx,by_,b0,b1,?_⟩
  rw [if_neg (by simp; omega)]
  refine ⟨1,1,T.Ci H,x,y,hc.fk.at_,b1,b1,bx,by_,?_⟩
  rw [if_neg (by simp; omega)]
  exact q
def q_ (D:Adr):Sp:=fun vs H Q _=>∃ (s dx:Addr) (n m:Str) (p:Addr) (x y:Int),vs = [.ref s,.str n,.ref p,.str m]/\H s = some (.ins D.Sure dx [])/\n.length <= 1000/\j9 n.cps.toList = true/\m.length <= 1000/\j9 m.cps.toList = true/\Fk K H p x y /\
 ∀ t l H',H l = none->(∀ b o,b ≠ s->H b = some o->H' b = some o)->H' t = some (.tup [.str m,.ref D.ONE])->H' l = some (.lst [.ref t])->H' s = some (.ins D.Sure dx [("name",.str n),("pay",.ref p),("leads",.ref l)])->Q .non H'
theorem Jz (F:Fun K yP wV sH f fd) (T:Txt K mg D) (jt:OkI P w K mg base (CXO P w) 4 D.Door_init jm (jy (K:=K) D)) (j5:OkX P w K mg base 2 dX dY ju):cC P w K mg base (CXO P w) 5 f fd lF (q_ (K:=K) D):=by
 refine F.okX JB (fun vs H Q E h=>?_) (fun cdv A outer s H vs Q E hr h=>?_)
 .obtain ⟨s,dx,n,m,p,x,y,rfl,_⟩:=h
  rfl
 .obtain ⟨o,dx,n,m,p,x,y,rfl,ho,hn,hw,hm,hv,hf,q⟩:=h
  refine ⟨_,(bM (dD (yM T.wZ jt (hr.mono (by decide)) (by rfl) T.X3 gq (bF (pv 0) (bF (pv 1) (bF (pv 2) bH)))))
   (bM (dD (gG j5 (hr.mono (by decide)) (by rfl) gq (bF (pv 3) bH)))
   (bO (sS (pv 0) (lY (bF (j6 (bF (pv 3) (bF (iY (by rfl) T.Ml) bH))) bH)) rfl)))),?_⟩
  unfold jy ju
  walk_at "rd"
  refine ⟨dx,D.Sure,ho,(by simp [Fam]),hn,hw,⟨x,y,hf⟩,fun l hl=>⟨hm,hv,(by decide),fun t ht=>⟨(by decide),fun r hq=>?_⟩⟩⟩
  have ol:o ≠ l:=bI bK hl
  have ot:o ≠ t:=bI bK ht
  have lt:l ≠ t:=bI ((bL ol.symm).trans bK) ht
  have tr:t ≠ r:=bI bK hq
  have or_:o ≠ r:=bI ((bL ot).trans bK) hq
  refine ⟨D.Sure,dx,_,(bL or_).trans ((bL ot).trans bK),T.Kv,T.vN,(by show 3 < 1000; decide),?_⟩
  rw [bL ol.symm] at hl
  rw [bL ot.symm,bL lt.symm] at ht
  rw [bL tr.symm,bL or_.symm] at hq
  refine q t r _ ?_ (fun b u hb hu=>?_) ?_ ?_ bK
  .cases z:H r with
   | none=>rfl
   | some o' =>
    have bl:r ≠ l:=bI z hl
    rw [bL bl,z] at hq
    cases hq
  .have bl:b ≠ l:=bI hu hl
   have bt:b ≠ t:=bI hu ht
   have br:b ≠ r:=by
    intro e; subst e; rw [bL bl,hu] at hq; cases hq
   rw [bL hb,bL br,bL bt,bL hb,bL bl]; exact hu
  .rw [bL ot.symm,bL tr]; exact bK
  .rw [bL or_.symm]; exact bK
theorem Bd.sm {i:Int} (h:i.natAbs < 18446744073709551616):Bd i:=aV h (aN (by decide:18446744073709551616 <= 2 ^ 64) (Nat.pow_le_pow_right (by decide) (by decide)))
def h_:Sp:=fun vs H Q _=>∃ (c:Int) (n:Nat),vs = [.int c,.int n]/\n <= 100/\∀ (l:Addr) (xs:List Int) H',Same H H'->H l = none->H' l = some (.lst (xs.map V.int))->xs.length = n->(∀ x ∈ xs,0 <= x/\x < 2000000000)->Q (.ref l) H'
def jS (c:Int) (n:Nat) (p:Addr) (H:Hp) (k:Nat) (σ:L2.St) (H':Hp):Prop:=∃ (xs:List Int) (m d:Int) (v:Option V),σ = [some (.int c),some (.int n),some (.ref p),some (.int m),some (.int d),v]/\(0 <= m/\m < 1999999973)/\0 <= d/\xs.length = k/\(∀ x ∈ xs,0 <= x/\x < 2000000000)/\Same H H'/\H' p = some (.lst (xs.map V.int))
theorem RQ (F:Fun K iB iB Cv f fd) (T:Txt K mg D):cC P w K mg base CX0 1 f fd gY h_:=by
 refine F.ok j_ (fun vs H Q E h=>?_) (fun cdv A outer s H vs Q E hr h=>?_)
 .obtain ⟨c,n,rfl,_⟩:=h
  rfl
 .obtain ⟨c,n,rfl,hn,q⟩:=h
  refine ⟨_,(bM (cA (i:=2) j_.nd rfl (Or.inl rfl) (lY bH))
   (bM (cA (i:=3) j_.nd rfl (Or.inl rfl) (bU cR (bU O9 (bU cZ (bU cR (pv 0) bG) bG) bG) bG))
   (bM (cA (i:=4) j_.nd rfl (Or.inl rfl) bG)
   (bM (cY (PW.pt (pw_or (cQ zZ (pv 0) bG (cN _)) (pw_or1 (cQ aa5 (pv 0) (bU IW bG bG) (cN _)))))
    (bO (cA (i:=4) j_.nd rfl (Or.inl rfl) (b_ uK (by rfl) T.M9 boot_abs (bF (pv 0) bH))))
    cB)
   (bM (iV PassesOwn.never rfl (jo (by rfl) T.nZ (bF (pv 1) bH).mono) (cH (i:=5) j_.nd rfl (Or.inl rfl))
    (bM (cA (i:=3) j_.nd rfl (Or.inl rfl) (bU cR (bU cZ (bU cZ (bU cM (pv 3) (bU cZ (bU cR (pv 3) bG) bG)) (bU cM bG (pv 5))) bG) bG))
    (bM (dD (sU (pv 2) (bF (bV bY (lY (bF (pv 3) (bF (bU cR (pv 4) bG) bH))) (oG uU (by rfl) T.GF boot_int (bF (mQ GR (pv 4) bG (cN _)) bH)) (fun _ _=>rfl)) bH)))
    (bO (cA (i:=4) j_.nd rfl (Or.inl rfl) (bU lg (pv 4) bG))))))
   (bO (cu (pv 2)))))))),?_⟩
  refine GK fun R0 hR0=>?_
  walk_at "rd"
  refine ⟨bA _,fun p hp=>⟨.inr (by constructor <;> decide),?_⟩⟩
  have m0:0 <= (c % 1999999973 + 31) * 765432101 % 1999999973/\(c % 1999999973 + 31) * 765432101 % 1999999973 < 1999999973:=⟨Int.emod_nonneg _ (by decide),Int.emod_lt_of_pos _ (by decide)⟩
  generalize (c % 1999999973 + 31) * 765432101 % 1999999973 = m at m0 ⊢
  have a0:0 <= (if c < 0 then -c else c):=by split <;> omega
  subst hR0
  refine cj fun R hR=>?_
  have loop:∀ d0:Int,0 <= d0->R { nx:=fun _ H'=>Q .non H',rt:=Q } [some (.int c),some (.int n),some (.ref p),some (.int m),some (.int d0),none] (upd H p (.lst [])):=by
   intro d0 a0
   subst hR
   have go:∀ d:Int,0 <= d->jS c n p H 0 [some (.int c),some (.int n),some (.ref p),some (.int m),some (.int d),none] (upd H p (.lst [])):=fun d hd=>⟨[],m,d,none,rfl,m0,hd,rfl,(by simp),Same.upd hp,bK⟩
   have fin:∀ (σ':L2.St) (H':Hp),jS c n p H n σ' H'->∃ v,σ'[2]? = some (some v)/\Q v H':=by
    rintro σ' H' ⟨xs,m,d,v,rfl,_,_,h1,h2,h3,h4⟩
    exact ⟨_,rfl,q p xs H' h3 hp h4 h1 h2⟩
   refine qt ?_
   walk_at "rd"
   refine ⟨n,rfl,Nat.lt_of_le_of_lt hn (by decide),jS c n p H,go _ a0,?_,fin⟩
   rintro k σ' H' hk ⟨xs,m,d,v,rfl,hm,hd,h1,h2,h3,h4⟩
   walk_at "rd"
   have b1:Bd m:=Bd.sm (by omega)
   have b2:Bd (m % 65521 + 40487):=Bd.sm (by omega)
   have b3:Bd (k:Int):=Bd.sm (by omega)
   have nx:0 <= (m * (m % 65521 + 40487) + 7 * k + 5) % 1999999973/\(m * (m % 65521 + 40487) + 7 * k + 5) % 1999999973 < 1999999973:=⟨Int.emod_nonneg _ (by decide),Int.emod_lt_of_pos _ (by decide)⟩
   generalize (m * (m % 65521 + 40487) + 7 * (k:Int) + 5) % 1999999973 = z at nx ⊢
   refine ⟨b1,b2,Bd.sm (by decide),b3,⟨_,h4⟩,(by decide),fun r hq=>.inr ?_⟩
   have pr:p ≠ r:=bI h4 hq
   have dd:0 <= d.fdiv 1000000:=by rw [Int.fdiv_eq_ediv_of_nonneg _ (by decide)]; omega
   have fin:∀ x:Int,0 <= x/\x < 2000000000->jS c n p H (k + 1) [some (.int c),some (.int n),some (.ref p),some (.int z),some (.int (d.fdiv 1000000)),some (.int k)] (upd (upd H' r (.lst [.int z,.int (d % 1000000)])) p (.lst (xs.map V.int ++ [.int x]))):=by
    intro x hx
    refine ⟨xs ++ [x],z,_,_,rfl,nx,dd,by simp [h1],?_,?_,?_⟩
    .intro y hy
     rcases List.mem_append.mp hy with hy | hy
     .exact h2 y hy
     .rw [List.mem_singleton.mp hy]; exact hx
    .intro b o hb
     have bp:b ≠ p:=bI hb hp
     have br:b ≠ r:=bI (h3 b o hb) hq
     rw [bL bp,bL br]; exact h3 b o hb
    .rw [bC]; exact bK
   by_cases h0:0 < d
   .rw [if_pos (decide_eq_true h0)]
    exact ⟨_,cV,_,(bL pr).trans h4,by rw [ao,h1]; exact aV hk (aN hn (by decide)),Bd.sm (by decide),fin _ (by omega)⟩
   .rw [if_neg (by simp; omega)]
    exact ⟨_,dB,_,(bL pr).trans h4,by rw [ao,h1]; exact aV hk (aN hn (by decide)),Bd.sm (by decide),fin _ (by omega)⟩
  clear hR
  walk_at "rd"
  refine ZW (fun _=>loop _ a0) fun _=>⟨abI (by decide) (by decide),ZW (fun _=>loop _ a0) fun _=>loop 0 (by decide)⟩
def acy (H:Hp) (D:Adr) (s:Addr) (n:Str) (p l:Addr):Prop:=∃ C dx,Fam D C/\H s = some (.ins C dx [("name",.str n),("pay",.ref p),("leads",.ref l)])
def ou (D:Adr):Sp:=fun vs H Q _=>∃ (s:Addr) (n:Str) (p l:Addr) (xs:List V),vs = [.ref s]/\acy H D s n p l/\H l = some (.lst xs)/\xs.length <= 100/\∀ r,H r = none->Q (.ref r) (upd H r (.lst xs))
theorem Ij (F:Fun K w5 xK tV f fd) (T:Txt K mg D):cC P w K mg base CX0 1 f fd kh (ou D):=by
 refine F.ok J_ (fun vs H Q E h=>?_) (fun cdv A outer s H vs Q E hr h=>?_)
 .obtain ⟨s,n,p,l,xs,rfl,_⟩:=h
  rfl
 .obtain ⟨o,n,p,l,xs,rfl,⟨C,dx,hC,ho⟩,hl,hz,q⟩:=h
  refine ⟨_,(bO (cu (oG Ea (by rfl) T.JW boot_list (bF (qI (pv 0) rfl) bH)))),?_⟩
  walk_at "rd"
  exact ⟨C,dx,_,ho,T.cl C hC,T.CJ C hC,_,rfl,l,rfl,xs,hl,q⟩
structure Tg (H:Hp) (xs:List V) (ws:List (Str × Addr)):Prop where
 len:xs.length = ws.length
 at_:∀ (k:Nat) (g:Str × Addr),ws[k]? = some g->∃ t,xs[k]? = some (.ref t)/\H t = some (.tup [.str g.1,.ref g.2])
theorem Tg.same {H H':Hp} {xs:List V} {ws:List (Str × Addr)} (h:Tg H xs ws) (S:Same H H'):Tg H' xs ws:=⟨h.len,fun k g e=>let ⟨t,a,b⟩:=h.at_ k g e; ⟨t,a,S _ _ b⟩⟩
def cell (ns:List Int) (k:Int):Int:=ns.getD k.toNat 0
def xP (K:Frag) (a:Addr) (ns:List Int):Sp:=fun vs H Q _=>∃ (k:Int),vs = [.ref a,.int k]/\SqL K H a (ns.map V.int)/\ns.length <= 63/\0 <= k/\Q (.int (cell ns k)) H
theorem aaK (F:Fun K u_ u_ Pa f fd) (a:Addr) (ns:List Int):cC P w K mg base CX0 1 f fd vf (xP K a ns):=by
 refine cC.clean (sp:=fun vs H Q _=>∃ (k:Int),vs = [.ref a,.int k]/\SqL K H a (ns.map V.int)/\ns.length <= 63/\0 <= k/\∀ H',Same H H'->Q (.int (cell ns k)) H')
  (F.ok aaw (fun vs H Q E h=>?_) (fun cdv A outer s H vs Q E hr h=>?_)) fun vs H Q E ⟨k,h1,h2,h3,h4,h5⟩=>⟨k,h1,h2,h3,h4,fun H' S=>⟨S,h5⟩⟩
 .obtain ⟨k,rfl,_⟩:=h
  rfl
 .obtain ⟨k,rfl,hs,hl,hk,q⟩:=h
  refine ⟨_,(bO (cu (bV bY (bU Px (nj Bc (pv 0) (jB (pv 1)) (jB (bU cZ (pv 1) bG))) (lY (bF bG bH))) bG (fun _ _=>rfl)))),?_⟩
  walk_at "rd"
  refine ⟨_,hs,fun p hp=>⟨QV,fun p1 hp1=>?_⟩⟩
  have n1:p ≠ p1:=bI bK hp1
  refine ⟨_,(bL n1).trans bK,?_,fun p2 hp2=>⟨_,?_,q _ ?_⟩⟩
  .refine abo ?_
   have:=zV (ns.map V.int) (some k) (some (k + 1))
   rw [ao] at this
   omega
  .have:=Z1 ns k.toNat
   rw [Int.toNat_of_nonneg hk] at this
   exact this
  .exact ((Same.upd hp).trans (Same.upd hp1)).trans (Same.upd hp2)
structure Fq (f:Int × Int):Prop where
 pos:0 < f.2
 gcd:Int.gcd f.1 f.2 = 1
 sa:f.1.natAbs <= 10 ^ 40
 sb:f.2.natAbs <= 10 ^ 40
theorem Fq.ba {f:Int × Int} (h:Fq f):Bd f.1:=Nat.lt_of_le_of_lt h.sa (by decide +kernel)
theorem Fq.bb {f:Int × Int} (h:Fq f):Bd f.2:=Nat.lt_of_le_of_lt h.sb (by decide +kernel)
def TF (fs:List (Int × Int)):List Nat:=fs.map fun f=>f.2.natAbs
def lvB (fs:List (Int × Int)):Nat:=Lv.Ry (TF fs)
def lvT (fs:List (Int × Int)):List Int:=fs.map fun f=>f.1 * ((lvB fs:Nat) / f.2)
theorem xW {B:Nat} : ∀ (bs:List Nat) (a:Nat),0 < a->(∀ b ∈ bs,0 < b/\b <= B)->bs.foldl Nat.lcm a <= a * B ^ bs.length
  | [],a,_,_=>by simp
  | b :: bs,a,ha,hb=>by
    have h1:=hb b aP
    have h2:=xW bs (Nat.lcm a b) (Nat.lcm_pos ha h1.1) fun c hc=>hb c (aJ _ hc)
    rw [List.foldl_cons,List.length_cons,Nat.pow_succ]
    refine aN h2 ?_
    have h3:Nat.lcm a b <= a * B:=aN (Nat.le_of_dvd (Nat.mul_pos ha h1.1) (Nat.lcm_dvd_mul a b)) (Nat.mul_le_mul_left a h1.2)
    calc Nat.lcm a b * B ^ bs.length <= a * B * B ^ bs.length:=Nat.mul_le_mul_right _ h3
      _ = a * (B ^ bs.length * B):=by rw [Nat.mul_assoc,Nat.mul_comm B]
theorem Xu {fs:List (Int × Int)} (h:∀ f ∈ fs,Fq f):∀ b ∈ TF fs,0 < b:=fun b hb=>by
 obtain ⟨f,hf,rfl⟩:=List.mem_map.mp hb
 have:=(h f hf).pos
 omega
theorem Bg {fs:List (Int × Int)} (h:∀ f ∈ fs,Fq f):0 < lvB fs:=Lv.Lb (Xu h)
theorem Xy {fs:List (Int × Int)} (h:∀ f ∈ fs,Fq f) (hz:fs.length <= 41):lvB fs <= (10 ^ 40) ^ 41:=by
 have h1:=xW (B:=10 ^ 40) (TF fs) 1 (by decide) fun b hb=>by
  obtain ⟨f,hf,rfl⟩:=List.mem_map.mp hb
  have:=(h f hf).pos
  exact ⟨by omega,(h f hf).sb⟩
 rw [Nat.one_mul] at h1
 refine aN h1 (Nat.pow_le_pow_right (by decide) ?_)
 unfold TF
 rw [ao]
 exact hz
theorem U_ {fs:List (Int × Int)} (h:∀ f ∈ fs,Fq f) (hz:fs.length <= 41):Bd (lvB fs:Nat):=by
 unfold Bd
 rw [Int.natAbs_natCast]
 exact Nat.lt_of_le_of_lt (Xy h hz) (by decide +kernel)
theorem cF {α:Type} {l:List α} {k:Nat} {x:α} (h:l[k]? = some x):l.take (k + 1) = l.take k ++ [x]:=by
 rw [List.take_succ,h]; rfl
theorem V1 {fs:List (Int × Int)} {k:Nat} {f:Int × Int} (h:fs[k]? = some f):lvB (fs.take (k + 1)) = Nat.lcm (lvB (fs.take k)) f.2.natAbs:=by
 unfold lvB Lv.Ry TF
 rw [cF h,bC,List.foldl_append]; rfl
theorem ZG {n:Nat} {b:Int} (hb:0 < b) (hn:0 < n):Int.fdiv (n:Int) (Int.gcd (n:Int) b:Nat) * b = (Nat.lcm n b.natAbs:Nat):=by
 obtain ⟨m,rfl⟩ : ∃ m:Nat,b = m:=⟨b.toNat,by omega⟩
 have hg:0 < Nat.gcd n m:=Nat.gcd_pos_of_pos_left m hn
 rw [show Int.gcd (n:Int) (m:Int) = Nat.gcd n m from rfl,Int.natAbs_natCast,qd _ (by omega),<- Int.natCast_ediv,<- Int.natCast_mul]
 congr 1
 unfold Nat.lcm
 exact Nat.div_mul_right_comm (Nat.gcd_dvd_left n m) m
theorem Qp {fs:List (Int × Int)} {f:Int × Int} (hf:f ∈ fs) (hq:Fq f):f.2 ∣ (lvB fs:Nat):=by
 have h1:f.2.natAbs ∣ lvB fs:=Lv.Bx (List.mem_map.mpr ⟨f,hf,rfl⟩)
 have:=Int.natCast_dvd_natCast.mpr h1
 rwa [Int.natAbs_of_nonneg (Int.le_of_lt hq.pos)] at this
inductive FLK (K:Frag) (H:Hp):List V->List (Int × Int)->Prop
 | nil:FLK K H [] []
 | cons {p:Addr} {f:Int × Int} {xs:List V} {fs:List (Int × Int)} : SqT K H p [.int f.1,.int f.2]->FLK K H xs fs->FLK K H (.ref p :: xs) (f :: fs)
theorem Ws {H:Hp} : ∀ {xs:List V} {fs:List (Int × Int)},FL H xs fs->FLK K H xs fs
 | _,_,.nil=>.nil
 | _,_,.cons e t=>.cons (.of e) (Ws t)
theorem FLK.imp {H H':Hp} (h:∀ p a b,SqT K H p [.int a,.int b]->SqT K H' p [.int a,.int b]):∀ {xs:List V} {fs:List (Int × Int)},FLK K H xs fs->FLK K H' xs fs
 | _,_,.nil=>.nil
 | _,_,.cons e t=>.cons (h _ _ _ e) (FLK.imp h t)
theorem FLK.same {H H':Hp} (S:Same H H') {xs:List V} {fs:List (Int × Int)} (h:FLK K H xs fs):FLK K H' xs fs:=h.imp fun _ _ _ e=>S.tup e
theorem FLK.updL {H:Hp} {l:Addr} {ys zs:List V} (hl:H l = some (.lst ys)) {xs:List V} {fs:List (Int × Int)} (h:FLK K H xs fs):FLK K (upd H l (.lst zs)) xs fs:=h.imp fun _ _ _ e=>e.updO hl (fun _ z=>by cases z) fun _ _ z=>by cases z
theorem FLK.length {H:Hp} : ∀ {xs:List V} {fs:List (Int × Int)},FLK K H xs fs->xs.length = fs.length
 | _,_,.nil=>rfl
 | _,_,.cons _ t=>by rw [List.length_cons,List.length_cons,FLK.length t]
theorem FLK.get {H:Hp} : ∀ {xs:List V} {fs:List (Int × Int)} {k:Nat} {x:V},FLK K H xs fs->xs[k]? = some x->∃ p f,x = .ref p/\fs[k]? = some f/\SqT K H p [.int f.1,.int f.2]
 | _,_,_,_,.nil,h=>by simp at h
 | _,_,0,_,.cons (p:=p) (f:=f) e t,h=>by
  simp at h
  exact ⟨p,f,h.symm,rfl,e⟩
 | _,_,k + 1,_,.cons e t,h=>by
  obtain ⟨p,f,h1,h2,h3⟩:=FLK.get (k:=k) t (by simpa using h)
  exact ⟨p,f,h1,by simpa using h2,h3⟩
theorem FLK.append {H:Hp} : ∀ {xs ys:List V} {fs gs:List (Int × Int)},FLK K H xs fs->FLK K H ys gs->FLK K H (xs ++ ys) (fs ++ gs)
 | _,_,_,_,.nil,h=>h
 | _,_,_,_,.cons e t,h=>.cons e (FLK.append t h)
def ql (K:Frag):Sp:=fun vs H Q _=>∃ (l:Addr) (xs:List V) (fs:List (Int × Int)),vs = [.ref l]/\H l = some (.lst xs)/\FLK K H xs fs/\(∀ f ∈ fs,Fq f)/\fs.length <= 41 /\
 ∀ D p,H D = none->upd H D (.lst ((lvT fs).map V.int)) p = none->Q (.ref p) (upd (upd H D (.lst ((lvT fs).map V.int))) p (.tup [.ref D,.int (lvB fs:Nat)]))
def lJ (l:Addr) (fs:List (Int × Int)) (H1:Hp) (k:Nat) (σ:L2.St) (H:Hp):Prop:=∃ z,σ = [some (.ref l),some (.int (lvB (fs.take k):Nat)),z]/\H = H1
def lK (fs:List (Int × Int)) (D:Addr) (H1:Hp) (k:Nat) (ys:List V) (H:Hp):Prop:=ys = ((lvT fs).take k).map V.int/\H = upd H1 D (.lst ys)
structure Fz (f:Int × Int):Prop where
 pos:0 < f.2
 ba:Bd f.1
 bb:Bd f.2
theorem Fq.fz {f:Int × Int} (h:Fq f):Fz f:=⟨h.pos,h.ba,h.bb⟩
theorem JV {fs:List (Int × Int)} (h:∀ f ∈ fs,Fz f):0 < lvB fs:=Lv.Lb fun b hb=>by
 obtain ⟨f,hf,rfl⟩:=List.mem_map.mp hb
 have:=(h f hf).pos
 omega
theorem Ut {fs:List (Int × Int)} (h:∀ f ∈ fs,Fz f) (b:Bd (lvB fs:Nat)) (k:Nat):0 < lvB (fs.take k)/\Bd (lvB (fs.take k):Nat):=by
 refine ⟨JV fun f hf=>h f (List.mem_of_mem_take hf),?_⟩
 have dv:lvB (fs.take k) ∣ lvB fs:=Lv.yN.mpr fun c hc=>by
  obtain ⟨f,hf,rfl⟩:=List.mem_map.mp hc
  exact Lv.Bx (List.mem_map.mpr ⟨f,List.mem_of_mem_take hf,rfl⟩)
 have le:=Nat.le_of_dvd (JV h) dv
 unfold Bd at b ⊢
 rw [Int.natAbs_natCast] at b ⊢
 exact Nat.lt_of_le_of_lt le b
def zc (K:Frag):Sp:=fun vs H Q _=>∃ (l:Addr) (xs:List V) (fs:List (Int × Int)),vs = [.ref l]/\H l = some (.lst xs)/\FLK K H xs fs/\(∀ f ∈ fs,Fz f)/\fs.length <= 41/\Bd (lvB fs:Nat) /\
 ∀ D p,H D = none->upd H D (.lst ((lvT fs).map V.int)) p = none->Q (.ref p) (upd (upd H D (.lst ((lvT fs).map V.int))) p (.tup [.ref D,.int (lvB fs:Nat)]))
theorem Gn (F:Fun K gW gW wL f fd) (dI:OkF P w K mg base 1 gR gM fZ):cC P w K mg base CX0 2 f fd je (zc K):=by
 refine F.ok yG (fun vs H Q E h=>?_) (fun cdv A outer s H vs Q E hr h=>?_)
 .obtain ⟨l,xs,fs,rfl,_⟩:=h
  rfl
 .obtain ⟨l,xs,fs,rfl,hl,hf,hq,hz,hB,q⟩:=h
  refine ⟨_,(bM (cA (i:=1) yG.nd rfl (Or.inr rfl) bG)
   (bM (iV PassesOwn.never rfl (cX ((pv 0)).mono) (cH (i:=2) yG.nd rfl (Or.inl rfl))
    (bO (cA (i:=1) yG.nd rfl (Or.inr rfl) (bU cM (bU lg (pv 1) (bQ dI (hr.mono (by decide)) (by rfl) (bF (pv 1) (bF (bV (show IxR _ (Mr K) from cJ) (pv 2) bG (fun _ _=>rfl)) bH)))) (bV (show IxR _ (Mr K) from cJ) (pv 2) bG (fun _ _=>rfl))))))
   (bO (cu (j6 (bF (jM (bN wL) Qh ["fractions", "bottom", "?one"] ["one"] (cX ((pv 0)).mono) (eG (i:=0)) dj (bU cM (bV (show IxR _ (Mr K) from cJ) (pv 0) bG (fun _ _=>rfl)) (bU lg (pv 2) (bV (show IxR _ (Mr K) from cJ) (pv 0) bG (fun _ _=>rfl))))) (bF (pv 1) bH))))))),?_⟩
  unfold fZ
  walk_at "rd"
  have hx:xs.length <= 41:=by rw [hf.length]; exact hz
  refine fY ⟨_,rfl,l,xs,rfl,hl,lJ l fs H,⟨none,rfl,rfl⟩,?_,?_⟩
  .rintro k x σ' H' hk ⟨z,rfl,rfl⟩ _
   obtain ⟨p,g,rfl,hg,hp⟩:=hf.get hk
   have hm:=aC hg
   obtain ⟨b0,b1⟩:=Ut hq hB k
   have g0:=Ju (a:=((lvB (fs.take k):Nat):Int)) (b:=g.2) (Int.ne_of_gt (hq g hm).pos)
   have g1:=Oe (a:=((lvB (fs.take k):Nat):Int)) (b:=g.2) (Int.ne_of_gt (hq g hm).pos) (hq g hm).bb
   walk_at "rd"
   refine ⟨_,hp,_,cV,_,rfl,by omega,g1,_,hp,_,cV,_,rfl,?_,(hq g hm).bb,hl,some (.ref p),?_,rfl⟩
   .rw [qd _ g0]
    exact b1.div g0
   .rw [ZG (hq g hm).pos b0,<- V1 hg]
  .rintro σ' H' ⟨z,rfl,rfl⟩ _
   walk_at "rd"
   have e0:fs.take xs.length = fs:=by rw [hf.length]; exact aQ
   rw [e0]
   refine dH ⟨_,rfl,l,xs,rfl,hl,aN hx (by decide),fun D hD=>⟨lK fs D H',⟨rfl,rfl⟩,?_,?_⟩⟩
   .rintro k x ys Hc hk ⟨rfl,rfl⟩ _ ha
    obtain ⟨p,g,rfl,hg,hp⟩:=hf.get hk
    have hm:=aC hg
    have hpD:SqT K (upd H' D (.lst (((lvT fs).take k).map V.int))) p [.int g.1,.int g.2]:=(Same.upd hD).tup hp
    walk_at "rd"
    refine ⟨_,hpD,_,dB,_,hpD,_,cV,_,rfl,Int.ne_of_gt (hq g hm).pos,(hq g hm).bb,_,rfl,(hq g hm).ba,?_,ha,?_,uW⟩
    .rw [qd _ (hq g hm).pos]
     exact hB.div (hq g hm).pos
    .rw [qd _ (hq g hm).pos]
     have e1:(lvT fs)[k]? = some (g.1 * ((lvB fs:Nat) / g.2)):=by
      unfold lvT
      rw [au,hg]; rfl
     rw [cF e1,bC]; rfl
   .rintro ys Hc ⟨rfl,rfl⟩ _
    have e2:(lvT fs).take xs.length = lvT fs:=by
     refine aM ?_
     unfold lvT
     rw [ao,hf.length]
     exact aG _
    rw [e2]
    exact ⟨d8,fun p hp=>q D p hD hp⟩
theorem zE (F:Fun K gW gW wL f fd) (dI:OkF P w K mg base 1 gR gM fZ):cC P w K mg base CX0 2 f fd je (ql K) :=
 (Gn F dI).imp fun vs H Q E h=>by
  obtain ⟨l,xs,fs,a,b,c,d,e,q⟩:=h
  exact ⟨l,xs,fs,a,b,c,fun f hf=>(d f hf).fz,e,U_ d e,q⟩
def xV:Sp:=fun vs H Q _=>∃ (l:Addr) (xs:List V) (fs:List (Int × Int)),vs = [.ref l]/\H l = some (.lst xs)/\FL H xs fs/\(∀ f ∈ fs,Fq f)/\fs.length <= 41 /\
 ∀ D p,H D = none->upd H D (.lst ((lvT fs).map V.int)) p = none->Q (.ref p) (upd (upd H D (.lst ((lvT fs).map V.int))) p (.tup [.ref D,.int (lvB fs:Nat)]))
theorem Wy {vs:List V} {H:Hp} {Q:VK} {E:XK} (h:xV vs H Q E):ql K vs H Q E:=let ⟨l,xs,fs,a,b,c,d⟩:=h; ⟨l,xs,fs,a,b,Ws c,d⟩
def wW:Sp:=fun vs H Q _=>∃ (l:Addr) (xs:List V) (fs:List (Int × Int)),vs = [.ref l]/\H l = some (.lst xs)/\FL H xs fs/\(∀ f ∈ fs,Fq f)/\fs.length <= 41 /\
 ∀ p x y,Low (lvT fs).sum (lvB fs:Nat) x y->H p = none->Q (.ref p) (upd H p (.tup [.int x,.int y]))
theorem Xd (F:Fun K tO tO Kp f fd) (T:Txt K mg D) (oh:OkF P w K mg base 2 gW je xV) (eF:OkF P w K mg base 2 ji iK gU):cC P w K mg base CX0 3 f fd uo wW:=by
 refine cC.cleanP (sp:=fun vs H Q _=>∃ (l:Addr) (xs:List V) (fs:List (Int × Int)),vs = [.ref l]/\H l = some (.lst xs)/\FL H xs fs/\(∀ f ∈ fs,Fq f)/\fs.length <= 41 /\
   ∀ p x y H',Low (lvT fs).sum (lvB fs:Nat) x y->Same H H'->H p = none->H' p = some (.tup [.int x,.int y])->Q (.ref p) H')
  (F.ok MN (fun vs H Q E h=>?_) (fun cdv A outer s H vs Q E hr h=>?_)) fun vs H Q E ⟨l,xs,fs,h1,h2,h3,h4,h5,h6⟩=>⟨l,xs,fs,h1,h2,h3,h4,h5,fun p x y H' l S e1 e2=>⟨S,p,_,e2,e1,h6 p x y l e1⟩⟩
 .obtain ⟨l,xs,fs,rfl,_⟩:=h
  rfl
 .obtain ⟨l,xs,fs,rfl,hl,hf,hq,hz,q⟩:=h
  refine ⟨_,(bM (cA (i:=1) MN.nd rfl (Or.inl rfl) (bQ oh (hr.mono (by decide)) (by rfl) (bF (pv 0) bH)))
   (bO (cu (bQ eF (hr.mono (by decide)) (by rfl) (bF (b_ (yV rfl) (by rfl) T.VF boot_sum (bF (bV cW (pv 1) bG (fun _ _=>rfl)) bH)) (bF (bV cW (pv 1) bG (fun _ _=>rfl)) bH)))))),?_⟩
  unfold xV gU
  walk_at "rd"
  refine ⟨xs,hl,fs,hf,hq,hz,fun D p hD hp=>⟨lvT fs,(bL (bI bK hp)).trans bK,?_,U_ hq hz,fun p1 x y lw hp1=>?_⟩⟩
  .have:=Bg hq
   omega
  .have S:=(Same.upd hD (o:=.lst ((lvT fs).map V.int))).trans (Same.upd hp (o:=.tup [.ref D,.int (lvB fs:Nat)]))
   exact q p1 x y _ lw (S.trans (Same.upd hp1)) (S.free hp1) bK
structure Pairs (H:Hp) (xs:List V) (ps:List (Str × Int × Int)):Prop where
 len:xs.length = ps.length
 at_:∀ (k:Nat) (g:Str × Int × Int),ps[k]? = some g->∃ t c:Addr,xs[k]? = some (.ref t)/\H t = some (.tup [.str g.1,.ref c])/\H c = some (.tup [.int g.2.1,.int g.2.2])
structure Ww (g:Str × Int × Int):Prop where
 len:g.1.length <= 1000
 wd:j9 g.1.cps.toList = true
 pos:0 < g.2.2
 gcd:Int.gcd g.2.1 g.2.2 = 1
 lo:0 <= g.2.1
 hi:g.2.1 <= g.2.2
 fq:Fq g.2
def kW:Sp:=fun vs H Q _=>∃ (l:Addr) (xs:List V) (ps:List (Str × Int × Int)),vs = [.ref l]/\H l = some (.lst xs)/\Pairs H xs ps/\(∀ g ∈ ps,Ww g)/\ps.length <= 41/\(∀ x y,Low (lvT (ps.map (·.2))).sum (lvB (ps.map (·.2)):Nat) x y->x = 1/\y = 1)/\∀ H',Same H H'->Q .non H'
def jP (l:Addr) (H:Hp) (_:Nat) (σ:L2.St) (H':Hp):Prop:=∃ u v,σ = [some (.ref l),u,v]/\H' = H
def jQ (D1:Addr) (ps:List (Str × Int × Int)) (H:Hp) (k:Nat) (ys:List V) (Hc:Hp):Prop:=FL H ys ((ps.map (·.2)).take k)/\Hc = upd H D1 (.lst ys)
theorem Cg (F:Fun K iH iH mO f fd) (T:Txt K mg D) (j5:OkX P w K mg base 2 dX dY ju) (nq:OkX P w K mg base 3 fB fH (oE (K:=K))) (Vc:OkX P w K mg base 3 tO uo wW):cC P w K mg base (CXO P w) 4 f fd iI kW:=by
 refine F.okX oO (fun vs H Q E h=>?_) (fun cdv A outer s H vs Q E hr h=>?_)
 .obtain ⟨l,xs,ps,rfl,_⟩:=h
  rfl
 .obtain ⟨l,xs,ps,rfl,hl,hp,hg,hz,h1,q⟩:=h
  refine ⟨_,(bM (iV PassesOwn.leaving rfl (cX ((pv 0)).mono) (iD (n:=2) rfl (cD (cH (i:=1) oO.nd rfl (Or.inl rfl)) (cD (cH (i:=2) oO.nd rfl (Or.inl rfl)) gO)))
    (bM (dD (gG j5 (hr.mono (by decide)) (by rfl) gq (bF (pv 1) bH)))
    (bO (dD (gG nq (hr.mono (by decide)) (by rfl) gq (bF (pv 2) bH))))))
   (bO (cY (cQ (QD (K:=K) rfl hr.units) (gG Vc (hr.mono (by decide)) (by rfl) gq (bF (jM (bN mO) p7 p7 ["pair"] (cX ((pv 0)).mono) (eG (i:=0)) dj (bV cW (pv 0) bG (fun _ _=>rfl))) bH)) (iY (by rfl) T.Ml) (cN _))
    (bO (qu rfl (by rfl) T.wj T.B_ qz (bF oH bH)))
    cB))),?_⟩
  unfold ju oE wW
  walk_at "rd"
  refine fY ?_
  walk_at "rd"
  refine ⟨xs,hl,jP l H,⟨none,none,rfl,rfl⟩,?_,?_⟩
  .rintro k x σ' H' hk ⟨u,v,rfl,rfl⟩ _
   have lk:k < ps.length:=by rw [<- hp.len]; exact (aq.mp hk).1
   have e:ps[k]? = some ps[k]:=aj lk
   have ok:=hg _ (aW lk)
   obtain ⟨t,c,a,b,d⟩:=hp.at_ k _ e
   rw [hk] at a
   cases a
   exact ⟨t,rfl,_,b,rfl,_,_,rfl,_,_,rfl,rfl,_,rfl,_,rfl,ok.len,ok.wd,_,rfl,c,rfl,⟨_,_,⟨.of d,ok.pos,ok.gcd⟩,ok.lo,ok.hi,ok.fq.bb⟩,hl,_,_,rfl,rfl⟩
  .rintro σ' H' ⟨u,v,rfl,rfl⟩ _
   refine dH ?_
   walk_at "rd"
   refine ⟨xs,hl,by rw [hp.len]; exact aN hz (by decide),fun D1 hD=>⟨jQ D1 ps H',⟨.nil,rfl⟩,?_,?_⟩⟩
   .rintro k x ys Hc hk ⟨hf,rfl⟩ hy _
    have lk:k < ps.length:=by rw [<- hp.len]; exact (aq.mp hk).1
    have e:ps[k]? = some ps[k]:=aj lk
    obtain ⟨t,c,a,b,d⟩:=hp.at_ k _ e
    rw [hk] at a
    cases a
    walk_at "rd"
    refine ⟨_,(bL (bI b hD)).trans b,_,cV,(bL (bI hl hD)).trans hl,?_,uW⟩
    rw [List.take_succ,au,e]
    exact hf.append (.one d)
   .rintro ys Hc ⟨hf,rfl⟩ hy
    have hk:(ps.map (·.2)).take xs.length = ps.map (·.2):=by rw [hp.len,<- ao (f:=fun g:Str × Int × Int=>g.2),aQ]
    rw [hk] at hf
    refine ⟨ys,bK,_,hf.same (Same.upd hD),?_,by rw [ao]; exact hz,fun p x y lo hn=>?_⟩
    .intro g hm
     obtain ⟨g',hm',rfl⟩:=List.mem_map.mp hm
     exact (hg g' hm').fq
    .obtain ⟨rfl,rfl⟩:=h1 x y lo
     refine ⟨_,.tup (.of bK) (c7.ints K _ [1,1]),_,.tup (T.Ci _) (c7.ints K _ [1,1]),rfl,rfl,?_⟩
     rw [if_neg (by decide)]
     exact q _ ((Same.upd hD).trans (Same.upd hn))
inductive DA (H:Hp) (S:Int):List (Key × V)->List (Str × Int)->Prop
 | nil:DA H S [] []
 | cons {n:Str} {W:Int} {c:Addr} {kvs:List (Key × V)} {acc:List (Str × Int)} (h:H c = some (.tup [.int (Ac.lw W S).1,.int (Ac.lw W S).2])) (t:DA H S kvs acc):DA H S ((.inr n,.ref c) :: kvs) ((n,W) :: acc)
theorem DA.imp {H H':Hp} {S:Int} (h:∀ c x y,H c = some (.tup [.int x,.int y])->H' c = some (.tup [.int x,.int y])):∀ {kvs:List (Key × V)} {acc:List (Str × Int)},DA H S kvs acc->DA H' S kvs acc
 | _,_,.nil=>.nil
 | _,_,.cons a t=>.cons (h _ _ _ a) (t.imp h)
theorem DA.len {H:Hp} {S:Int} : ∀ {kvs:List (Key × V)} {acc:List (Str × Int)},DA H S kvs acc->kvs.length = acc.length
 | _,_,.nil=>rfl
 | _,_,.cons _ t=>congrArg (· + 1) t.len
theorem DA.keys {H:Hp} {S:Int} : ∀ {kvs:List (Key × V)} {acc:List (Str × Int)},DA H S kvs acc->kvs.map (·.1) = (acc.map (·.1)).map Sum.inr
 | _,_,.nil=>rfl
 | _,_,.cons _ t=>by rw [List.map_cons,List.map_cons,List.map_cons,t.keys]
theorem DA.val {H:Hp} {S:Int} (r:Str):∀ {kvs:List (Key × V)} {acc:List (Str × Int)},DA H S kvs acc->(pB kvs (.inr r) = none/\Ac.look acc r = 0)\/∃ c,pB kvs (.inr r) = some (.ref c)/\H c = some (.tup [.int (Ac.lw (Ac.look acc r) S).1,.int (Ac.lw (Ac.look acc r) S).2])
 | _,_,.nil=>.inl ⟨rfl,rfl⟩
 | _,_,.cons (n:=n) (W:=W) (c:=c) (kvs:=kvs) (acc:=acc) h t=>by
  by_cases e:n = r
  .subst e
   refine .inr ⟨c,DW rfl,?_⟩
   have:Ac.look ((n,W) :: acc) n = W:=by simp [Ac.look]
   rw [this]; exact h
  .have e1:pB ((Sum.inr n,V.ref c) :: kvs) (Sum.inr r:Key) = pB kvs (.inr r):=Dg fun z=>e (Sum.inr.inj z)
   have e2:Ac.look ((n,W) :: acc) r = Ac.look acc r:=by simp [Ac.look,List.find?_cons,e]
   rw [e1,e2]
   exact t.val r
theorem DA.any {H:Hp} {S:Int} (r:Str):∀ {kvs:List (Key × V)} {acc:List (Str × Int)},DA H S kvs acc->(kvs.any fun kv=>decide (kv.1 = (.inr r:Key))) = acc.any fun g=>decide (g.1 = r)
 | _,_,.nil=>rfl
 | _,_,.cons (n:=n) _ t=>by
  rw [List.any_cons,List.any_cons,t.any r]
  congr 1
  by_cases e:n = r
  .subst e; rw [decide_eq_true rfl,decide_eq_true rfl]
  .rw [decide_eq_false e,decide_eq_false fun z=>e (Sum.inr.inj z)]
theorem DA.sets {H:Hp} {S y:Int} {c:Addr} {r:Str} (hc:H c = some (.tup [.int (Ac.lw y S).1,.int (Ac.lw y S).2])):∀ {kvs:List (Key × V)} {acc:List (Str × Int)},DA H S kvs acc->DA H S (kvs.map fun kv=>if kv.1 = (.inr r:Key) then (kv.1,.ref c) else kv) (acc.map fun g=>if g.1 = r then (g.1,y) else g)
 | _,_,.nil=>.nil
 | _,_,.cons (n:=n) (W:=W) (c:=c') h t=>by
  rw [List.map_cons,List.map_cons]
  by_cases e:n = r
  .subst e
   rw [if_pos rfl,if_pos rfl]
   exact .cons hc (t.sets hc)
  .rw [if_neg e,if_neg fun z=>e (Sum.inr.inj z)]
   exact .cons h (t.sets hc)
theorem DA.snoc {H:Hp} {S y:Int} {c:Addr} {r:Str} (hc:H c = some (.tup [.int (Ac.lw y S).1,.int (Ac.lw y S).2])):∀ {kvs:List (Key × V)} {acc:List (Str × Int)},DA H S kvs acc->DA H S (kvs ++ [(.inr r,.ref c)]) (acc ++ [(r,y)])
 | _,_,.nil=>.cons hc .nil
 | _,_,.cons h t=>.cons h (t.snoc hc)
theorem DA.put {H:Hp} {S y:Int} {c:Addr} {r:Str} {kvs:List (Key × V)} {acc:List (Str × Int)} (hc:H c = some (.tup [.int (Ac.lw y S).1,.int (Ac.lw y S).2])) (h:DA H S kvs acc):DA H S (putK kvs (.inr r) (.ref c)) (Ac.put acc r y):=by
 unfold putK Ac.put
 rw [h.any r]
 split
 .exact h.sets hc
 .exact h.snoc hc
theorem DA.get {H:Hp} {S:Int} : ∀ {kvs:List (Key × V)} {acc:List (Str × Int)} {i:Nat} {k:Key} {v:V},DA H S kvs acc->kvs[i]? = some (k,v)->∃ n W c,acc[i]? = some (n,W)/\k = .inr n/\v = .ref c/\H c = some (.tup [.int (Ac.lw W S).1,.int (Ac.lw W S).2])
 | _,_,_,_,_,.nil,e=>by simp at e
 | _,_,0,_,_,.cons h _,e=>by
  rw [List.getElem?_cons_zero] at e
  cases e
  exact ⟨_,_,_,rfl,rfl,rfl,h⟩
 | _,_,i + 1,_,_,.cons _ t,e=>t.get (by rw [List.getElem?_cons_succ] at e; exact e)
theorem Qm:∀ {kvs:List (Key × V)} {i:Nat} {k:Key} {v:V},(kvs.map (·.1)).Nodup->kvs[i]? = some (k,v)->pB kvs k = some v
 | [],_,_,_,_,e=>by simp at e
 | p :: kvs,0,k,v,_,e=>by
  rw [List.getElem?_cons_zero] at e
  cases e
  exact DW rfl
 | p :: kvs,i + 1,k,v,hn,e=>by
  rw [List.getElem?_cons_succ] at e
  rw [List.map_cons,List.nodup_cons] at hn
  rw [Dg fun z=>hn.1 (by rw [z]; exact List.mem_map.mpr ⟨(k,v),aC e,rfl⟩)]
  exact Qm hn.2 e
inductive WF (K:Frag) (H:Hp):List V->List (Str × Int × Int)->List (Str × Addr)->Prop
 | nil:WF K H [] [] []
 | cons {t c:Addr} {n:Str} {x y:Int} {xs:List V} {gs:List (Str × Int × Int)} {ws:List (Str × Addr)} (h1:H t = some (.tup [.str n,.ref c])) (h2:SqT K H c [.int x,.int y]) (r:WF K H xs gs ws):WF K H (.ref t :: xs) ((n,x,y) :: gs) ((n,c) :: ws)
theorem WF.imp {H H':Hp} (h:∀ t ys,H t = some (.tup ys)->H' t = some (.tup ys)) (h':∀ c xs,SqT K H c xs->SqT K H' c xs):∀ {xs:List V} {gs:List (Str × Int × Int)} {ws:List (Str × Addr)},WF K H xs gs ws->WF K H' xs gs ws
 | _,_,_,.nil=>.nil
 | _,_,_,.cons a b r=>.cons (h _ _ a) (h' _ _ b) (r.imp h h')
theorem WF.same {H H':Hp} (S:Same H H') {xs:List V} {gs:List (Str × Int × Int)} {ws:List (Str × Addr)} (h:WF K H xs gs ws):WF K H' xs gs ws:=h.imp (fun t ys e=>S _ _ e) fun c xs e=>S.tup e
theorem WF.updL {H:Hp} {l:Addr} {ys zs:List V} (hl:H l = some (.lst ys)) {xs:List V} {gs:List (Str × Int × Int)} {ws:List (Str × Addr)} (h:WF K H xs gs ws):WF K (upd H l (.lst zs)) xs gs ws :=
 h.imp (fun t us e=>(bL (f9 e hl (by intro z; cases z))).trans e) fun c xs e=>e.updO hl (by intro ys z; cases z) (by intro ob ys z; cases z)
theorem WF.len {H:Hp} : ∀ {xs:List V} {gs:List (Str × Int × Int)} {ws:List (Str × Addr)},WF K H xs gs ws->xs.length = gs.length
 | _,_,_,.nil=>rfl
 | _,_,_,.cons _ _ r=>congrArg (· + 1) r.len
theorem WF.snoc {H:Hp} {t c:Addr} {n:Str} {x y:Int} (h1:H t = some (.tup [.str n,.ref c])) (h2:SqT K H c [.int x,.int y]):∀ {xs:List V} {gs:List (Str × Int × Int)} {ws:List (Str × Addr)},WF K H xs gs ws->WF K H (xs ++ [.ref t]) (gs ++ [(n,x,y)]) (ws ++ [(n,c)])
 | _,_,_,.nil=>.cons h1 h2 .nil
 | _,_,_,.cons a b r=>.cons a b (r.snoc h1 h2)
theorem WF.ways {H:Hp} : ∀ {xs:List V} {gs:List (Str × Int × Int)} {ws:List (Str × Addr)},WF K H xs gs ws->Tg H xs ws
 | _,_,_,.nil=>⟨rfl,fun k g e=>by simp at e⟩
 | _,_,_,.cons a b r=>⟨congrArg (· + 1) r.ways.len,fun k g e=>by
  cases k with
  | zero =>
   rw [List.getElem?_cons_zero] at e
   cases e
   exact ⟨_,rfl,a⟩
  | succ k =>
   rw [List.getElem?_cons_succ] at e ⊢
   exact r.ways.at_ k g e⟩
def Rb (S:Int) (acc:List (Str × Int)):List (Str × Int × Int):=(acc.filter fun g=>decide (0 < g.2)).map fun g=>(g.1,Ac.lw g.2 S)
theorem Cq {S:Int} {acc:List (Str × Int)} {i:Nat} {n:Str} {W:Int} (h:acc[i]? = some (n,W)):Rb S (acc.take (i + 1)) = Rb S (acc.take i) ++ if 0 < W then [(n,Ac.lw W S)] else []:=by
 unfold Rb
 rw [List.take_succ,h,List.filter_append,bC]
 congr 1
 show List.map _ (List.filter _ [(n,W)]) = _
 by_cases e:0 < W
 .rw [if_pos e,List.filter_cons,if_pos (decide_eq_true e)]; rfl
 .rw [if_neg e,List.filter_cons,if_neg (by simpa using e)]; rfl
structure PW (H:Hp) (xs:List V) (gs:List (Str × Int)) (S:Int):Prop where
 len:xs.length = gs.length
 at_:∀ (k:Nat) (g:Str × Int),gs[k]? = some g->∃ t c:Addr,xs[k]? = some (.ref t)/\H t = some (.tup [.str g.1,.ref c])/\H c = some (.tup [.int (Ac.lw g.2 S).1,.int (Ac.lw g.2 S).2])
theorem PW.imp {H H':Hp} (h':∀ t ys,H t = some (.tup ys)->H' t = some (.tup ys)) {xs:List V} {gs:List (Str × Int)} {S:Int} (h:PW H xs gs S):PW H' xs gs S:=⟨h.len,fun k g e=>let ⟨t,c,a,b,d⟩:=h.at_ k g e; ⟨t,c,a,h' _ _ b,h' _ _ d⟩⟩
theorem PW.same {H H':Hp} {xs:List V} {gs:List (Str × Int)} {S:Int} (h:PW H xs gs S) (T:Same H H'):PW H' xs gs S:=h.imp fun _ _ e=>T _ _ e
theorem PW.pairs {H:Hp} {xs:List V} {gs:List (Str × Int)} {S:Int} (h:PW H xs gs S):Pairs H xs (gs.map fun g=>(g.1,Ac.lw g.2 S)):=⟨by rw [h.len,ao],fun k g e=>by
 rw [au] at e
 cases e0:gs[k]? with
 | none=>rw [e0] at e; cases e
 | some g0 =>
  rw [e0] at e
  cases e
  exact h.at_ k g0 e0⟩
structure Wt (gs:List (Str × Int)) (S:Int):Prop where
 pos:0 < S
 le:S <= 10 ^ 20
 len:gs.length <= 8
 wd:∀ g ∈ gs,g.1.length <= 1000/\j9 g.1.cps.toList = true
 lo:∀ g ∈ gs,0 <= g.2
 sum:(gs.map (·.2)).sum = S
theorem Td {i:Int} (h:i.natAbs <= 10 ^ 20):Bd i:=Nat.lt_of_le_of_lt h (by decide +kernel)
theorem QC {gs:List (Str × Int)} : (∀ g ∈ gs,0 <= g.2)->0 <= (gs.map (·.2)).sum/\∀ g ∈ gs,g.2 <= (gs.map (·.2)).sum:=by
 induction gs with
 | nil=>intro _; exact ⟨by simp,by simp⟩
 | cons a gs ih =>
  intro h
  obtain ⟨h1,h2⟩:=ih fun g hg=>h g (aJ _ hg)
  have h0:=h a aP
  rw [List.map_cons,List.sum_cons]
  refine ⟨by omega,fun g hg=>?_⟩
  rcases List.mem_cons.mp hg with rfl | hg
  .omega
  .have:=h2 g hg
   omega
theorem Wt.hi {gs:List (Str × Int)} {S:Int} (h:Wt gs S) {g:Str × Int} (hg:g ∈ gs):g.2 <= S:=by
 rw [<- h.sum]; exact (QC h.lo).2 g hg
theorem Wt.pair {gs:List (Str × Int)} {S:Int} (h:Wt gs S) {g:Str × Int} (hg:g ∈ gs):Ww (g.1,Ac.lw g.2 S):=by
 have p:=h.pos
 have l:=h.le
 have lo:=h.lo g hg
 have hi:=h.hi hg
 have p2:=Ac.jD (t:=g.2) p
 have g1:=Ac.wA (t:=g.2) p
 exact ⟨(h.wd g hg).1,(h.wd g hg).2,p2,g1,Ac.aaV p lo,Ac.aa1 p hi,p2,g1,aN (Ac.BL _ _) (aN (by omega:g.2.natAbs <= 10 ^ 20) (by decide)),aN (Ac.zQ _ _) (aN (by omega:S.natAbs <= 10 ^ 20) (by decide))⟩
theorem aax (a b c d:Int):PyData.eqv (.tuple (List.map PyData.int [a,b])) (.tuple (List.map PyData.int [c,d])) = (decide (a = c) && decide (b = d)):=by
 simp [PyData.eqv,PyData.eqvAll]
 rfl
def uX (K:Frag):Sp:=fun vs H Q _=>∃ (l:Addr) (xs:List V) (gs:List (Str × Int)) (S:Int),vs = [.ref l]/\H l = some (.lst xs)/\PW H xs gs S/\Wt gs S /\
 ∀ H' r ys ws,Same H H'->H r = none->H' r = some (.lst ys)->WF K H' ys (Ac.ways gs S) ws->Q (.ref r) H'
def jJ (l d:Addr) (gs:List (Str × Int)) (S:Int) (H:Hp) (k:Nat) (σ:L2.St) (H':Hp):Prop:=∃ u v kvs,σ = [some (.ref l),some (.ref d),u,v]/\Same H H'/\H' d = some (.dK kvs)/\DA H' S kvs (Ac.iW (gs.take k))
def jC (K:Frag) (acc:List (Str × Int)) (S:Int) (d D1:Addr) (u:HO) (H:Hp) (i:Nat) (ys:List V) (Hc:Hp):Prop:=Same (upd H d u) Hc/\Hc D1 = some (.lst ys)/\∃ ws,WF K Hc ys (Rb S (acc.take i)) ws
theorem CQ (F:Fun K iT iT mW f fd) (T:Txt K mg D) (Zi:OkX P w K mg base 3 rD rH (p8 (K:=K) (· + ·))):cC P w K mg base (CXO P w) 4 f fd jf (uX K):=by
 refine F.okX lU (fun vs H Q E h=>?_) (fun cdv A outer s H vs Q E hr h=>?_)
 .obtain ⟨l,xs,gs,S,rfl,_⟩:=h
  rfl
 .obtain ⟨l,xs,gs,S,rfl,hl,hp,W,q⟩:=h
  have p0:=W.pos
  have sle:=W.le
  refine ⟨_,(bM (cA (i:=1) lU.nd rfl (Or.inr rfl) CN)
   (bM (iV PassesOwn.leaving rfl (cX ((pv 0)).mono) (iD (n:=2) rfl (cD (cH (i:=2) lU.nd rfl (Or.inl rfl)) (cD (cH (i:=3) lU.nd rfl (Or.inl rfl)) gO)))
    (bO (Hg (vL hr) (pv 1) (pv 2) (gG Zi (hr.mono (by decide)) (by rfl) gq (bF (WT (vL hr) (pv 1) (pv 2) (iY (by rfl) T.qj) (by first | exact ⟨rfl,rfl,rfl,rfl,rfl⟩ | constructor <;> rfl)) (bF (pv 3) bH))) rfl)))
   (bO (cu (jM (bN mW) vG ["pairs", "chances", "?room", "chance"] ["room"] (YH ((pv 1)).mono) (eG (i:=0)) (aav (cQ (QD (K:=K) rfl hr.units) (Kd (vL hr) (pv 2) (pv 0) (fun _ _=>rfl)) (iY (by rfl) T.qj) (cN _))) (j6 (bF (pv 0) (bF (Kd (vL hr) (pv 2) (pv 0) (fun _ _=>rfl)) bH)))))))),?_⟩
  unfold p8
  walk_at "rd"
  refine fun d hd=>fY ?_
  walk_at "rd"
  have ld:l ≠ d:=bI hl hd
  refine ⟨xs,(bL ld).trans hl,jJ l d gs S H,⟨none,none,[],rfl,Same.upd hd,bK,.nil⟩,?_,?_⟩
  .rintro k x σ' H' hk ⟨u,v,kvs,rfl,S1,h1,da⟩ _
   have lk:k < gs.length:=by rw [<- hp.len]; exact (aq.mp hk).1
   have e:gs[k]? = some gs[k]:=aj lk
   have hm:=aW lk
   obtain ⟨t,c,a,b,cc⟩:=hp.at_ k _ e
   rw [hk] at a
   cases a
   generalize gs[k] = g at *
   obtain ⟨n,x⟩:=g
   have wx:=W.hi hm
   have wl:=W.lo _ hm
   have al:=Ac.tH (gs.take k) fun g hg=>W.lo g (List.mem_of_mem_take hg)
   have st:((gs.take k).map (·.2)).sum <= S:=by
    have e1:gs.map (·.2) = (gs.take k).map (·.2) ++ (gs.drop k).map (·.2):=by rw [<- bC,List.take_append_drop]
    have e2:=(QC (gs:=gs.drop k) fun g hg=>W.lo g (List.mem_of_mem_drop hg)).1
    have e3:=W.sum
    rw [e1,List.sum_append] at e3
    omega
   have look:0 <= Ac.look (Ac.iW (gs.take k)) n/\(Ac.look (Ac.iW (gs.take k)) n).natAbs <= 10 ^ 20:=by
    rcases Ac.Mv (Ac.iW (gs.take k)) n with e0 | ⟨g,hg,e0⟩
    .rw [e0]; exact ⟨Int.le_refl _,by decide⟩
    .rw [e0]
     have:=al.2.2 g hg
     omega
   obtain ⟨cq,hq,sq⟩ : ∃ cq,(pB kvs (.inr n)).getD (.ref D.NOUGHT) = .ref cq/\SqT K H' cq [.int (Ac.lw (Ac.look (Ac.iW (gs.take k)) n) S).1,.int (Ac.lw (Ac.look (Ac.iW (gs.take k)) n) S).2]:=by
    rcases da.val n with ⟨e1,e2⟩ | ⟨c',e1,e2⟩
    .rw [e1,e2,((Ac.vd p0).mpr rfl).1,((Ac.vd p0).mpr rfl).2]
     exact ⟨_,rfl,T.oF H'⟩
    .rw [e1]
     exact ⟨c',rfl,.of e2⟩
   walk_at "rd"
   have q1:=Ac.jD (t:=Ac.look (Ac.iW (gs.take k)) n) p0
   have q2:=Ac.jD (t:=x) p0
   have d1:=aN (Ac.BL (Ac.look (Ac.iW (gs.take k)) n) S) look.2
   have d2:=aN (Ac.zQ (Ac.look (Ac.iW (gs.take k)) n) S) (by omega:S.natAbs <= 10 ^ 20)
   have d3:=aN (Ac.BL x S) (by have:x <= S:=wx; have:0 <= x:=wl; omega:x.natAbs <= 10 ^ 20)
   have d4:=aN (Ac.zQ x S) (by omega:S.natAbs <= 10 ^ 20)
   have d5:Bd ((Ac.lw (Ac.look (Ac.iW (gs.take k)) n) S).2 * (Ac.lw x S).2):=by
    refine Nat.lt_of_le_of_lt (m:=10 ^ 20 * 10 ^ 20) ?_ (by decide +kernel)
    rw [Int.natAbs_mul]
    exact Nat.mul_le_mul d2 d4
   have hlen:kvs.length < sizeLine:=by
    have h9:9 < sizeLine:=by decide
    have:=al.2.1
    have:=W.len
    rw [da.len]
    rw [bw] at *
    omega
   refine ⟨_,S1 _ _ b,rfl,_,_,rfl,_,_,rfl,rfl,.inl ⟨kvs,.inl h1⟩,_,uz.k (k:=.inr n) h1,cq,hq,c,rfl,_,_,sq,_,_,.of (S1 _ _ cc),Td d1,Td d2,Td d3,Td d4,q1,q2,d5,fun r z o lo hr=>?_⟩
   have rd:d ≠ r:=bI h1 hr
   refine ⟨_,PB.k (k:=.inr n) ((bL rd).trans h1) hlen,(bL ld).trans ((bL (bI ‹H' l = some (HO.lst xs)› hr)).trans ‹H' l = some (HO.lst xs)›),_,_,_,rfl,?_,bK,?_⟩
   .intro b' o' e'
    rw [bL (bI e' hd),bL (bI (S1 _ _ e') hr)]
    exact S1 _ _ e'
   .obtain ⟨ez,eo⟩:=Ac.abH p0 lo.pos lo.gcd lo.eq
    rw [cF e,Ac.zm]
    refine DA.put ?_ (da.imp fun c' x' y' e'=>?_)
    .rw [bL rd.symm,<- ez,<- eo]; exact bK
    .rw [bL (f9 e' h1 (by intro z; cases z)),bL (bI e' hr)]; exact e'
  .rintro σ' H' ⟨u,v,kvs,rfl,S1,h1,da⟩ _
   refine LK ?_
   have e8:gs.take xs.length = gs:=by rw [hp.len,aQ]
   rw [e8] at da
   have al:=Ac.tH gs W.lo
   have nd:(kvs.map (·.1)).Nodup:=by
    rw [da.keys]
    exact al.1.map (f:=Sum.inr) (S:=(· ≠ ·)) fun a b h z=>h (Sum.inr.inj z)
   have hlen:kvs.length <= sizeLine:=by
    have h9:9 < sizeLine:=by decide
    have:=al.2.1
    have:=W.len
    rw [da.len]
    omega
   walk_at "rd"
   refine ⟨kvs,h1,hlen,fun o D1 hD1=>⟨jC K (Ac.iW gs) S d D1 (.frz o (.dK kvs)) H',⟨Same.upd hD1,bK,[],.nil⟩,?_,?_⟩⟩
   .rintro i k y ys Hc hi ⟨S2,hD,ws,wf⟩ hy hfr pre hpre
    obtain ⟨u0,rfl⟩:=List.length_eq_one_iff.mp hpre
    obtain ⟨nm,X,c,ea,rfl,rfl,hc⟩:=da.get hi
    have vv:=Qm nd hi
    have hcd:c ≠ d:=f9 hc h1 (by intro z; cases z)
    have hcc:Hc c = some (.tup [.int (Ac.lw X S).1,.int (Ac.lw X S).2]):=S2 _ _ ((bL hcd).trans hc)
    walk_at "rd"
    have dg:uz Hc d (kV (.inr nm)) (some (.ref c)):=.inl ⟨kvs,.inr nm,.inr ⟨o,hfr⟩,rfl,vv.symm⟩
    refine ⟨[some (.str nm)],rfl,rfl,_,dg,_,.tup (.of hcc) (c7.ints K _ [_,_]),_,.tup (T.oF _) (c7.ints K _ [0,1]),rfl,rfl,?_⟩
    have X0:=(al.2.2 _ (aC ea)).1
    by_cases hX:X = 0
    .subst hX
     obtain ⟨e1,e2⟩:=(Ac.vd (b:=S) p0).mpr rfl
     rw [show PyData.eqv (.tuple (List.map PyData.int [(Ac.lw 0 S).1,(Ac.lw 0 S).2])) (.tuple (List.map PyData.int [0,1])) = true by rw [e1,e2]; rfl]
     refine ⟨hfr,S2,hD,ws,?_⟩
     rw [Cq ea,if_neg (by decide),List.append_nil]
     exact wf
    .have e0:PyData.eqv (.tuple (List.map PyData.int [(Ac.lw X S).1,(Ac.lw X S).2])) (.tuple (List.map PyData.int [0,1])) = false:=by
      rw [aax]
      simp only [Bool.and_eq_false_iff,decide_eq_false_iff_not]
      by_cases h1:(Ac.lw X S).1 = 0
      .exact .inr fun h2=>hX ((Ac.vd p0).mp ⟨h1,h2⟩)
      .exact .inl h1
     rw [e0]
     refine ⟨_,dg,d8,fun p hp=>?_⟩
     have pD:D1 ≠ p:=bI hD hp
     have pd:d ≠ p:=bI hfr hp
     refine ⟨(bL pD).trans hD,(bL pd).trans hfr,?_,bK,ws ++ [(nm,c)],?_⟩
     .intro b' o' e'
      rw [bL (bI e' hD1),bL (bI (S2 _ _ e') hp)]
      exact S2 _ _ e'
     .rw [Cq ea,if_pos (by omega)]
      exact WF.updL ((bL pD).trans hD) ((wf.same (Same.upd hp)).snoc bK (.of ((bL (bI hcc hp)).trans hcc)))
   .rintro ys Hc ⟨S2,hD,ws,wf⟩ _
    rw [da.len,aQ] at wf
    refine q _ D1 ys ws ?_ ?_ hD wf
    .intro b o' e'
     exact S2 _ _ ((bL (bI e' hd)).trans (S1 _ _ e'))
    .cases z:H D1 with
     | none=>rfl
     | some o' =>
      have:=(bL (H:=H') (o:=.frz o (.dK kvs)) (bI z hd)).trans (S1 _ _ z)
      rw [this] at hD1
      cases hD1
theorem Xi {gs:List (Str × Int)} {S:Int} (W:Wt gs S):∀ (hs:List (Str × Int)) (L:Int),(∀ g ∈ hs,g ∈ gs/\(Ac.lw g.2 S).2 ∣ L)->((hs.map fun g=>(Ac.lw g.2 S).1 * (L / (Ac.lw g.2 S).2)).sum) * S = (hs.map (·.2)).sum * L
 | [],L,_=>by simp
 | g :: hs,L,h=>by
  have ih:=Xi W hs L fun g hg=>h g (aJ _ hg)
  obtain ⟨hm,q,hq⟩:=h g aP
  have p:=Ac.jD (t:=g.2) W.pos
  have e:=Ac.xr (t:=g.2) W.pos
  rw [List.map_cons,List.sum_cons,List.map_cons,List.sum_cons,Int.add_mul,Int.add_mul,ih]
  congr 1
  generalize (Ac.lw g.2 S).1 = a at *
  generalize (Ac.lw g.2 S).2 = b at *
  rw [hq,Int.mul_ediv_cancel_left _ (Int.ne_of_gt p),Int.mul_right_comm,e,Int.mul_assoc]
theorem Vm {gs:List (Str × Int)} {S:Int} (W:Wt gs S):∀ x y,Low (lvT ((gs.map fun g=>(g.1,Ac.lw g.2 S)).map (·.2))).sum (lvB ((gs.map fun g=>(g.1,Ac.lw g.2 S)).map (·.2)):Nat) x y->x = 1/\y = 1:=by
 intro x y lo
 have hq:∀ f ∈ ((gs.map fun g=>(g.1,Ac.lw g.2 S)).map (·.2)),Fq f:=by
  intro f hf
  obtain ⟨u,hu,rfl⟩:=List.mem_map.mp hf
  obtain ⟨g,hg,rfl⟩:=List.mem_map.mp hu
  exact (W.pair hg).fq
 have e0:(gs.map fun g=>(g.1,Ac.lw g.2 S)).map (·.2) = gs.map fun g=>Ac.lw g.2 S:=by rw [List.map_map]; rfl
 have bp:=Bg hq
 have top:=Xi W gs (lvB ((gs.map fun g=>(g.1,Ac.lw g.2 S)).map (·.2)):Nat) fun g hg=>⟨hg,Qp (f:=Ac.lw g.2 S) (List.mem_map.mpr ⟨(g.1,Ac.lw g.2 S),List.mem_map.mpr ⟨g,hg,rfl⟩,rfl⟩) (W.pair hg).fq⟩
 have e1:(lvT ((gs.map fun g=>(g.1,Ac.lw g.2 S)).map (·.2))).sum = (gs.map fun g=>(Ac.lw g.2 S).1 * ((lvB ((gs.map fun g=>(g.1,Ac.lw g.2 S)).map (·.2)):Nat) / (Ac.lw g.2 S).2)).sum:=by
  unfold lvT
  rw [List.map_map,List.map_map]; rfl
 rw [<- e1,W.sum,Int.mul_comm S] at top
 have e2:=Int.eq_of_mul_eq_mul_right (Int.ne_of_gt W.pos) top
 rw [e2] at lo
 have h:=lo.eq
 rw [Int.mul_comm _ y] at h
 have e3:x = y:=Int.eq_of_mul_eq_mul_right (by omega) h
 subst e3
 have g:=lo.gcd
 have p:=lo.pos
 rw [Int.gcd_self] at g
 omega
def Keep (s:Addr) (H H':Hp):Prop:=∀ b o,b ≠ s->H b = some o->H' b = some o
theorem Keep.tup {s C dx:Addr} {fs:List (Str × V)} {H H':Hp} (h:Keep s H H') (hs:H s = some (.ins C dx fs)):∀ t ys,H t = some (.tup ys)->H' t = some (.tup ys):=fun t ys e=>h t _ (f9 e hs (by intro z; cases z)) e
theorem Keep.lst {s C dx:Addr} {fs:List (Str × V)} {H H':Hp} (h:Keep s H H') (hs:H s = some (.ins C dx fs)) {t:Addr} {ys:List V} (e:H t = some (.lst ys)):H' t = some (.lst ys):=h t _ (f9 e hs (by intro z; cases z)) e
theorem Keep.free {s r:Addr} {o:HO} {H H':Hp} (h:Keep s H H') (hr:H' r = none) (hs:H' s = some o):H r = none:=by
 cases z:H r with
 | none=>rfl
 | some u =>
  have:=h r u (bI hs hr).symm z
  rw [hr] at this
  cases this
theorem WF.updI {H:Hp} {o C dx:Addr} {fs:List (Str × V)} {u:HO} (ho:H o = some (.ins C dx fs)) {xs:List V} {gs:List (Str × Int × Int)} {ws:List (Str × Addr)} (h:WF K H xs gs ws):WF K (upd H o u) xs gs ws :=
 h.imp (fun t us e=>(bL (f9 e ho (by intro z; cases z))).trans e) fun c xs e=>e.updO ho (by intro ys z; cases z) (by intro ob ys z; cases z)
theorem PW.snoc {H:Hp} {xs:List V} {gs:List (Str × Int)} {S:Int} (h:PW H xs gs S) {t c:Addr} {g:Str × Int} (h1:H t = some (.tup [.str g.1,.ref c])) (h2:H c = some (.tup [.int (Ac.lw g.2 S).1,.int (Ac.lw g.2 S).2])):PW H (xs ++ [.ref t]) (gs ++ [g]) S:=by
 refine ⟨by rw [aB,aB,h.len]; rfl,fun k u e=>?_⟩
 by_cases hk:k < gs.length
 .rw [aF hk] at e
  rw [aF (by rw [h.len]; exact hk)]
  exact h.at_ k u e
 .rw [aD (by omega)] at e
  rw [aD (by rw [h.len]; omega),h.len]
  have e0:k - gs.length = 0:=by
   cases e1:k - gs.length with
   | zero=>rfl
   | succ m=>rw [e1] at e; simp at e
  rw [e0,List.getElem?_cons_zero] at e
  cases e
  rw [e0]
  exact ⟨t,c,rfl,h1,h2⟩
structure Rt (K:Frag) (H:Hp) (s C:Addr) (n:Str) (p:Addr) (ds:List (Str × Int × Int)) (ld:Addr) (ys:List V) (ws:List (Str × Addr)):Prop where
 at_:∃ dx,H s = some (.ins C dx [("name",.str n),("pay",.ref p),("leads",.ref ld)])
 hl:H ld = some (.lst ys)
 wf:WF K H ys ds ws
def fX (K:Frag) (D:Adr):Sp:=fun vs H Q _=>∃ (s dx C:Addr) (n:Str) (p l:Addr) (x y:Int) (xs:List V) (gs:List (Str × Int)) (S:Int),vs = [.ref s,.str n,.ref p,.ref l]/\H s = some (.ins C dx [])/\Fam D C/\n.length <= 1000/\j9 n.cps.toList = true/\Fk K H p x y /\
 H l = some (.lst xs)/\PW H xs gs S/\Wt gs S/\∀ H' ld ys ws,H ld = none->Keep s H H'->Rt K H' s C n p (Ac.ways gs S) ld ys ws->Q .non H'
theorem Fp (F:Fun K vI vC qF f fd) (T:Txt K mg D) (jt:OkI P w K mg base (CXO P w) 4 D.Door_init jm (jy (K:=K) D)) (Bv:OkX P w K mg base 4 iH iI kW)
  (Dw:OkX P w K mg base 4 iT jf (uX K)):cC P w K mg base (CXO P w) 5 f fd fV (fX K D):=by
 refine F.okX Ep (fun vs H Q E h=>?_) (fun cdv A outer s H vs Q E hr h=>?_)
 .obtain ⟨s,dx,C,n,p,l,x,y,xs,gs,S,rfl,_⟩:=h
  rfl
 .obtain ⟨o,dx,C,n,p,l,x,y,xs,gs,S,rfl,ho,hC,hn,hw,hf,hl,hp,W,q⟩:=h
  refine ⟨_,(bM (dD (yM T.wZ jt (hr.mono (by decide)) (by rfl) T.X3 gq (bF (pv 0) (bF (pv 1) (bF (pv 2) bH)))))
   (bM (dD (gG Bv (hr.mono (by decide)) (by rfl) gq (bF (pv 3) bH)))
   (bO (sS (pv 0) (gG Dw (hr.mono (by decide)) (by rfl) gq (bF (pv 3) bH)) rfl)))),?_⟩
  unfold jy kW uX
  walk_at "rd"
  refine ⟨dx,C,ho,hC,hn,hw,⟨x,y,hf⟩,fun l0 h0=>?_⟩
  have ol:o ≠ l0:=bI bK h0
  rw [bL ol.symm] at h0
  have k1:Keep o H (upd (upd H l0 (.lst [])) o (.ins C dx [("name",.str n),("pay",.ref p),("leads",.ref l0)])):=fun b u hb e=>(bL hb).trans ((bL (bI e h0)).trans e)
  have o1:upd (upd H l0 (.lst [])) o (.ins C dx [("name",.str n),("pay",.ref p),("leads",.ref l0)]) o = some (.ins C dx [("name",.str n),("pay",.ref p),("leads",.ref l0)]):=bK
  generalize upd (upd H l0 (.lst [])) o (.ins C dx [("name",.str n),("pay",.ref p),("leads",.ref l0)]) = H1 at k1 o1 ⊢
  refine ⟨xs,k1.lst ho hl,_,(hp.imp (k1.tup ho)).pairs,?_,?_,Vm W,fun H2 S2=>?_⟩
  .intro g hg
   obtain ⟨u,hu,rfl⟩:=List.mem_map.mp hg
   exact W.pair hu
  .rw [ao]
   exact aN W.len (by decide)
  .refine ⟨xs,S2 _ _ (k1.lst ho hl),gs,S,(hp.imp (k1.tup ho)).same S2,W,fun H3 r ys ws S3 hr3 hr hwf=>?_⟩
   have o3:=S3 _ _ (S2 _ _ o1)
   refine ⟨C,dx,_,o3,T.cl C hC,T.CJ C hC,(by show 3 < 1000; decide),?_⟩
   refine q _ r ys ws (k1.free (S2.free hr3) o1) (fun b u hb e=>(bL hb).trans (S3 _ _ (S2 _ _ (k1 b u hb e)))) ⟨⟨dx,bK⟩,(bL (f9 hr o3 (by intro z; cases z))).trans hr,hwf.updI o3⟩
def rM (K:Frag) (D:Adr):Sp:=fun vs H Q _=>∃ (s dx:Addr) (n r1 r2:Str) (p c:Addr) (x y w S:Int),vs = [.ref s,.str n,.ref p,.ref c,.str r1,.str r2]/\H s = some (.ins D.Toss dx [])/\n.length <= 1000/\j9 n.cps.toList = true/\Fk K H p x y /\
 H c = some (.tup [.int (Ac.lw w S).1,.int (Ac.lw w S).2])/\Wt [(r1,w),(r2,S - w)] S/\∀ H' ld ys ws,H ld = none->Keep s H H'->Rt K H' s D.Toss n p (Ac.ways [(r1,w),(r2,S - w)] S) ld ys ws->Q .non H'
theorem Jj (F:Fun K xZ wO tY f fd) (T:Txt K mg D) (ig:OkX P w K mg base 3 iw gZ (g_ (K:=K))) (nq:OkX P w K mg base 3 fB fH (oE (K:=K))) (WK:OkX P w K mg base 3 sy sZ (p8 (K:=K) (· - ·)))
  (d7:OkI P w K mg base (CXO P w) 5 D.Mixed_init fV (fX K D)):cC P w K mg base (CXO P w) 6 f fd lO (rM K D):=by
 refine F.okX HS (fun vs H Q E h=>?_) (fun cdv A outer s H vs Q E hr h=>?_)
 .obtain ⟨s,dx,n,r1,r2,p,c,x,y,w,S,rfl,_⟩:=h
  rfl
 .obtain ⟨o,dx,n,r1,r2,p,c,x,y,w,S,rfl,ho,hn,hw,hf,hc,W,q⟩:=h
  refine ⟨_,(bM (dD (gG ig (hr.mono (by decide)) (by rfl) gq (bF (pv 1) (bF (pv 2) bH))))
   (bM (dD (gG nq (hr.mono (by decide)) (by rfl) gq (bF (pv 3) bH)))
   (bO (dD (yM T.vB d7 (hr.mono (by decide)) (by rfl) T.Ik gq (bF (pv 0) (bF (pv 1) (bF (pv 2) (bF (lY (bF (j6 (bF (pv 4) (bF (pv 3) bH))) (bF (j6 (bF (pv 5) (bF (gG WK (hr.mono (by decide)) (by rfl) gq (bF (iY (by rfl) T.Ml) (bF (pv 3) bH))) bH))) bH))) bH))))))))),?_⟩
  unfold g_ oE p8 fX
  walk_at "rd"
  have p0:=W.pos
  have sle:=W.le
  have w0:0 <= w:=W.lo (r1,w) (by simp)
  have w1:w <= S:=W.hi (g:=(r1,w)) (by simp)
  have q2:=Ac.jD (t:=w) p0
  have b3:=Td (aN (Ac.BL w S) (by omega:w.natAbs <= 10 ^ 20))
  have b4:=Td (aN (Ac.zQ w S) (by omega:S.natAbs <= 10 ^ 20))
  have b1:Bd 1:=Bd.sm (by decide)
  refine ⟨hn,hw,⟨x,y,hf⟩,⟨_,_,⟨.of hc,q2,Ac.wA p0⟩,Ac.aaV p0 w0,Ac.aa1 p0 w1,b4⟩,d8,fun p1 h1=>⟨1,1,T.Ci _,_,_,.of (Same.upd h1 _ _ hc),b1,b1,b3,b4,by decide,q2,by rw [Int.one_mul]; exact b4,fun r z o1 lo hr=>⟨d8,fun p2 h2=>⟨d8,fun p3 h3=>?_⟩⟩⟩⟩
  have T2:Same (upd H p1 (.tup [.str r1,.ref c])) (upd (upd H p1 (.tup [.str r1,.ref c])) r (.tup [.int z,.int o1])):=Same.upd hr
  have T3:Same (upd (upd H p1 (.tup [.str r1,.ref c])) r (.tup [.int z,.int o1])) (upd (upd (upd H p1 (.tup [.str r1,.ref c])) r (.tup [.int z,.int o1])) p2 (.tup [.str r2,.ref r])):=Same.upd h2
  have T4:Same (upd (upd (upd H p1 (.tup [.str r1,.ref c])) r (.tup [.int z,.int o1])) p2 (.tup [.str r2,.ref r])) (upd (upd (upd (upd H p1 (.tup [.str r1,.ref c])) r (.tup [.int z,.int o1])) p2 (.tup [.str r2,.ref r])) p3 (.lst [.ref p1,.ref p2])):=Same.upd h3
  have TS:Same H (upd (upd (upd (upd H p1 (.tup [.str r1,.ref c])) r (.tup [.int z,.int o1])) p2 (.tup [.str r2,.ref r])) p3 (.lst [.ref p1,.ref p2])):=(Same.upd h1).trans (T2.trans (T3.trans T4))
  have e1:=T4 _ _ (T3 _ _ (T2 p1 _ bK))
  have e2:=T4 _ _ (T3 r _ bK)
  have e3:=T4 p2 _ bK
  obtain ⟨ez,eo⟩:=Ac.Ir p0 lo.pos lo.gcd lo.eq
  generalize upd (upd (upd (upd H p1 (.tup [.str r1,.ref c])) r (.tup [.int z,.int o1])) p2 (.tup [.str r2,.ref r])) p3 (.lst [.ref p1,.ref p2]) = Hn at TS e1 e2 e3 ⊢
  refine ⟨dx,D.Toss,TS _ _ ho,(by simp [Fam]),hn,hw,⟨x,y,hf.same TS⟩,[(r1,w),(r2,S - w)],S,⟨rfl,fun k g e=>?_⟩,W,fun H' ld ys ws f k d=>q H' ld ys ws (TS.free f) (fun b u hb e=>k b u hb (TS b u e)) d⟩
  match k,e with
  | 0,e =>
   cases e
   exact ⟨p1,c,rfl,e1,TS _ _ hc⟩
  | 1,e =>
   cases e
   exact ⟨p2,r,rfl,e3,by rw [<- ez,<- eo]; exact e2⟩
  | k + 2,e=>cases e
def jE (D1:Addr) (rs:List Str) (H:Hp) (k:Nat) (ys:List V) (Hc:Hp):Prop:=PW Hc ys ((rs.map fun r=>(r,(1:Int))).take k) rs.length/\Same H Hc/\Hc D1 = some (.lst ys)
def rB (K:Frag) (D:Adr):Sp:=fun vs H Q _=>∃ (s dx:Addr) (n:Str) (p l:Addr) (x y:Int) (rs:List Str),vs = [.ref s,.str n,.ref p,.ref l]/\H s = some (.ins D.Even dx [])/\n.length <= 1000/\j9 n.cps.toList = true/\Fk K H p x y /\
 H l = some (.lst (rs.map V.str))/\Wt (rs.map fun r=>(r,(1:Int))) rs.length/\∀ H' ld ys ws,H ld = none->Keep s H H'->Rt K H' s D.Even n p (Ac.ways (rs.map fun r=>(r,(1:Int))) rs.length) ld ys ws->Q .non H'
theorem Ko (F:Fun K xM yh pL f fd) (T:Txt K mg D) (d7:OkI P w K mg base (CXO P w) 5 D.Mixed_init fV (fX K D)):cC P w K mg base (CXO P w) 6 f fd lW (rB K D):=by
 refine F.okX Hz (fun vs H Q E h=>?_) (fun cdv A outer s H vs Q E hr h=>?_)
 .obtain ⟨s,dx,n,p,l,x,y,rs,rfl,_⟩:=h
  rfl
 .obtain ⟨o,dx,n,p,l,x,y,rs,rfl,ho,hn,hw,hf,hl,W,q⟩:=h
  refine ⟨_,(bO (dD (yM T.vB d7 (hr.mono (by decide)) (by rfl) T.Ik gq (bF (pv 0) (bF (pv 1) (bF (pv 2) (bF (jM (bN pL) sJ sJ ["room"] (cX ((pv 3)).mono) (eG (i:=0)) dj (j6 (bF (pv 0) (bF (j6 (bF bG (bF (b_ d_ (by rfl) T.kI PySem.boot_len (bF (pv 4) bH)) bH))) bH)))) bH))))))),?_⟩
  unfold fX
  walk_at "rd"
  refine dH ?_
  walk_at "rd"
  have l8:=W.len
  rw [ao] at l8
  have p0:=W.pos
  have z9:9 < sizeLine:=by decide
  refine ⟨_,hl,by rw [ao]; omega,fun D1 hD=>⟨jE D1 rs H,⟨⟨rfl,fun k g e=>by simp at e⟩,Same.upd hD,bK⟩,?_,?_⟩⟩
  .rintro k x1 ys Hc hk ⟨pw,S1,hD1⟩ hy hlc
   rw [au] at hk
   cases er:rs[k]? with
   | none=>rw [er] at hk; cases hk
   | some r =>
    rw [er] at hk
    cases hk
    refine ⟨_,hlc,d8,fun p1 hp1=>⟨d8,fun p2 hp2=>?_⟩⟩
    have T1:Same Hc (upd (upd Hc p1 (.tup [.int 1,.int (rs.map V.str).length])) p2 (.tup [.str r,.ref p1])):=(Same.upd hp1).trans (Same.upd hp2)
    have e1:upd (upd Hc p1 (.tup [.int 1,.int (rs.map V.str).length])) p2 (.tup [.str r,.ref p1]) p1 = some (.tup [.int 1,.int (rs.map V.str).length]):=Same.upd hp2 p1 _ bK
    have e2:upd (upd Hc p1 (.tup [.int 1,.int (rs.map V.str).length])) p2 (.tup [.str r,.ref p1]) p2 = some (.tup [.str r,.ref p1]):=bK
    generalize upd (upd Hc p1 (.tup [.int 1,.int (rs.map V.str).length])) p2 (.tup [.str r,.ref p1]) = Hn at T1 e1 e2 ⊢
    have nD:∀ t us,Hn t = some (.tup us)->upd Hn D1 (.lst (ys ++ [.ref p2])) t = some (.tup us):=fun t us e=>(bL (f9 e (T1 _ _ hD1) (by intro z; cases z))).trans e
    refine ⟨T1 _ _ hD1,T1 _ _ hlc,?_,?_,bK⟩
    .rw [List.take_succ,au,er]
     refine ((pw.same T1).imp nD).snoc (c:=p1) (nD _ _ e2) ?_
     obtain ⟨h1,h2⟩:=Ac.abj p0
     show _ = some (HO.tup [.int (Ac.lw 1 (rs.length:Int)).1,.int (Ac.lw 1 (rs.length:Int)).2])
     rw [h1,h2,nD _ _ e1,ao]
    .intro b u e
     rw [bL (bI e hD)]
     exact T1 _ _ (S1 _ _ e)
  .rintro ys Hc ⟨pw,S1,hD1⟩ hy
   have ek:(rs.map fun r=>(r,(1:Int))).take (rs.map V.str).length = rs.map fun r=>(r,(1:Int)):=aM (by rw [ao,ao]; exact aG _)
   rw [ek] at pw
   exact ⟨dx,D.Even,S1 _ _ ho,(by simp [Fam]),hn,hw,⟨x,y,hf.same S1⟩,ys,hD1,_,_,pw,W,fun H' ld ys ws f k d=>q H' ld ys ws (S1.free f) (fun b u hb e=>k b u hb (S1 b u e)) d⟩
def Lt (x:Str):Prop:=x.cps.toList.all wz = true
theorem Qn (x y:Str):(x ++ y).cps.toList = x.cps.toList ++ y.cps.toList:=by
 show (x.cps ++ y.cps).toList = _
 rw [Array.toList_append]
theorem Z2 (x y:Str):(x ++ y).length = x.length + y.length:=by
 show (x.cps ++ y.cps).size = _
 rw [Array.size_append]; rfl
theorem Wo {α:Type} {xs:List α} {i:Int} (h0:0 <= i) (h1:i < xs.length):∃ v,atI xs i = some v/\v ∈ xs:=by
 obtain ⟨n,rfl⟩:=Int.eq_ofNat_of_zero_le h0
 have hn:n < xs.length:=by omega
 exact ⟨xs[n],cg (aj hn),aW hn⟩
theorem Lt.one {i:Int} (h0:0 <= i) (h1:i < 26):∃ c,atI (Str.ofString "abcdefghijklmnopqrstuvwxyz").cps.toList i = some c/\Lt ⟨#[c]⟩:=by
 have l1:(Str.ofString "abcdefghijklmnopqrstuvwxyz").cps.toList.length = 26:=by decide +kernel
 obtain ⟨v,e,e2⟩:=Wo (xs:=(Str.ofString "abcdefghijklmnopqrstuvwxyz").cps.toList) h0 (by rw [l1]; exact h1)
 refine ⟨v,e,?_⟩
 unfold Lt wz
 simp only [List.all_cons,List.all_nil,Bool.and_true,decide_eq_true_eq]
 exact e2
structure Wd (x:Str):Prop where
 lt:Lt x
 lo:1 <= x.length
 hi:x.length <= 8
theorem Wd.word {x:Str} (h:Wd x):j9 x.cps.toList = true:=by
 have l:=h.lt
 have lo:=h.lo
 have hi:=h.hi
 have hl:x.cps.toList.length = x.length:=Array.length_toList
 unfold Lt at l
 unfold j9
 rw [l,hl,decide_eq_true lo,decide_eq_true hi]; rfl
theorem Lt.fold:∀ (ys:List Str) (acc:Array Nat),acc.toList.all wz = true->(∀ y ∈ ys,Lt y)->(ys.foldl (fun acc p=>acc ++ (Str.ofString "").cps ++ p.cps) acc).toList.all wz = true
 | [],acc,h,_=>h
 | y :: ys,acc,h,hy=>by
  rw [List.foldl_cons]
  refine Lt.fold ys _ ?_ fun z hz=>hy z (aJ _ hz)
  have e0:(Str.ofString "").cps = #[]:=by decide +kernel
  have hy0:y.cps.toList.all wz = true:=hy y aP
  rw [e0,Array.append_empty,Array.toList_append,List.all_append,h,hy0]; rfl
theorem Lt.glued {ys:List Str} (h:∀ y ∈ ys,Lt y):Lt (Txt.join (Str.ofString "") ys):=by
 show ((ys.drop 1).foldl (fun acc p=>acc ++ (Str.ofString "").cps ++ p.cps) (ys.headD Str.empty).cps).toList.all wz = true
 refine Lt.fold _ _ ?_ fun y hy=>h y (List.mem_of_mem_drop hy)
 cases ys with
 | nil=>rfl
 | cons y ys=>exact h y aP
def vD (ns:List Str) (o:Nat):List (Key × V):=(ns.zipIdx o).map fun g=>(.inr g.1,.int (g.2:Nat))
abbrev yW (ns:List Str):List (Key × V):=vD ns 0
theorem DK {ns:List Str} {o:Nat} : (vD ns o).length = ns.length:=by unfold vD; rw [ao,List.length_zipIdx]
theorem zu {n:Str} {ns:List Str} {o:Nat} : vD (n :: ns) o = (.inr n,.int (o:Nat)) :: vD ns (o + 1):=by unfold vD; rw [List.zipIdx_cons]; rfl
theorem Ra {n:Str} : ∀ {ns:List Str} {o:Nat},n ∉ ns->pB (vD ns o) (.inr n) = none
 | [],_,_=>rfl
 | a :: ns,o,h=>by
  rw [zu]
  have ne:¬ (Sum.inr a:Key) = .inr n:=fun z=>h (by injection z with z; rw [z]; exact aP)
  unfold pB
  rw [List.find?_cons,decide_eq_false ne]
  exact Ra fun m=>h (aJ _ m)
theorem Mg {n:Str} : ∀ {ns:List Str} {o k:Nat},ns.Nodup->ns[k]? = some n->pB (vD ns o) (.inr n) = some (.int ((o + k:Nat):Int))
 | [],_,_,_,h=>by simp at h
 | a :: ns,o,0,_,h=>by
  rw [List.getElem?_cons_zero] at h
  cases h
  rw [zu]
  unfold pB
  rw [List.find?_cons,decide_eq_true rfl]; rfl
 | a :: ns,o,k + 1,nd,h=>by
  rw [List.getElem?_cons_succ] at h
  obtain ⟨na,nd'⟩:=List.nodup_cons.mp nd
  have ne:¬ (Sum.inr a:Key) = .inr n:=fun z=>na (by injection z with z; rw [z]; exact aC h)
  have ih:=Mg (o:=o + 1) nd' h
  rw [zu]
  unfold pB at ih ⊢
  rw [List.find?_cons,decide_eq_false ne]
  rw [show o + (k + 1) = o + 1 + k by omega]
  exact ih
theorem WY {n:Str} {ns:List Str} (h:n ∉ ns):putK (yW ns) (.inr n) (.int (ns.length:Nat)) = yW (ns ++ [n]):=by
 have a:((yW ns).any fun kv=>decide (kv.1 = .inr n)) = false:=by
  rw [List.any_eq_false]
  intro kv hk
  unfold yW vD at hk
  obtain ⟨g,hg,rfl⟩:=List.mem_map.mp hk
  have:g.1 ∈ ns:=by
   have:=List.mem_map_of_mem (f:=Prod.fst) hg
   rwa [List.zipIdx_map_fst] at this  
  intro z
  have z:(Sum.inr g.1:Key) = .inr n:=of_decide_eq_true z
  injection z with z
  exact h (z ▸ this)
 unfold putK
 rw [a,if_neg (by decide)]
 unfold yW vD
 rw [List.zipIdx_append,bC,Nat.zero_add]; rfl
structure Qd (H:Hp) (xs:List V) (ns:List Str):Prop where
 len:xs.length = ns.length
 at_:∀ (k:Nat) (n:Str),ns[k]? = some n->∃ t v,xs[k]? = some (.ref t)/\H t = some (.tup [.str n,v])
theorem Dl {α:Type} {l:List α} {k:Nat} {a:α} (nd:l.Nodup) (e:l[k]? = some a):a ∉ l.take k:=by
 obtain ⟨lk,rfl⟩:=aq.mp e
 rw [<- List.take_append_drop k l,List.nodup_append] at nd
 intro z
 refine nd.2.2 _ z _ ?_ rfl
 rw [List.drop_eq_getElem_cons lk]
 exact aP
def lu:Sp:=fun vs H Q _=>∃ (p:Addr) (x y:Int),vs = [.ref p]/\Fk K H p x y/\0 <= x/\x < y/\Bd x/\Bd y/\Q .non H
theorem Di (F:Fun K jk jk pQ f fd) (T:Txt K mg D) (gQ:OkF P w K mg base 2 iG iR (gK (K:=K))) (jY:OkF P w K mg base 1 m_ mZ (m9 (K:=K))):cC P w K mg base CX0 3 f fd iZ (lu (K:=K)):=by
 refine F.ok Ds (fun vs H Q E h=>?_) (fun cdv A outer s H vs Q E hr h=>?_)
 .obtain ⟨p,x,y,rfl,_⟩:=h
  rfl
 .obtain ⟨p,x,y,rfl,fk,x0,xy,bx,b_y,q⟩:=h
  refine ⟨_,(bO (cY (PW.pt (pw_or (d9 (dz (bQ gQ (hr.mono (by decide)) (by rfl) (bF (pv 0) bH)) (fun _=>rfl))) (pw_or (dz (bQ jY (hr.mono (by decide)) (by rfl) (bF (pv 0) (bF (iY (by rfl) T.qj) bH))) (fun _=>rfl)) (pw_or1 (d9 (dz (bQ jY (hr.mono (by decide)) (by rfl) (bF (pv 0) (bF (iY (by rfl) T.Ml) bH))) (fun _=>rfl)))))))
    (bO o8)
    cB)),?_⟩
  unfold gK m9
  walk_at "rd"
  have hy:=fk.pos
  have b0:Bd 0:=Nat.two_pow_pos 8000
  have b1:Bd 1:=Nat.one_lt_two_pow (by decide)
  refine ⟨⟨x,y,fk⟩,x,y,fk.at_,0,1,T.oF H,bx,b_y,b0,b1,?_⟩
  rw [if_neg (by simp; omega)]
  refine ⟨x,y,fk.at_,1,1,T.Ci H,bx,b_y,b1,b1,?_⟩
  rw [if_neg (by simp; omega)]
  exact q
def mV:Sp:=fun vs H Q _=>∃ (l:Addr) (xs:List V) (rs:List Str),vs = [.ref l]/\H l = some (.lst xs)/\Qd H xs rs/\rs.Nodup/\(∀ g ∈ rs,Wd g)/\rs.length <= 20 /\
 ∀ d H',Same H H'->H d = none->H' d = some (.dK (yW rs))->Q (.ref d) H'
def nJ (l d:Addr) (rs:List Str) (H:Hp) (k:Nat) (σ:L2.St) (H':Hp):Prop:=∃ u v,σ = [some (.ref l),some (.ref d),u,v]/\Same H H'/\H' d = some (.dK (yW (rs.take k)))
theorem Eo (F:Fun K jT jT qT f fd) (T:Txt K mg D) (jw:OkF P w K mg base 1 j7 jZ uN):cC P w K mg base CX0 2 f fd jU mV:=by
 refine F.ok mL (fun vs H Q E h=>?_) (fun cdv A outer s H vs Q E hr h=>?_)
 .obtain ⟨l,xs,rs,rfl,_⟩:=h
  rfl
 .obtain ⟨l,xs,rs,rfl,hl,ra,nd,wd,n20,q⟩:=h
  refine ⟨_,(bM (cA (i:=1) mL.nd rfl (Or.inl rfl) CN)
   (bM (iV PassesOwn.never rfl (cX ((pv 0)).mono) (cH (i:=2) mL.nd rfl (Or.inl rfl))
    (bM (cA (i:=3) mL.nd rfl (Or.inl rfl) (bV cW (pv 2) bG (fun _ _=>rfl)))
    (bM (cY (PW.pt (pw_or (d9 (dz (bQ jw (hr.mono (by decide)) (by rfl) (bF (pv 3) bH)) (fun _=>rfl))) (pw_or1 (Nr (W4 (vL hr) (pv 3) (pv 1))))))
     (bO o8)
     cB)
    (bO (Hg (vL hr) (pv 1) (pv 3) (b_ G6 (by rfl) T.kI PySem.boot_len (bF (pv 1) bH)) rfl)))))
   (bO (cu (pv 1))))),?_⟩
  unfold uN
  walk_at "rd"
  refine fun d hd=>fY ?_
  walk_at "rd"
  have ld:l ≠ d:=bI hl hd
  refine ⟨xs,(bL ld).trans hl,nJ l d rs H,⟨none,none,rfl,Same.upd hd,bK⟩,?_,?_⟩
  .rintro k x σ' H' hk ⟨u,v,rfl,S1,h1⟩ hl'
   have lk:k < rs.length:=by rw [<- ra.len]; exact (aq.mp hk).1
   have e:rs[k]? = some rs[k]:=aj lk
   have hm:=aW lk
   obtain ⟨t,dv,a,b⟩:=ra.at_ k _ e
   rw [hk] at a
   cases a
   have hw:=wd _ hm
   have no:rs[k] ∉ rs.take k:=by exact Dl nd e
   generalize rs[k] = n at *
   walk_at "rd"
   have l9:=hw.hi
   refine ⟨_,S1 _ _ b,_,dB,.inl ⟨n,rfl,aN l9 (by decide),?_⟩⟩
   rw [if_neg (by rw [hw.word]; decide)]
   refine ⟨_,uz.k (k:=.inr n) h1,?_⟩
   rw [Ra no,if_neg (by decide)]
   have hlen:(yW (rs.take k)).length < sizeLine:=by
    have h9:21 < sizeLine:=by decide
    rw [DK,bw]
    omega
   refine ⟨d,_,rfl,h1,_,PB.k (k:=.inr n) h1 hlen,(bL ld).trans hl',_,_,rfl,fun b' o' e'=>(bL (bI e' hd)).trans (S1 _ _ e'),?_⟩
   rw [bK,DK,WY no,cF e]
  .rintro σ' H' ⟨u,v,rfl,S1,h1⟩ _
   rw [ra.len,aQ] at h1
   walk_at "rd"
   exact q d H' S1 hd h1
structure NWs (ns:List Str) (H:Hp) (zs:List V) (ws:List (Str × Addr)):Prop where
 len:zs.length = ws.length
 at_:∀ (k:Nat) (g:Str × Addr),ws[k]? = some g->∃ t i,zs[k]? = some (.ref t)/\ns[i]? = some g.1/\H t = some (.tup [.int (i:Nat),.ref g.2])
theorem NWs.imp {ns:List Str} {H H':Hp} {zs:List V} {ws:List (Str × Addr)} (h':∀ t ys,H t = some (.tup ys)->H' t = some (.tup ys)) (h:NWs ns H zs ws):NWs ns H' zs ws:=⟨h.len,fun k g e=>let ⟨t,i,a,b,c⟩:=h.at_ k g e; ⟨t,i,a,b,h' _ _ c⟩⟩
theorem NWs.snoc {ns:List Str} {H:Hp} {zs:List V} {ws:List (Str × Addr)} {t:Addr} {i:Nat} {g:Str × Addr} (h:NWs ns H zs ws) (hi:ns[i]? = some g.1) (ht:H t = some (.tup [.int (i:Nat),.ref g.2])):NWs ns H (zs ++ [.ref t]) (ws ++ [g]):=by
 refine ⟨by rw [aB,aB,h.len]; rfl,fun k g' e=>?_⟩
 by_cases hk:k < ws.length
 .rw [aF hk] at e
  obtain ⟨t',i',a,b,c⟩:=h.at_ k g' e
  exact ⟨t',i',by rw [aF (by rw [h.len]; exact hk)]; exact a,b,c⟩
 .rw [aD (by omega)] at e
  have e0:k - ws.length = 0:=by
   have:=(aq.mp e).1
   simp at this; omega
  rw [e0] at e
  cases e
  refine ⟨t,i,?_,hi,ht⟩
  rw [aD (by rw [h.len]; omega),h.len,e0]; rfl
def jq (D:Adr):Sp:=fun vs H Q _=>∃ (s n C dx p l:Addr) (nm:Str) (xs:List V) (ws:List (Str × Addr)) (ns:List Str),vs = [.ref s,.ref n]/\eU D C/\H s = some (.ins C dx [("name",.str nm),("pay",.ref p),("leads",.ref l)])/\H l = some (.lst xs)/\Tg H xs ws/\ws.length <= 100/\H n = some (.dK (yW ns))/\ns.Nodup/\(∀ g ∈ ws,g.1 ∈ ns) /\
 ∀ r H' zs,Same H H'->H r = none->H' r = some (.lst zs)->NWs ns H' zs ws->Q (.ref r) H'
def nwJ (s n r:Addr) (ns:List Str) (ws:List (Str × Addr)) (H:Hp) (k:Nat) (σ:L2.St) (H':Hp):Prop:=∃ u v zs,σ = [some (.ref s),some (.ref n),some (.ref r),u,v]/\Same H H'/\H' r = some (.lst zs)/\NWs ns H' zs (ws.take k)
theorem zB (F:Fun K gH gH nM f fd) (T:Txt K mg D) (sG:OkI P w K mg base CX0 1 D.Door_ways kh (ou D)):cC P w K mg base CX0 2 f fd gF (jq D):=by
 refine F.ok jz (fun vs H Q E h=>?_) (fun cdv A outer s H vs Q E hr h=>?_)
 .obtain ⟨d,n,C,dx,p,l,nm,xs,ws,ns,rfl,_⟩:=h
  rfl
 .obtain ⟨d,n,C,dx,p,l,nm,xs,ws,ns,rfl,hC,hs,hl,hw,n100,hn,nd,hin,q⟩:=h
  refine ⟨_,(bM (cA (i:=2) jz.nd rfl (Or.inl rfl) (lY bH))
   (bM (iV PassesOwn.never rfl (cX ((PE.any fun C (hC:eU D C)=>(vp (pv 0) (T.cl C hC.fam) (T.JD C hC) sG (hr.mono (by decide))))).mono) (iD (n:=2) rfl (cD (cH (i:=3) jz.nd rfl (Or.inl rfl)) (cD (cH (i:=4) jz.nd rfl (Or.inl rfl)) gO)))
    (bM (cY (Nr (Ti (vL hr) (pv 3) (pv 1)))
     (bO o8)
     cB)
    (bO (dD (sU (pv 2) (bF (j6 (bF (Kd (vL hr) (pv 1) (pv 3) (fun _ _=>rfl)) (bF (pv 4) bH))) bH))))))
   (bO (cu (pv 2))))),?_⟩
  unfold ou
  walk_at "rd"
  refine ⟨by decide,fun r hrn=>fY ?_⟩
  walk_at "rd"
  have sr:∀ {b o},H b = some o->(upd H r (.lst [])) b = some o:=fun {b o} e=>(bL (bI e hrn)).trans e
  refine ⟨C,hC,dx,_,sr hs,rfl,nm,p,l,⟨C,dx,hC.fam,sr hs⟩,xs,sr hl,by rw [hw.len]; exact n100,fun r2 hr2=>⟨nwJ d n r ns ws H,?_,?_,?_⟩⟩
  .have rr:r ≠ r2:=bI bK hr2
   refine ⟨none,none,[],rfl,fun b o e=>(bL (bI (sr e) hr2)).trans (sr e),(bL rr).trans bK,rfl,fun k g e=>by simp at e⟩
  .rintro k x σ' H' hk ⟨u,v,zs,rfl,S1,h1,nw⟩ hx
   have lk:k < ws.length:=by rw [<- hw.len]; exact (aq.mp hk).1
   have e:ws[k]? = some ws[k]:=aj lk
   have hm:=hin _ (aW lk)
   obtain ⟨t,a,b⟩:=hw.at_ k _ e
   rw [hk] at a
   cases a
   generalize ws[k] = g at *
   obtain ⟨m,c⟩:=g
   obtain ⟨i,hi⟩:=aX hm
   walk_at "rd"
   have rr:r ≠ r2:=bI bK hr2
   have vl:pB (yW ns) (.inr m) = some (.int ((0 + i:Nat):Int)):=Mg nd hi
   have dg:uz H' n (kV (.inr m)) (some (.int ((0 + i:Nat):Int))):=vl ▸ uz.k (k:=.inr m) (S1 _ _ hn)
   refine ⟨_,S1 _ _ b,rfl,_,_,rfl,_,_,rfl,rfl,_,dg,?_⟩
   rw [if_neg (by simp)]
   refine ⟨⟨_,h1⟩,_,dg,d8,fun p hp=>?_⟩
   have rp:r ≠ p:=bI h1 hp
   have zl:zs.length < sizeLine:=by
    have h9:101 < sizeLine:=by decide
    rw [nw.len,bw]
    omega
   refine ⟨zs,(bL rp).trans h1,zl,(bL rr.symm).trans ((bL (bI hx hp)).trans hx),_,_,_,rfl,fun b' o' e'=>(bL (bI e' hrn)).trans ((bL (bI (S1 _ _ e') hp)).trans (S1 _ _ e')),bK,?_⟩
   rw [cF e]
   refine (nw.imp fun t ys e'=>?_).snoc hi ?_
   .rw [bL (f9 e' h1 (by intro z; cases z)),bL (bI e' hp)]; exact e'
   .rw [bL rp.symm,bK,Nat.zero_add]
  .rintro σ' H' ⟨u,v,zs,rfl,S1,h1,nw⟩ hx
   rw [hw.len,aQ] at nw
   walk_at "rd"
   exact q r H' zs S1 hrn h1 nw
def del (as:List Addr) (H:Hp):Hp:=fun b=>if b ∈ as then none else H b
theorem iJ {as:List Addr} {H:Hp} {b:Addr} {o:HO} (h:b ∉ as) (e:H b = some o):del as H b = some o:=by unfold del; rw [if_neg h]; exact e
theorem pO {as:List Addr} {H:Hp} {b:Addr} {o:HO} (e:del as H b = some o):b ∉ as/\H b = some o:=by
 unfold del at e
 split at e
 .cases e
 .exact ⟨by assumption,e⟩
theorem tL {as:List Addr} {H:Hp} : Same (del as H) H:=fun b o e=>(pO e).2
theorem ug {as:List Addr} {H H':Hp} (h:∀ b o,b ∉ as->H b = some o->H' b = some o):Same (del as H) (del as H'):=fun b o e=>let ⟨a,c⟩:=pO e; iJ a (h b o a c)
structure Dr where
 nm:Str
 p:Addr
 ws:List (Str × Addr)
def U9 (D:Adr) (H:Hp) (s:Addr) (g:Dr):Prop:=∃ C dx l xs,eU D C/\H s = some (.ins C dx [("name",.str g.nm),("pay",.ref g.p),("leads",.ref l)])/\H l = some (.lst xs)/\Tg H xs g.ws/\g.ws.length <= 100
theorem U9.same {H H':Hp} {s:Addr} {g:Dr} (S:Same H H') (h:U9 D H s g):U9 D H' s g:=let ⟨C,dx,l,xs,a,b,c,d,e⟩:=h; ⟨C,dx,l,xs,a,S _ _ b,S _ _ c,d.same S,e⟩
structure vK (D:Adr) (H:Hp) (xs:List V) (gs:List Dr):Prop where
 len:xs.length = gs.length
 at_:∀ (k:Nat) (g:Dr),gs[k]? = some g->∃ s,xs[k]? = some (.ref s)/\U9 D H s g
theorem vK.same {H H':Hp} {xs:List V} {gs:List Dr} (S:Same H H') (h:vK D H xs gs):vK D H' xs gs:=⟨h.len,fun k g e=>let ⟨s,a,b⟩:=h.at_ k g e; ⟨s,a,b.same S⟩⟩
structure pK (ns:List Str) (H:Hp) (zs:List V) (gs:List Dr):Prop where
 len:zs.length = gs.length
 at_:∀ (k:Nat) (g:Dr),gs[k]? = some g->∃ t r ys,zs[k]? = some (.ref t)/\H t = some (.tup [.str g.nm,.ref g.p,.ref r])/\H r = some (.lst ys)/\NWs ns H ys g.ws
theorem pK.same {ns:List Str} {H H':Hp} {zs:List V} {gs:List Dr} (S:Same H H') (h:pK ns H zs gs):pK ns H' zs gs:=⟨h.len,fun k g e=>let ⟨t,r,ys,a,b,c,d⟩:=h.at_ k g e; ⟨t,r,ys,a,S _ _ b,S _ _ c,d.imp fun _ _ z=>S _ _ z⟩⟩
theorem pK.snoc {ns:List Str} {H:Hp} {zs ys:List V} {gs:List Dr} {t r:Addr} {g:Dr} (h:pK ns H zs gs) (ht:H t = some (.tup [.str g.nm,.ref g.p,.ref r])) (hr:H r = some (.lst ys)) (hn:NWs ns H ys g.ws):pK ns H (zs ++ [.ref t]) (gs ++ [g]):=by
 refine ⟨by rw [aB,aB,h.len]; rfl,fun k g' e=>?_⟩
 by_cases hk:k < gs.length
 .rw [aF hk] at e
  obtain ⟨t',r',ys',a,b⟩:=h.at_ k g' e
  exact ⟨t',r',ys',by rw [aF (by rw [h.len]; exact hk)]; exact a,b⟩
 .rw [aD (by omega)] at e
  have e0:k - gs.length = 0:=by
   have:=(aq.mp e).1
   simp at this; omega
  rw [e0] at e
  cases e
  refine ⟨t,r,ys,?_,ht,hr,hn⟩
  rw [aD (by rw [h.len]; omega),h.len,e0]; rfl
def Cr (ns:List Str):List (Key × V):=ns.map fun n=>(.inr n,.bl true)
theorem Zt {n:Str} {ns:List Str} (h:n ∉ ns):pB (Cr ns) (.inr n) = none:=by
 unfold pB
 rw [List.find?_eq_none.mpr]
 .rfl
 .intro kv hk z
  unfold Cr at hk
  obtain ⟨m,hm,rfl⟩:=List.mem_map.mp hk
  have z:(Sum.inr m:Key) = .inr n:=of_decide_eq_true z
  injection z with z
  exact h (z ▸ hm)
theorem V3 {n:Str} {ns:List Str} (h:n ∉ ns):putK (Cr ns) (.inr n) (.bl true) = Cr (ns ++ [n]):=by
 have a:((Cr ns).any fun kv=>decide (kv.1 = .inr n)) = false:=by
  rw [List.any_eq_false]
  intro kv hk z
  unfold Cr at hk
  obtain ⟨m,hm,rfl⟩:=List.mem_map.mp hk
  have z:(Sum.inr m:Key) = .inr n:=of_decide_eq_true z
  injection z with z
  exact h (z ▸ hm)
 unfold putK
 rw [a,if_neg (by decide)]
 unfold Cr
 rw [bC]; rfl
def Qf (H:Hp) (as:List Addr):Prop:=∀ a ∈ as,∃ u,H a = some u/\∀ ys,u ≠ .tup ys
def oA (D:Adr):Sp:=fun vs H Q _=>∃ (l n:Addr) (xs:List V) (gs:List Dr) (ns:List Str),vs = [.ref l,.ref n]/\H l = some (.lst xs)/\vK D H xs gs/\gs.length <= 100/\(gs.map (·.nm)).Nodup/\H n = some (.dK (yW ns))/\ns.Nodup/\(∀ g ∈ gs,∀ z ∈ g.ws,z.1 ∈ ns) /\
 ∀ r H' zs,Same H H'->H r = none->H' r = some (.lst zs)->(∀ as,Qf H as->pK ns (del as H') zs gs)->Q (.ref r) H'
def oJ (l n d r:Addr) (ns:List Str) (gs:List Dr) (H:Hp) (k:Nat) (σ:L2.St) (H':Hp):Prop:=∃ u zs,σ = [some (.ref l),some (.ref n),some (.ref d),some (.ref r),u]/\Same H H'/\H' d = some (.dK (Cr ((gs.take k).map (·.nm))))/\H' r = some (.lst zs)/\∀ as,Qf H as->pK ns (del (d :: r :: as) H') zs (gs.take k)
theorem JM (F:Fun K lQ lQ uh f fd) (T:Txt K mg D) (nF:OkF P w K mg base 2 gH gF (jq D)):cC P w K mg base CX0 3 f fd lG (oA D):=by
 refine F.ok n_ (fun vs H Q E h=>?_) (fun cdv A outer s H vs Q E hr h=>?_)
 .obtain ⟨l,n,xs,gs,ns,rfl,_⟩:=h
  rfl
 .obtain ⟨l,n,xs,gs,ns,rfl,hl,dr,n100,ndg,hn,nd,hin,q⟩:=h
  refine ⟨_,(bM (cA (i:=2) n_.nd rfl (Or.inl rfl) CN)
   (bM (cA (i:=3) n_.nd rfl (Or.inl rfl) (lY bH))
   (bM (iV PassesOwn.never rfl (cX ((pv 0)).mono) (cH (i:=4) n_.nd rfl (Or.inl rfl))
    (bM (cY (Nr (W4 (vL hr) (qI (pv 4) rfl) (pv 2)))
     (bO o8)
     cB)
    (bM (Hg (vL hr) (pv 2) (qI (pv 4) rfl) iC rfl)
    (bO (dD (sU (pv 3) (bF (j6 (bF (qI (pv 4) rfl) (bF (qI (pv 4) rfl) (bF (bQ nF (hr.mono (by decide)) (by rfl) (bF (pv 4) (bF (pv 1) bH))) bH)))) bH)))))))
   (bO (cu (pv 3)))))),?_⟩
  unfold jq
  walk_at "rd"
  refine fun d hd=>⟨by decide,fun r hrn=>fY ?_⟩
  walk_at "rd"
  have dr0:d ≠ r:=bI bK hrn
  have hrn':H r = none:=(bL dr0.symm).symm.trans hrn
  have st:Same H (upd (upd H d (.dK [])) r (.lst [])):=fun b o e=>(bL (bI e hrn')).trans ((bL (bI e hd)).trans e)
  refine ⟨xs,st _ _ hl,oJ l n d r ns gs H,⟨none,[],rfl,st,(bL dr0).trans bK,bK,fun as _=>⟨rfl,fun k g e=>by simp at e⟩⟩,?_,?_⟩
  .rintro k x σ' H' hk ⟨u,zs,rfl,S1,h1,h2,of_⟩ hx
   have lk:k < gs.length:=by rw [<- dr.len]; exact (aq.mp hk).1
   have e:gs[k]? = some gs[k]:=aj lk
   have hm:=hin _ (aW lk)
   obtain ⟨t,a,b⟩:=dr.at_ k _ e
   rw [hk] at a
   cases a
   have no:gs[k].nm ∉ (gs.take k).map (·.nm):=by
    rw [List.map_take]
    exact Dl ndg (by rw [au,e]; rfl)
   generalize gs[k] = g at *
   obtain ⟨C,dx,ll,ys,hC,hs,hll,hw,w100⟩:=b.same S1
   walk_at "rd"
   refine ⟨C,dx,_,hs,T.cl C hC.fam,T.Bf C hC.fam,_,rfl,_,uz.k (k:=.inr g.nm) h1,?_⟩
   rw [Zt no,if_neg (by decide)]
   have hlen:(Cr ((gs.take k).map (·.nm))).length < sizeLine:=by
    have h9:101 < sizeLine:=by decide
    unfold Cr
    rw [ao,ao,bw]
    omega
   have up:∀ {b o},b ≠ d->H' b = some o->upd H' d (.dK (putK (Cr ((gs.take k).map (·.nm))) (.inr g.nm) (.bl true))) b = some o:=fun {b o} h e=>(bL h).trans e
   have td:t ≠ d:=f9 hs h1 (by intro z; cases z)
   have ld:ll ≠ d:=f9 hll h1 (by intro z; cases z)
   have nd_:n ≠ d:=bI hn hd
   refine ⟨C,dx,_,hs,T.cl C hC.fam,T.Bf C hC.fam,_,rfl,_,PB.k (k:=.inr g.nm) h1 hlen,⟨zs,up dr0.symm h2⟩,C,dx,_,up td hs,T.cl C hC.fam,T.Bf C hC.fam,_,rfl,C,dx,_,up td hs,T.cl C hC.fam,T.Wh C hC.fam,_,rfl,C,hC,dx,g.p,ll,⟨g.nm,up td hs⟩,ys,up ld hll,g.ws,⟨hw.len,fun k g e=>let ⟨t,a,b⟩:=hw.at_ k g e; ⟨t,a,up (f9 b h1 (by intro z; cases z)) b⟩⟩,w100,ns,up nd_ (S1 _ _ hn),nd,hm,?_⟩
   intro r3 H3 z3 S3 f3 e3 w3
   refine ⟨by decide,fun p hp=>?_⟩
   have lr:l ≠ r:=bI hl hrn'
   have ld0:l ≠ d:=bI hl hd
   have a1:=S3 _ _ (up dr0.symm h2)
   have a2:=S3 d _ bK
   have rp:r ≠ p:=bI a1 hp
   have dp:d ≠ p:=bI a2 hp
   have a3:=S3 _ _ (up ld0 hx)
   have zl:zs.length < sizeLine:=by
    have h9:101 < sizeLine:=by decide
    rw [(of_ [] (by intro a ha; cases ha)).len,bw]
    omega
   have r3p:r3 ≠ p:=bI e3 hp
   refine ⟨zs,(bL rp).trans a1,zl,(bL lr).trans ((bL (bI a3 hp)).trans a3),_,_,rfl,fun b o e'=>?_,?_,bK,?_⟩
   .have c:=S3 _ _ (up (bI e' hd) (S1 _ _ e'))
    rw [bL (bI e' hrn'),bL (bI c hp)]
    exact c
   .rw [bL dr0,bL dp,a2,V3 no,cF e,bC]; rfl
   .intro as has
    have r3n:r3 ∉ d :: r :: as:=by
     simp only [List.mem_cons,not_or]
     refine ⟨fun z=>(by rw [z,bK] at f3; cases f3),fun z=>(by rw [z,up dr0.symm h2] at f3; cases f3),fun z=>?_⟩
     obtain ⟨u,hu,_⟩:=has _ z
     rw [up (bI hu hd) (S1 _ _ hu)] at f3
     cases f3
    have asp:∀ a ∈ as,∃ u,H3 a = some u/\∀ ys,u ≠ .tup ys:=fun a ha=>let ⟨u,hu,n⟩:=has a ha; ⟨u,S3 _ _ (up (bI hu hd) (S1 _ _ hu)),n⟩
    have pn:p ∉ d :: r :: as:=by
     simp only [List.mem_cons,not_or]
     exact ⟨dp.symm,rp.symm,fun z=>let ⟨u,hu,_⟩:=asp _ z; bI hu hp rfl⟩
    have u2:∀ {b o},b ∉ d :: r :: as->(upd H3 p (.tup [.str g.nm,.ref g.p,.ref r3])) b = some o->del (d :: r :: as) (upd (upd H3 p (.tup [.str g.nm,.ref g.p,.ref r3])) r (.lst (zs ++ [.ref p]))) b = some o:=fun {b o} h e=>iJ h ((bL (by simp only [List.mem_cons,not_or] at h; exact h.2.1)).trans e)
    rw [cF e]
    refine ((of_ as has).same fun b o e'=>?_).snoc (u2 pn bK) (u2 r3n ((bL r3p).trans e3)) (w3.imp fun t ys e'=>?_)
    .obtain ⟨b1,b2⟩:=pO e'
     have c:=S3 _ _ (up (by simp only [List.mem_cons,not_or] at b1; exact b1.1) b2)
     exact u2 b1 ((bL (bI c hp)).trans c)
    .refine u2 ?_ ((bL (bI e' hp)).trans e')
     simp only [List.mem_cons,not_or]
     exact ⟨f9 e' a2 (by intro z; cases z),f9 e' a1 (by intro z; cases z),fun z=>let ⟨u,hu,n⟩:=asp _ z; n _ (Option.some.inj (hu.symm.trans e'))⟩
  .rintro σ' H' ⟨u,zs,rfl,S1,h1,h2,of_⟩ hx
   rw [dr.len,aQ] at of_
   walk_at "rd"
   exact q r H' zs S1 hrn' h2 fun as has=>(of_ as has).same fun b o e=>let ⟨a,c⟩:=pO e; iJ (fun z=>a (aJ _ (aJ _ z))) c
structure mF (D:Adr) (H:Hp) (xs:List V) (rms:List (Str × List Dr)):Prop where
 len:xs.length = rms.length
 at_:∀ (k:Nat) (g:Str × List Dr),rms[k]? = some g->∃ t l ys,xs[k]? = some (.ref t)/\H t = some (.tup [.str g.1,.ref l])/\H l = some (.lst ys)/\vK D H ys g.2
theorem mF.rooms {H:Hp} {xs:List V} {rms:List (Str × List Dr)} (h:mF D H xs rms):Qd H xs (rms.map (·.1)):=⟨by rw [h.len,ao],fun k n e=>by
 rw [au] at e
 cases e0:rms[k]? with
 | none=>rw [e0] at e; cases e
 | some g =>
  rw [e0] at e
  cases e
  obtain ⟨t,l,ys,a,b,_⟩:=h.at_ k g e0
  exact ⟨t,_,a,b⟩⟩
theorem mF.same {H H':Hp} {xs:List V} {rms:List (Str × List Dr)} (S:Same H H') (h:mF D H xs rms):mF D H' xs rms:=⟨h.len,fun k g e=>let ⟨t,l,ys,a,b,c,d⟩:=h.at_ k g e; ⟨t,l,ys,a,S _ _ b,S _ _ c,d.same S⟩⟩
structure sO (ns:List Str) (H:Hp) (zs:List V) (gss:List (List Dr)):Prop where
 len:zs.length = gss.length
 at_:∀ (k:Nat) (gs:List Dr),gss[k]? = some gs->∃ l ys,zs[k]? = some (.ref l)/\H l = some (.lst ys)/\pK ns H ys gs
theorem sO.same {ns:List Str} {H H':Hp} {zs:List V} {gss:List (List Dr)} (S:Same H H') (h:sO ns H zs gss):sO ns H' zs gss:=⟨h.len,fun k g e=>let ⟨l,ys,a,b,c⟩:=h.at_ k g e; ⟨l,ys,a,S _ _ b,c.same S⟩⟩
theorem sO.snoc {ns:List Str} {H:Hp} {zs ys:List V} {gss:List (List Dr)} {l:Addr} {gs:List Dr} (h:sO ns H zs gss) (hl:H l = some (.lst ys)) (ho:pK ns H ys gs):sO ns H (zs ++ [.ref l]) (gss ++ [gs]):=by
 refine ⟨by rw [aB,aB,h.len]; rfl,fun k g' e=>?_⟩
 by_cases hk:k < gss.length
 .rw [aF hk] at e
  obtain ⟨l',ys',a,b⟩:=h.at_ k g' e
  exact ⟨l',ys',by rw [aF (by rw [h.len]; exact hk)]; exact a,b⟩
 .rw [aD (by omega)] at e
  have e0:k - gss.length = 0:=by
   have:=(aq.mp e).1
   simp at this; omega
  rw [e0] at e
  cases e
  refine ⟨l,ys,?_,hl,ho⟩
  rw [aD (by rw [h.len]; omega),h.len,e0]; rfl
theorem za {H:Hp} {o b C0 dx0:Addr} {u:HO} (ho:H o = some (.ins C0 dx0 [])) (e:H b = some u) (n:u ≠ .ins C0 dx0 []):del [o] H b = some u:=iJ (by simp only [List.mem_singleton]; exact f9 e ho n) e
theorem mF.off {H:Hp} {o C0 dx0:Addr} {xs:List V} {rms:List (Str × List Dr)} (ho:H o = some (.ins C0 dx0 [])) (h:mF D H xs rms):mF D (del [o] H) xs rms:=⟨h.len,fun k g e=>by
 obtain ⟨t,l,ys,a,b,c,d⟩:=h.at_ k g e
 refine ⟨t,l,ys,a,za ho b (by intro z; cases z),za ho c (by intro z; cases z),d.len,fun k g e=>?_⟩
 obtain ⟨s,a,C,dx,l,xs,h1,h2,h3,h4,h5⟩:=d.at_ k g e
 exact ⟨s,a,C,dx,l,xs,h1,za ho h2 (by intro z; injection z with _ _ z; cases z),za ho h3 (by intro z; cases z),⟨h4.len,fun k g e=>let ⟨t,a,b⟩:=h4.at_ k g e; ⟨t,a,za ho b (by intro z; cases z)⟩⟩,h5⟩⟩
structure Ru (rms:List (Str × List Dr)):Prop where
 len:rms.length <= 20
 nd:(rms.map (·.1)).Nodup
 wd:∀ g ∈ rms,Wd g.1
 few:∀ g ∈ rms,g.2.length <= 100
 dn:∀ g ∈ rms,(g.2.map (·.nm)).Nodup
 to_:∀ g ∈ rms,∀ d ∈ g.2,∀ z ∈ d.ws,z.1 ∈ rms.map (·.1)
def oX (D:Adr) (H:Hp) (a p:Addr) (rms:List (Str × List Dr)):Prop:=∃ dx n l zs,H a = some (.ins D.Hall dx [("share",.ref p),("numbers",.ref n),("offered",.ref l)])/\H n = some (.dK (yW (rms.map (·.1))))/\H l = some (.lst zs)/\sO (rms.map (·.1)) H zs (rms.map (·.2))
theorem oX.same {H H':Hp} {a p:Addr} {rms:List (Str × List Dr)} (S:Same H H') (h:oX D H a p rms):oX D H' a p rms:=let ⟨dx,n,l,zs,b,c,d,e⟩:=h; ⟨dx,n,l,zs,S _ _ b,S _ _ c,S _ _ d,e.same S⟩
def rE (K:Frag) (D:Adr):Sp:=fun vs H Q _=>∃ (o dx p l:Addr) (x y:Int) (xs:List V) (rms:List (Str × List Dr)),vs = [.ref o,.ref p,.ref l]/\H o = some (.ins D.Hall dx [])/\Fk K H p x y/\0 <= x/\x < y/\Bd x/\Bd y/\H l = some (.lst xs)/\mF D H xs rms/\Ru rms /\
 ∀ H',Keep o H H'->oX D H' o p rms->Q .non H'
def hJ (o D1:Addr) (rms:List (Str × List Dr)) (H:Hp) (k:Nat) (zs:List V) (H':Hp):Prop:=Same H H'/\H' D1 = some (.lst zs)/\sO (rms.map (·.1)) (del [o,D1] H') zs ((rms.take k).map (·.2))
theorem Jf (F:Fun K wM xu pF f fd) (T:Txt K mg D) (pW:OkF P w K mg base 3 jk iZ (lu (K:=K))) (rG:OkF P w K mg base 2 jT jU mV) (rZ:OkF P w K mg base 3 lQ lG (oA D)):cC P w K mg base CX0 4 f fd kE (rE K D):=by
 refine F.ok Ji (fun vs H Q E h=>?_) (fun cdv A outer s H vs Q E hr h=>?_)
 .obtain ⟨o,dx,p,l,x,y,xs,rms,rfl,_⟩:=h
  rfl
 .obtain ⟨o,dx,p,l,x,y,xs,rms,rfl,ho,fk,x0,xy,bx,b_y,hl,hR,ok,q⟩:=h
  refine ⟨_,(bM (dD (bQ pW (hr.mono (by decide)) (by rfl) (bF (pv 1) bH)))
   (bM (sS (pv 0) (pv 1) rfl)
   (bM (sS (pv 0) (bQ rG (hr.mono (by decide)) (by rfl) (bF (pv 2) bH)) rfl)
   (bO (sS (pv 0) (jM (bN pF) tu tu ["room"] (cX ((pv 2)).mono) (eG (i:=0)) dj (bQ rZ (hr.mono (by decide)) (by rfl) (bF (bV cW (pv 0) bG (fun _ _=>rfl)) (bF (Yz (K':=K) rfl (pv 1) rfl) bH)))) rfl))))),?_⟩
  unfold lu mV oA
  walk_at "rd"
  have hR0:=hR.off ho
  have hl0:del [o] H l = some (.lst xs):=za ho hl (by intro z; cases z)
  have S1:∀ u,Same (del [o] H) (upd H o u):=fun u b v e=>by
   obtain ⟨b1,b2⟩:=pO e
   exact (bL (by simpa using b1)).trans b2
  have cl:=T.tR
  refine ⟨x,y,fk,x0,xy,bx,b_y,D.Hall,dx,[],ho,cl,T.vH,(by show 0 < 1000; decide),xs,S1 _ _ _ hl0,_,(hR0.same (S1 _)).rooms,ok.nd,fun g hg=>?_,by rw [ao]; exact ok.len,fun d H2 S2 f2 e2=>?_⟩
  .obtain ⟨g',hg',rfl⟩:=List.mem_map.mp hg
   exact ok.wd g' hg'
  have od:d ≠ o:=fun z=>by rw [z,bK] at f2; cases f2
  refine ⟨D.Hall,dx,_,S2 _ _ bK,cl,T.nG,(by show 1 < 1000; decide),dH ?_⟩
  have S3:∀ u,Same (del [o] H) (upd H2 o u):=fun u b v e=>(bL (by have:=(pO e).1; simpa using this)).trans (S2 _ _ (S1 _ _ _ e))
  walk_at "rd"
  have hz9:21 < sizeLine:=by decide
  have n20:=ok.len
  refine ⟨xs,S3 _ _ _ hl0,by rw [hR.len]; omega,fun D1 hD1=>?_⟩
  have eo:upd H2 o (.ins D.Hall dx (lC "numbers" (.ref d) (lC "share" (.ref p) []))) o = some (.ins D.Hall dx [("share",.ref p),("numbers",.ref d)]):=bK
  have ed:upd H2 o (.ins D.Hall dx (lC "numbers" (.ref d) (lC "share" (.ref p) []))) d = some (.dK (yW (rms.map (·.1)))):=(bL od).trans e2
  have S4:=S3 (.ins D.Hall dx (lC "numbers" (.ref d) (lC "share" (.ref p) [])))
  generalize upd H2 o (.ins D.Hall dx (lC "numbers" (.ref d) (lC "share" (.ref p) []))) = H3 at eo ed S4 hD1 ⊢
  have oD:o ≠ D1:=bI eo hD1
  refine ⟨hJ o D1 rms H3,⟨Same.upd hD1,bK,rfl,fun k g e=>by simp at e⟩,?_,?_⟩
  .rintro k x1 ys Hc hk ⟨S5,h5,of_⟩ hy hlc
   have lk:k < rms.length:=by rw [<- hR.len]; exact (aq.mp hk).1
   have e:rms[k]? = some rms[k]:=aj lk
   have hm:=aW lk
   obtain ⟨t,ll,ds,a,b,c,dd⟩:=(hR0.same (S4.trans S5)).at_ k _ e
   rw [hk] at a
   cases a
   generalize rms[k] = g at *
   refine ⟨t,rfl,_,b,_,cV,D.Hall,dx,_,S5 _ _ eo,cl,T.nG,_,rfl,ll,rfl,d,rfl,ds,c,g.2,dd,ok.few g hm,ok.dn g hm,_,S5 _ _ ed,ok.nd,ok.to_ g hm,?_⟩
   intro r H4 zs S6 f6 e6 o6
   have h4:=S6 _ _ h5
   have ho4:=S6 _ _ (S5 _ _ eo)
   refine ⟨h4,S6 _ _ hlc,fun b v e'=>?_,bK,?_⟩
   .exact (bL (bI e' hD1)).trans (S6 _ _ (S5 _ _ e'))
   .have ee:del [o,D1] (upd H4 D1 (.lst (ys ++ [.ref r]))) = del [o,D1] H4:=by
     funext b
     unfold del
     split
     .rfl
     .rename_i hb
      exact bL (by simp at hb; exact hb.2)
    rw [ee,cF e,bC]
    refine (of_.same (ug fun b v _ e'=>S6 _ _ e')).snoc (iJ ?_ e6) (o6 [o,D1] ?_)
    .simp only [List.mem_cons,List.not_mem_nil,or_false,not_or]
     exact ⟨fun z=>(by rw [z,S5 _ _ eo] at f6; cases f6),fun z=>(by rw [z,h5] at f6; cases f6)⟩
    .intro a ha
     simp only [List.mem_cons,List.not_mem_nil,or_false] at ha
     rcases ha with rfl | rfl
     .exact ⟨_,S5 _ _ eo,by intro ys z; cases z⟩
     .exact ⟨_,h5,by intro ys z; cases z⟩
  .rintro ys Hc ⟨S5,h5,of_⟩ hy
   rw [hR.len,aQ] at of_
   refine ⟨D.Hall,dx,_,S5 _ _ eo,cl,T.rP,(by show 2 < 1000; decide),q _ (fun b v nb e=>?_) ⟨dx,d,D1,ys,bK,(bL (fun z=>od (by rw [z]))).trans (S5 _ _ ed),(bL oD.symm).trans h5,of_.same fun b v e=>?_⟩⟩
   .exact (bL nb).trans (S5 _ _ (S4 _ _ (iJ (by simpa using nb) e)))
   .obtain ⟨b1,b2⟩:=pO e
    exact (bL (by simp at b1; exact b1.1)).trans b2
def gP (D:Adr):Sp:=fun vs H Q _=>∃ (o p:Addr) (rms:List (Str × List Dr)),vs = [.ref o]/\oX D H o p rms/\Q (.int rms.length) H
theorem wJ (F:Fun K wN yH sX f fd) (T:Txt K mg D):cC P w K mg base CX0 1 f fd fQ (gP D):=by
 refine F.ok Jr (fun vs H Q E h=>?_) (fun cdv A outer s H vs Q E hr h=>?_)
 .obtain ⟨o,p,rms,rfl,_⟩:=h
  rfl
 .obtain ⟨o,p,rms,rfl,⟨dx,n,l,zs,ho,hn,hl,of_⟩,q⟩:=h
  refine ⟨_,(bO (cu (b_ G6 (by rfl) T.kI PySem.boot_len (bF (qI (pv 0) rfl) bH)))),?_⟩
  walk_at "rd"
  refine ⟨D.Hall,dx,_,ho,T.tR,T.nG,_,rfl,n,_,rfl,hn,?_⟩
  rw [DK,ao]
  exact q
def mU (D:Adr):Sp:=fun vs H Q _=>∃ (o p:Addr) (k:Nat) (rms:List (Str × List Dr)),vs = [.ref o,.int k]/\oX D H o p rms/\k < rms.length/\Q .non H
theorem wC (F:Fun K oU oK lA f fd) (T:Txt K mg D) (dh:OkF P w K mg base 1 fM fK jh) (eX:OkI P w K mg base CX0 1 D.Hall_size fQ (gP D)): cC P w K mg base CX0 2 f fd fu (mU D):=by
 refine F.ok wg (fun vs H Q E h=>?_) (fun cdv A outer s H vs Q E hr h=>?_)
 .obtain ⟨o,p,k,rms,rfl,_⟩:=h
  rfl
 .obtain ⟨o,p,k,rms,rfl,hh,lk,q⟩:=h
  refine ⟨_,(bO (cY (PW.pt (pw_or (d9 (dz (bQ dh (hr.mono (by decide)) (by rfl) (bF (pv 1) bH)) (fun _=>rfl))) (pw_or1 (d9 (Dh Bo zZ bG (pv 1) (PE.any fun C (hC:dZ D C)=>(vp (pv 0) (T.cl C hC.fam) (T.qP C hC) eX (hr.mono (by decide)))))))))
    (bO o8)
    cB)),?_⟩
  unfold jh gP
  walk_at "rd"
  obtain ⟨dx,n,l,zs,ho,hn,hl,of_⟩:=hh
  rw [if_pos (by simp)]
  refine ⟨D.Hall,(by unfold dZ; simp),dx,_,ho,rfl,p,rms,⟨dx,n,l,zs,ho,hn,hl,of_⟩,?_⟩
  rw [if_neg (by simp; omega)]
  exact q
def fJ (D1:Addr) (ns:List Str) (gs:List Dr) (H:Hp) (k:Nat) (zs:List V) (H':Hp):Prop:=Same H H'/\H' D1 = some (.lst zs)/\∀ as,Qf H as->pK ns (del (D1 :: as) H') zs (gs.take k)
def o9 (D:Adr):Sp:=fun vs H Q _=>∃ (o p:Addr) (k:Nat) (rms:List (Str × List Dr)) (g:Str × List Dr),vs = [.ref o,.int k]/\oX D H o p rms/\rms[k]? = some g/\g.2.length <= 100/\(∀ d ∈ g.2,d.ws.length <= 100) /\
 ∀ r H' zs,Same H H'->H r = none->H' r = some (.lst zs)->(∀ as,Qf H as->pK (rms.map (·.1)) (del as H') zs g.2)->Q (.ref r) H'
theorem Bw (F:Fun K uc tD mX f fd) (T:Txt K mg D) (lE:OkI P w K mg base CX0 2 D.Hall_check_room fu (mU D)): cC P w K mg base CX0 3 f fd iU (o9 D):=by
 refine F.ok Dm (fun vs H Q E h=>?_) (fun cdv A outer s H vs Q E hr h=>?_)
 .obtain ⟨o,p,k,rms,g,rfl,_⟩:=h
  rfl
 .obtain ⟨o,p,k,rms,g,rfl,hh,hg,g100,w100,q⟩:=h
  refine ⟨_,(bM (dD (PE.any fun C (hC:dW D C)=>(LR (pv 0) (T.cl C hC.fam) (T.vQ C hC) lE (hr.mono (by decide)) (bF (pv 1) bH))))
   (bO (cu (jM (bN mX) pZ pZ ["name", "pay", "numbered"] (cX ((bV bY (qI (pv 0) rfl) (pv 1) (fun _ _=>rfl))).mono) (iD (n:=3) rfl (cD (eG (i:=0)) (cD (eG (i:=1)) (cD (eG (i:=2)) gO)))) dj (j6 (bF (pv 0) (bF (pv 1) (bF (oG Ea (by rfl) T.JW boot_list (bF (pv 2) bH)) bH)))))))),?_⟩
  unfold mU
  walk_at "rd"
  obtain ⟨dx,n,l,zs,ho,hn,hl,of_⟩:=hh
  have lk:=(aq.mp hg).1
  refine ⟨D.Hall,(by unfold dW; simp),dx,_,ho,rfl,p,k,rfl,rms,⟨dx,n,l,zs,ho,hn,hl,of_⟩,lk,pG ?_⟩
  obtain ⟨ll,ys,a,b,c⟩:=of_.at_ k g.2 (by rw [au,hg]; rfl)
  have z9:101 < sizeLine:=by decide
  walk_at "rd"
  refine ⟨D.Hall,dx,_,ho,T.tR,T.rP,_,rfl,l,rfl,zs,hl,_,cg a,ll,rfl,ys,b,by rw [c.len]; omega,fun D1 hD=>?_⟩
  refine ⟨fJ D1 (rms.map (·.1)) g.2 H,⟨Same.upd hD,bK,fun as _=>⟨rfl,fun k g e=>by simp at e⟩⟩,?_,?_⟩
  .rintro i x1 zs1 Hc hi ⟨S5,h5,o5⟩ hy hlc pre hpre
   have li:i < g.2.length:=by rw [<- c.len]; exact (aq.mp hi).1
   have e:g.2[i]? = some g.2[i]:=aj li
   have hm:=w100 _ (aW li)
   obtain ⟨t,r,ws,ea,eb,ec,ed⟩:=(c.same S5).at_ i _ e
   rw [hi] at ea
   cases ea
   generalize g.2[i] = d at *
   obtain ⟨u1,u2,u3,rfl⟩ : ∃ a b c,pre = [a,b,c]:=by
    match pre,hpre with
    | [a,b,c],_=>exact ⟨a,b,c,rfl⟩
   walk_at "rd"
   refine ⟨_,eb,rfl,_,_,rfl,_,_,rfl,_,_,rfl,rfl,[_,_,_],rfl,rfl,?_⟩
   refine ⟨r,rfl,ws,ec,fun l1 hl1=>⟨by decide,fun p1 hp1=>?_⟩⟩
   have lp:l1 ≠ p1:=bI bK hp1
   have hp1':Hc p1 = none:=(bL lp.symm).symm.trans hp1
   have S6:Same Hc (upd (upd Hc l1 (.lst ws)) p1 (.tup [.str d.nm,.ref d.p,.ref l1])):=(Same.upd hl1).trans (Same.upd hp1)
   have e6:upd (upd Hc l1 (.lst ws)) p1 (.tup [.str d.nm,.ref d.p,.ref l1]) l1 = some (.lst ws):=(bL lp).trans bK
   have e7:upd (upd Hc l1 (.lst ws)) p1 (.tup [.str d.nm,.ref d.p,.ref l1]) p1 = some (.tup [.str d.nm,.ref d.p,.ref l1]):=bK
   generalize upd (upd Hc l1 (.lst ws)) p1 (.tup [.str d.nm,.ref d.p,.ref l1]) = H7 at S6 e6 e7 ⊢
   refine ⟨S6 _ _ h5,S6 _ _ hlc,fun b v e'=>(bL (bI e' hD)).trans (S6 _ _ (S5 _ _ e')),bK,fun as has=>?_⟩
   have nin:∀ {b},Hc b = none->b ∉ D1 :: as:=fun {b} hb=>by
    simp only [List.mem_cons,not_or]
    exact ⟨fun z=>(by rw [z,h5] at hb; cases hb),fun z=>let ⟨u,hu,_⟩:=has _ z; bI (S5 _ _ hu) hb rfl⟩
   have u2:∀ {b o},b ∉ D1 :: as->H7 b = some o->del (D1 :: as) (upd H7 D1 (.lst (zs1 ++ [.ref p1]))) b = some o:=fun {b o} h e=>iJ h ((bL (by simp only [List.mem_cons,not_or] at h; exact h.1)).trans e)
   rw [cF e]
   refine ((o5 as has).same fun b v e'=>?_).snoc (u2 (nin hp1') e7) (u2 (nin hl1) e6) (ed.imp fun t us e'=>u2 ?_ (S6 _ _ e'))
   .obtain ⟨b1,b2⟩:=pO e'
    exact u2 b1 (S6 _ _ b2)
   .simp only [List.mem_cons,not_or]
    exact ⟨f9 e' h5 (by intro z; cases z),fun z=>let ⟨u,hu,n⟩:=has _ z; n _ (Option.some.inj ((S5 _ _ hu).symm.trans e'))⟩
  .rintro zs1 Hc ⟨S5,h5,o5⟩ _
   rw [c.len,aQ] at o5
   exact q D1 Hc zs1 S5 hD h5 fun as has=>(o5 as has).same fun b o e=>let ⟨a,c⟩:=pO e; iJ (fun z=>a (aJ _ z)) c
def Odd (H:Hp) (v:V):Prop:=∃ t,tyS H v = some t
theorem aci {H:Hp} {v:V} {t:String} (h:tyS H v = some t) (n:∀ k,v ≠ .int k):(t == "int") = false:=by
 cases v with
 | int k=>exact absurd rfl (n k)
 | ref a =>
  unfold tyS at h
  dsimp only at h
  split at h <;> cases h <;> rfl
 | _=>cases h <;> rfl
structure abX (rms:List (Str × List Dr)):Prop where
 len:rms.length <= 20
 few:∀ g ∈ rms,g.2.length <= 100
 ways:∀ g ∈ rms,∀ d ∈ g.2,d.ws.length <= 100
def vl (f:Int × Int):Rat:=(f.1:Rat) / (f.2:Rat)
theorem eV {x:Int} (h:0 < x):(x:Rat) ≠ 0:=fun z=>by
 have:=Rat.intCast_inj.mp (z.trans Rat.intCast_zero.symm)
 omega
theorem Yc {x y:Int × Int} (hx:0 < x.2) (hy:0 < y.2) (h:x.1 * y.2 = y.1 * x.2):vl x = vl y:=by
 have e:(x.1:Rat) * (y.2:Rat) = (y.1:Rat) * (x.2:Rat):=by rw [<- Rat.intCast_mul,<- Rat.intCast_mul,h]
 have:=eV hx
 have:=eV hy
 unfold vl
 grind
theorem Uu {x y:Int × Int} (hx:0 < x.2) (hy:0 < y.2) (h:vl x = vl y):x.1 * y.2 = y.1 * x.2:=by
 have h1:=eV hx
 have h2:=eV hy
 unfold vl at h
 refine Rat.intCast_inj.mp ?_
 rw [Rat.intCast_mul,Rat.intCast_mul]
 grind
theorem Low.vl {t b x y:Int} (h:Low t b x y) (hb:0 < b):vl (x,y) = vl (t,b):=Yc h.pos hb h.eq
theorem Dc {x y u v:Int} (hy:0 < y) (hv:0 < v):vl (x * u,y * v) = vl (x,y) * vl (u,v):=by
 have:=eV hy
 have:=eV hv
 show ((x * u:Int):Rat) / ((y * v:Int):Rat) = (x:Rat) / (y:Rat) * ((u:Rat) / (v:Rat))
 rw [Rat.intCast_mul,Rat.intCast_mul]
 grind
theorem acg {x y u v:Int} (hy:0 < y) (hu:0 < u) (hv:0 < v):vl (x * v,y * u) = vl (x,y) / vl (u,v):=by
 have:=eV hy
 have:=eV hv
 have:=eV hu
 show ((x * v:Int):Rat) / ((y * u:Int):Rat) = (x:Rat) / (y:Rat) / ((u:Rat) / (v:Rat))
 rw [Rat.intCast_mul,Rat.intCast_mul]
 grind
theorem Ol {x y u v:Int} (hy:0 < y) (hv:0 < v):vl (x * v + u * y,y * v) = vl (x,y) + vl (u,v):=by
 have:=eV hy
 have:=eV hv
 show ((x * v + u * y:Int):Rat) / ((y * v:Int):Rat) = (x:Rat) / (y:Rat) + (u:Rat) / (v:Rat)
 rw [Rat.intCast_add,Rat.intCast_mul,Rat.intCast_mul,Rat.intCast_mul]
 grind
theorem Wv (x:Int):vl (x,1) = (x:Rat):=by
 show (x:Rat) / ((1:Int):Rat) = x
 rw [Rat.intCast_one]
 grind
def Bn (n:Nat) (x:Int):Prop:=x.natAbs <= 10 ^ n
theorem Bn.up {a b:Nat} {x:Int} (h:Bn a x) (l:a <= b):Bn b x:=aN h (Nat.pow_le_pow_right (by decide) l)
theorem Bn.mul {a b:Nat} {x y:Int} (h:Bn a x) (g:Bn b y):Bn (a + b) (x * y):=by
 unfold Bn
 rw [Int.natAbs_mul,Nat.pow_add]
 exact Nat.mul_le_mul h g
theorem Bn.add {a:Nat} {x y:Int} (h:Bn a x) (g:Bn a y):Bn (a + 1) (x + y):=by
 have h:x.natAbs <= 10 ^ a:=h
 have g:y.natAbs <= 10 ^ a:=g
 unfold Bn
 rw [Nat.pow_succ]
 omega
theorem Bn.bd {n:Nat} {x:Int} (h:Bn n x) (l:n <= 2400):Bd x:=Nat.lt_of_le_of_lt (h.up l) (by decide +kernel)
theorem Bn.lx {n:Nat} {t b x y:Int} (h:Bn n t) (l:Low t b x y):Bn n x:=aN l.lx h
theorem Bn.ly {n:Nat} {t b x y:Int} (h:Bn n b) (l:Low t b x y):Bn n y:=aN l.ly h
def Dv:Sp:=fun vs H Q _=>∃ (p q:Addr) (x y u v:Int),vs = [.ref p,.ref q]/\H p = some (.tup [.int x,.int y])/\H q = some (.tup [.int u,.int v])/\Bd x/\Bd y/\Bd u/\Bd v/\0 < y/\0 < v/\Bd (y * v) /\
 ∀ r z o H',Same H H'->H r = none->H' r = some (.tup [.int z,.int o])->Low (x * u) (y * v) z o->Q (.ref r) H'
theorem Vk (F:Fun K tK tK Jg f fd) (eF:OkF P w K mg base 2 ji iK gU):cC P w K mg base CX0 3 f fd sY Dv:=by
 refine F.ok Vw (fun vs H Q E h=>?_) (fun cdv A outer s H vs Q E hr h=>?_)
 .obtain ⟨p,q,x,y,u,v,rfl,_⟩:=h
  rfl
 .obtain ⟨p,q,x,y,u,v,rfl,hp,hq,bx,b_y,bu,bv,y0,v0,byv,k⟩:=h
  refine ⟨_,(bO (cu (bQ eF (hr.mono (by decide)) (by rfl) (bF (bU cM (bV cW (pv 0) bG (fun _ _=>rfl)) (bV cW (pv 1) bG (fun _ _=>rfl))) (bF (bU cM (bV cW (pv 0) bG (fun _ _=>rfl)) (bV cW (pv 1) bG (fun _ _=>rfl))) bH))))),?_⟩
  exact eY ⟨_,rfl,p,_,0,_,rfl,rfl,hp,dB,_,rfl,q,_,0,_,rfl,rfl,hq,dB,x,u,rfl,rfl,⟨bx,bu⟩,_,rfl,p,_,1,_,rfl,rfl,hp,cV,_,rfl,q,_,1,_,rfl,rfl,hq,cV,y,v,rfl,rfl,⟨b_y,bv⟩,_,_,rfl,Int.ne_of_gt (Int.mul_pos y0 v0),byv,fun r z o l hr=>k r z o _ (Same.upd hr) hr bK l⟩
def Jx:Sp:=fun vs H Q _=>∃ (p q:Addr) (x y u v:Int),vs = [.ref p,.ref q]/\H p = some (.tup [.int x,.int y])/\H q = some (.tup [.int u,.int v])/\Bd x/\Bd y/\Bd u/\Bd v/\0 < y/\0 < u/\Bd (y * u) /\
 ∀ r z o H',Same H H'->H r = none->H' r = some (.tup [.int z,.int o])->Low (x * v) (y * u) z o->Q (.ref r) H'
theorem aad (F:Fun K xq xq O6 f fd) (eF:OkF P w K mg base 2 ji iK gU):cC P w K mg base CX0 3 f fd wX Jx:=by
 refine F.ok YF (fun vs H Q E h=>?_) (fun cdv A outer s H vs Q E hr h=>?_)
 .obtain ⟨p,q,x,y,u,v,rfl,_⟩:=h
  rfl
 .obtain ⟨p,q,x,y,u,v,rfl,hp,hq,bx,b_y,bu,bv,y0,v0,byv,k⟩:=h
  refine ⟨_,(bO (cu (bQ eF (hr.mono (by decide)) (by rfl) (bF (bU cM (bV cW (pv 0) bG (fun _ _=>rfl)) (bV cW (pv 1) bG (fun _ _=>rfl))) (bF (bU cM (bV cW (pv 0) bG (fun _ _=>rfl)) (bV cW (pv 1) bG (fun _ _=>rfl))) bH))))),?_⟩
  exact eY ⟨_,rfl,p,_,0,_,rfl,rfl,hp,dB,_,rfl,q,_,1,_,rfl,rfl,hq,cV,x,v,rfl,rfl,⟨bx,bv⟩,_,rfl,p,_,1,_,rfl,rfl,hp,cV,_,rfl,q,_,0,_,rfl,rfl,hq,dB,y,u,rfl,rfl,⟨b_y,bu⟩,_,_,rfl,Int.ne_of_gt (Int.mul_pos y0 v0),byv,fun r z o l hr=>k r z o _ (Same.upd hr) hr bK l⟩
theorem aa7 {sp:Sp} {te:TE} {t:TA} {σ:L2.St} {H:Hp} {Q:VK} (h:te σ H fun x H1=>t σ H1 fun xs H2=>sp (x :: xs) H2 Q E0):zF sp (sE te t) σ H Q:=h
structure Ua (K:Frag) (H:Hp) (t:Addr) (f:Int × Int) (cs:List (Nat × Int × Int)):Prop where
 ex:∃ (nm:Str) (p r:Addr) (ys:List V),H t = some (.tup [.str nm,.ref p,.ref r])/\H p = some (.tup [.int f.1,.int f.2])/\H r = some (.lst ys)/\ys.length = cs.length/\∀ (k:Nat) c,cs[k]? = some c->∃ tt a,ys[k]? = some (.ref tt)/\H tt = some (.tup [.int (c.1:Nat),.ref a])/\SqT K H a [.int c.2.1,.int c.2.2]
theorem Ua.same {H H':Hp} {t:Addr} {f:Int × Int} {cs:List (Nat × Int × Int)} (h:Ua K H t f cs) (S:Same H H'):Ua K H' t f cs:=by
 obtain ⟨nm,p,r,ys,a,b,c,d,e⟩:=h.ex
 refine ⟨nm,p,r,ys,S _ _ a,S _ _ b,S _ _ c,d,fun k z ez=>?_⟩
 obtain ⟨tt,a2,x1,x2,x3⟩:=e k z ez
 exact ⟨tt,a2,x1,S _ _ x2,S.tup x3⟩
def chF (cs:List (Nat × Int × Int)):List (Int × Int):=cs.map (·.2)
def MJ (cs:List (Nat × Int × Int)) (Ts:List Int):Int:=(List.zipWith (fun p c=>p * Ts.getD c.1 0) (lvT (chF cs)) cs).sum
def zO (K:Frag):Sp:=fun vs H Q _=>∃ (t T:Addr) (f:Int × Int) (cs:List (Nat × Int × Int)) (Ts:List Int),vs = [.ref t,.ref T]/\Ua K H t f cs/\H T = some (.lst (Ts.map V.int))/\cs.length <= 41/\(∀ c ∈ cs,c.1 < Ts.length/\Fq c.2)/\(∀ x ∈ Ts,Bd x) /\
 ∀ r z o H',Same H H'->H r = none->H' r = some (.tup [.int z,.int o])->Low (MJ cs Ts) (lvB (chF cs):Nat) z o->Q (.ref r) H'
theorem X7 {α β γ:Type} {g:α->β->γ} {xs:List α} {ys:List β} {k:Nat} {x:α} {y:β} (h1:xs[k]? = some x) (h2:ys[k]? = some y):(List.zipWith g xs ys)[k]? = some (g x y):=by
 rw [List.getElem?_zipWith,h1,h2]
theorem Vx {fs:List (Int × Int)} (h:∀ f ∈ fs,Fq f) (hz:fs.length <= 41):Bn 1640 (lvB fs:Nat):=by
 have:=Xy h hz
 rw [<- Nat.pow_mul] at this
 unfold Bn
 rw [Int.natAbs_natCast]
 exact this
theorem abY {fs:List (Int × Int)} (h:∀ f ∈ fs,Fq f) (hz:fs.length <= 41):∀ x ∈ lvT fs,Bn 1680 x:=fun x hx=>by
 obtain ⟨f,hf,rfl⟩:=List.mem_map.mp hx
 have b:Bn 1640 (((lvB fs:Nat):Int) / f.2):=aN (Int.natAbs_ediv_le_natAbs _ _) (Vx h hz)
 exact Bn.mul (a:=40) (b:=1640) (h f hf).sa b
theorem CW (F:Fun K i_ i_ jR f fd) (T:Txt K mg D) (oh:OkF P w K mg base 2 gW je (ql K)) (eF:OkF P w K mg base 2 ji iK gU):cC P w K mg base CX0 3 f fd jc (zO K):=by
 refine F.ok uq (fun vs H Q E h=>?_) (fun cdv A outer s H vs Q E hr h=>?_)
 .obtain ⟨t,T,f,cs,Ts,rfl,_⟩:=h
  rfl
 .obtain ⟨t,Ta,f,cs,Ts,rfl,of,hT,l41,hc,bT,q⟩:=h
  obtain ⟨nm,p,r,ys,ht,hp,hr',yl,ya⟩:=of.ex
  have z9:100 < sizeLine:=by decide
  have cl:(chF cs).length = cs.length:=ao ..
  have fq:∀ f ∈ chF cs,Fq f:=fun f hf=>by
   obtain ⟨c,hc',rfl⟩:=List.mem_map.mp hf
   exact (hc c hc').2
  refine ⟨_,(bM (cA (i:=2) uq.nd rfl (Or.inl rfl) (bQ oh (hr.mono (by decide)) (by rfl) (bF (jM (bN jR) jK jK ["room", "chance"] (cX ((bV cW (pv 0) bG (fun _ _=>rfl))).mono) (iD (n:=2) rfl (cD (eG (i:=0)) (cD (eG (i:=1)) gO))) dj (pv 1)) bH)))
   (bO (cu (bQ eF (hr.mono (by decide)) (by rfl) (bF (b_ (yV rfl) (by rfl) T.VF boot_sum (bF (jM (bN jR) jK jK ["part", "way"] (Pu (by rfl) T.Va (bF (bV cW (pv 2) bG (fun _ _=>rfl)) (bF (bV cW (pv 0) bG (fun _ _=>rfl)) bH)).mono) (iD (n:=2) rfl (cD (eG (i:=0)) (cD (eG (i:=1)) gO))) dj (bU cM (pv 0) (bV bY (pv 3) (bV cW (pv 1) bG (fun _ _=>rfl)) (fun _ _=>rfl)))) bH)) (bF (bV cW (pv 2) bG (fun _ _=>rfl)) bH)))))),?_⟩
  refine cj fun R1 hR1=>?_
  refine cI (aa7 (pG ⟨_,rfl,t,_,2,_,rfl,rfl,ht,cg (j:=2) rfl,r,ys,rfl,hr',by omega,fun D1 gD=>⟨fun k zs Hc=>Same H Hc/\Hc D1 = some (.lst zs)/\FLK K H zs ((chF cs).take k),⟨Same.upd gD,bK,.nil⟩,?_,?_⟩⟩))
  .rintro k v zs Hc hk ⟨S1,h1,fl⟩ hz hc' pre hpre
   obtain ⟨w1,w2,rfl⟩:=wG hpre
   have lk:k < cs.length:=by rw [<- yl]; exact (aq.mp hk).1
   have ec:cs[k]? = some cs[k]:=aj lk
   obtain ⟨tt,a,e1,e2,e3⟩:=ya k _ ec
   rw [hk] at e1
   cases e1
   have en:(chF cs)[k]? = some cs[k].2:=by unfold chF; rw [au,ec]; rfl
   refine ⟨tt,_,rfl,S1 _ _ e2,rfl,_,_,rfl,_,_,rfl,rfl,[_,_],rfl,rfl,_,rfl,h1,hc',fun b o z=>(bL (bI z gD)).trans (S1 _ _ z),bK,?_⟩
   rw [cF en]
   exact fl.append (.cons e3 .nil)
  rintro zs H1 ⟨S1,h1,fl⟩ hz
  rw [yl,<- cl,aQ] at fl
  refine ⟨D1,zs,chF cs,rfl,h1,fl.same S1,fq,by omega,fun D2 p2 f2 g2=>?_⟩
  have S2:Same H1 (upd (upd H1 D2 (.lst ((lvT (chF cs)).map V.int))) p2 (.tup [.ref D2,.int (lvB (chF cs):Nat)])):=(Same.upd f2).trans (Same.upd g2)
  have k1:=Same.upd g2 (o:=.tup [.ref D2,.int (lvB (chF cs):Nat)]) _ _ (bK (H:=H1) (a:=D2) (o:=.lst ((lvT (chF cs)).map V.int)))
  have k2:upd (upd H1 D2 (.lst ((lvT (chF cs)).map V.int))) p2 (.tup [.ref D2,.int (lvB (chF cs):Nat)]) p2 = _:=bK
  generalize upd (upd H1 D2 (.lst ((lvT (chF cs)).map V.int))) p2 (.tup [.ref D2,.int (lvB (chF cs):Nat)]) = H2 at S2 k1 k2 ⊢
  have SS:=S1.trans S2
  have tl:(lvT (chF cs)).length = cs.length:=by unfold lvT; rw [ao,cl]
  dsimp only [cU,L2.start]
  subst hR1
  refine eY (aa7 (NP (Cw ⟨_,rfl,p2,_,0,_,rfl,rfl,k2,dB,_,rfl,t,_,2,_,rfl,rfl,SS _ _ ht,cg (j:=2) rfl,D2,r,_,ys,rfl,k1,SS _ _ hr',by rw [ao,tl,yl],by rw [ao,tl]; omega,fun D3 g3=>⟨fun k zs Hc=>Same H2 Hc/\Hc D3 = some (.lst zs)/\zs = (((List.zipWith (fun p c=>p * Ts.getD c.1 0) (lvT (chF cs)) cs).take k).map V.int),⟨Same.upd g3,bK,rfl⟩,?_,?_⟩⟩)))
  .rintro k x y zs Hc t2 hx hy ⟨S3,h3,rfl⟩ hz ht2 ha hb pre hpre
   obtain ⟨w1,w2,rfl⟩:=wG hpre
   have lk:k < cs.length:=by rw [<- yl]; exact (aq.mp hy).1
   have ec:cs[k]? = some cs[k]:=aj lk
   obtain ⟨tt,a,e1,e2,e3⟩:=ya k _ ec
   rw [hy] at e1
   cases e1
   have el:(lvT (chF cs))[k]? = some ((lvT (chF cs))[k]'(by omega)):=aj _
   rw [au,el] at hx
   cases hx
   have S4:Same Hc (upd Hc t2 (.tup [.int ((lvT (chF cs))[k]'(by omega)),.ref tt])):=Same.upd ht2
   have k4:upd Hc t2 (.tup [.int ((lvT (chF cs))[k]'(by omega)),.ref tt]) t2 = _:=bK
   generalize upd Hc t2 (.tup [.int ((lvT (chF cs))[k]'(by omega)),.ref tt]) = H4 at S4 k4 ⊢
   have S24:=SS.trans (S3.trans S4)
   have cm:=hc _ (aW lk)
   have lt:cs[k].1 < Ts.length:=cm.1
   have eT:(Ts.map V.int)[cs[k].1]? = some (.int (Ts.getD cs[k].1 0)):=by rw [au,aj lt,aA,aj lt]; rfl
   have bt:Bd (Ts.getD cs[k].1 0):=bT _ (by rw [aA,aj lt]; exact aW lt)
   have bl:Bd ((lvT (chF cs))[k]'(by omega)):=(abY fq (by omega) _ (aW _)).bd (by decide)
   refine ⟨t2,_,rfl,k4,rfl,_,_,rfl,_,_,rfl,rfl,[_,_],rfl,rfl,_,rfl,_,rfl,_,rfl,tt,_,0,_,rfl,rfl,S24 _ _ e2,dB,Ta,_,_,_,rfl,rfl,S24 _ _ hT,cg (j:=cs[k].1) eT,_,_,rfl,rfl,⟨bl,bt⟩,S4 _ _ h3,S4 _ _ ha,S4 _ _ hb,fun b o z=>(bL (bI z g3)).trans (S4 _ _ (S3 _ _ z)),bK,?_⟩
   rw [cF (X7 (g:=fun p (c:Nat × Int × Int)=>p * Ts.getD c.1 0) el ec),bC]; rfl
  .rintro zs Hc ⟨S3,h3,ez⟩ hz
   rw [ao,tl,aM (by rw [List.length_zipWith]; omega)] at ez
   subst ez
   have b0:=Bg fq
   exact ⟨D3,_,rfl,h3,_,rfl,p2,_,1,_,rfl,rfl,S3 _ _ k2,cV,MJ cs Ts,(lvB (chF cs):Nat),rfl,by omega,(Vx fq (by omega)).bd (by decide),fun r z o l hr=>q r z o _ (SS.trans (S3.trans (Same.upd hr))) (Same.free (SS.trans S3) hr) bK l⟩
def j4 (cs:List (Nat × Int × Int)) (g:Nat->Rat):Rat:=(cs.map fun c=>vl c.2 * g c.1).sum
theorem P0 {B:Int} (hB:0 < B) {Ts:List Int} : ∀ {cs:List (Nat × Int × Int)},(∀ c ∈ cs,0 < c.2.2/\c.2.2 ∣ B)->(((List.zipWith (fun p (c:Nat × Int × Int)=>p * Ts.getD c.1 0) (cs.map fun c=>c.2.1 * (B / c.2.2)) cs).sum:Int):Rat) = (B:Rat) * j4 cs fun r=>(Ts.getD r 0:Rat)
 | [],_=>by
  show ((0:Int):Rat) = (B:Rat) * 0
  rw [Rat.intCast_zero,Rat.mul_zero]
 | c :: cs,h=>by
  have ih:=P0 hB (Ts:=Ts) (cs:=cs) fun c hc=>h c (aJ _ hc)
  obtain ⟨c0,d,e⟩:=h c aP
  rw [List.map_cons,List.zipWith_cons_cons,List.sum_cons,Rat.intCast_add,ih]
  show _ = (B:Rat) * (vl c.2 * (Ts.getD c.1 0:Rat) + j4 cs fun r=>(Ts.getD r 0:Rat))
  have e2:B / c.2.2 = d:=by rw [e,Int.mul_ediv_cancel_left _ (by omega)]
  rw [e2,e,Rat.intCast_mul,Rat.intCast_mul,Rat.intCast_mul]
  have:=eV c0
  unfold vl
  grind
theorem ZJ {cs:List (Nat × Int × Int)} {Ts:List Int} {z o:Int} (fq:∀ f ∈ chF cs,Fq f) (l:Low (MJ cs Ts) (lvB (chF cs):Nat) z o):vl (z,o) = j4 cs fun r=>(Ts.getD r 0:Rat):=by
 have b0:(0:Int) < (lvB (chF cs):Nat):=by have:=Bg fq; omega
 rw [l.vl b0]
 have e:MJ cs Ts = (List.zipWith (fun p (c:Nat × Int × Int)=>p * Ts.getD c.1 0) (cs.map fun c=>c.2.1 * (((lvB (chF cs):Nat):Int) / c.2.2)) cs).sum:=by
  unfold MJ lvT
  congr 2
  show (cs.map (·.2)).map _ = _
  rw [List.map_map]; rfl
 have:=P0 b0 (Ts:=Ts) (cs:=cs) fun c hc=>⟨(fq c.2 (List.mem_map.mpr ⟨c,hc,rfl⟩)).pos,Qp (List.mem_map.mpr ⟨c,hc,rfl⟩) (fq c.2 (List.mem_map.mpr ⟨c,hc,rfl⟩))⟩
 show ((MJ cs Ts:Int):Rat) / (((lvB (chF cs):Nat):Int):Rat) = _
 rw [e,this]
 have:=eV b0
 grind
theorem VP {a:Nat} : ∀ {l:List Int},(∀ x ∈ l,Bn a x)->l.sum.natAbs <= l.length * 10 ^ a
 | [],_=>by simp
 | x :: l,h=>by
  have h1:=VP (l:=l) fun y hy=>h y (aJ _ hy)
  have h2:x.natAbs <= 10 ^ a:=h x aP
  rw [List.sum_cons,List.length_cons,Nat.add_mul,Nat.one_mul]
  omega
theorem Zm {a b:Nat} {cs:List (Nat × Int × Int)} {Ts:List Int} (h1:∀ x ∈ lvT (chF cs),Bn a x) (h2:∀ x ∈ Ts,Bn b x) (l:cs.length <= 100):Bn (a + b + 2) (MJ cs Ts):=by
 have h:∀ x ∈ List.zipWith (fun p (c:Nat × Int × Int)=>p * Ts.getD c.1 0) (lvT (chF cs)) cs,Bn (a + b) x:=fun x hx=>by
  obtain ⟨k,hk⟩:=aX hx
  rw [List.getElem?_zipWith] at hk
  cases e1:(lvT (chF cs))[k]? with
  | none=>rw [e1] at hk; cases hk
  | some p =>
   cases e2:cs[k]? with
   | none=>rw [e1,e2] at hk; cases hk
   | some c =>
    rw [e1,e2] at hk
    cases hk
    refine Bn.mul (h1 p (aC e1)) ?_
    rw [aA]
    cases e3:Ts[c.1]? with
    | none=>exact bA _
    | some x=>exact h2 x (aC e3)
 have hs:=VP h
 unfold Bn MJ
 rw [Nat.pow_add _ (a + b) 2,Nat.mul_comm]
 refine aN hs (Nat.mul_le_mul_right _ ?_)
 rw [List.length_zipWith]
 omega
structure zY (n:Nat) (f:Int × Int) (cs:List (Nat × Int × Int)):Prop where
 pay:0 < f.2/\Bn 40 f.1/\Bn 40 f.2
 few:cs.length <= 41
 ch:∀ c ∈ cs,c.1 < n/\Fq c.2
 lv:Bn 60 (lvB (chF cs):Nat)
theorem zY.fq {n:Nat} {f:Int × Int} {cs:List (Nat × Int × Int)} (h:zY n f cs):∀ f ∈ chF cs,Fq f:=fun f hf=>by
 obtain ⟨c,hc,rfl⟩:=List.mem_map.mp hf
 exact (h.ch c hc).2
theorem zY.tops {n:Nat} {f:Int × Int} {cs:List (Nat × Int × Int)} (h:zY n f cs):∀ x ∈ lvT (chF cs),Bn 100 x:=fun x hx=>by
 obtain ⟨g,hg,rfl⟩:=List.mem_map.mp hx
 have b:Bn 60 (((lvB (chF cs):Nat):Int) / g.2):=aN (Int.natAbs_ediv_le_natAbs _ _) h.lv
 exact Bn.mul (a:=40) (b:=60) (h.fq g hg).sa b
def yX (K:Frag) (D:Adr):Sp:=fun vs H Q _=>∃ (o p t lv T:Addr) (rms:List (Str × List Dr)) (s f:Int × Int) (cs:List (Nat × Int × Int)) (Ts:List Int) (W:Int),vs = [.ref o,.ref t,.ref lv]/\oX D H o p rms/\H p = some (.tup [.int s.1,.int s.2])/\0 < s.2/\Bn 40 s.1/\Bn 40 s.2/\Ua K H t f cs/\zY Ts.length f cs/\H lv = some (.tup [.ref T,.int W])/\H T = some (.lst (Ts.map V.int))/\0 < W/\Bn 600 W/\(∀ x ∈ Ts,Bn 640 x) /\
 ∀ r z y H',Same H H'->H r = none->H' r = some (.tup [.int z,.int y])->0 < y->Bn 830 z->Bn 140 y->vl (z,y) = vl f * (W:Rat) + vl s * j4 cs (fun r=>(Ts.getD r 0:Rat))->Q (.ref r) H'
theorem Ca (F:Fun K jd jd pX f fd) (T:Txt K mg D) (qb:OkF P w K mg base 3 i_ jc (zO K)) (Aq:OkF P w K mg base 3 tK sY Dv) (Bj:OkF P w K mg base 3 rD rH (p8 (K:=K) fun a b=>a + b)):cC P w K mg base CX0 4 f fd iQ (yX K D):=by
 refine F.ok ur (fun vs H Q E h=>?_) (fun cdv A outer s H vs Q E hr h=>?_)
 .obtain ⟨o,p,t,lv,T,rms,s,f,cs,Ts,W,rfl,_⟩:=h
  rfl
 .obtain ⟨o,p,t,lv,Ta,rms,sh,f,cs,Ts,W,rfl,hh,hp,s0,b1,b2,of,df,hlv,hT,w0,bW,bT,q⟩:=h
  have hI:=hh
  obtain ⟨dx,nn,ll,zs0,ho,_,_,_⟩:=hI
  have fq:=df.fq
  refine ⟨_,(bM (cA (i:=3) ur.nd rfl (Or.inl rfl) (bQ qb (hr.mono (by decide)) (by rfl) (bF (pv 1) (bF (bV cW (pv 2) bG (fun _ _=>rfl)) bH))))
   (bO (cu (bQ Bj (hr.mono (by decide)) (by rfl) (bF (bQ Aq (hr.mono (by decide)) (by rfl) (bF (bV cW (pv 1) bG (fun _ _=>rfl)) (bF (dG (bF (bV cW (pv 2) bG (fun _ _=>rfl)) (bF bG bH))) bH))) (bF (bQ Aq (hr.mono (by decide)) (by rfl) (bF (qI (pv 0) rfl) (bF (pv 3) bH))) bH)))))),?_⟩
  refine cj fun R1 hR1=>?_
  refine cI ⟨_,rfl,_,rfl,lv,_,0,_,rfl,rfl,hlv,dB,t,Ta,f,cs,Ts,rfl,of,hT,df.few,df.ch,fun x hx=>(bT x hx).bd (by decide),fun r1 z1 o1 H1 S1 f1 h1 l1=>?_⟩
  have v1:=ZJ fq l1
  have bz1:Bn 742 z1:=(Zm (a:=100) (b:=640) df.tops bT (by have:=df.few; omega)).lx l1
  have bo1:Bn 60 o1:=df.lv.ly l1
  have p1:=l1.pos
  subst hR1
  dsimp only [cU,L2.start]
  obtain ⟨nm,pp,rr,ys,ht,hpp,_,_,_⟩:=of.ex
  obtain ⟨f0,bf1,bf2⟩:=df.pay
  refine eY ⟨_,rfl,t,_,1,_,rfl,rfl,S1 _ _ ht,cV,_,rfl,lv,_,1,_,rfl,rfl,S1 _ _ hlv,cV,d8,fun u2 H2 S2 f2 h2=>⟨pp,u2,f.1,f.2,W,1,rfl,S2 _ _ (S1 _ _ hpp),h2,bf1.bd (by decide),bf2.bd (by decide),bW.bd (by decide),Bd.sm (by decide),f0,by decide,by rw [Int.mul_one]; exact bf2.bd (by decide),fun r3 z3 o3 H3 S3 f3 h3 l3=>?_⟩⟩
  rw [Int.mul_one] at l3
  have bz3:Bn 640 z3:=(Bn.mul bf1 bW).lx l3
  have bo3:Bn 40 o3:=bf2.ly l3
  have p3:=l3.pos
  have v3:vl (z3,o3) = vl f * (W:Rat):=by
   rw [l3.vl f0]
   have:=Dc (x:=f.1) (y:=f.2) (u:=W) (v:=1) f0 (by decide)
   rw [Int.mul_one] at this
   rw [this,Wv]
  have S13:=S1.trans (S2.trans S3)
  refine ⟨_,rfl,o,D.Hall,dx,_,.ref p,rfl,S13 _ _ ho,T.tR,T.vH,rfl,_,rfl,p,r1,sh.1,sh.2,z1,o1,rfl,S13 _ _ hp,S3 _ _ (S2 _ _ h1),b1.bd (by decide),b2.bd (by decide),bz1.bd (by decide),bo1.bd (by decide),s0,p1,(Bn.mul b2 bo1).bd (by decide),fun r4 z4 o4 H4 S4 f4 h4 l4=>?_⟩
  have bz4:Bn 782 z4:=(Bn.mul b1 bz1).lx l4
  have bo4:Bn 100 o4:=(Bn.mul b2 bo1).ly l4
  have p4:=l4.pos
  have v4:vl (z4,o4) = vl sh * j4 cs fun r=>(Ts.getD r 0:Rat):=by
   rw [l4.vl (Int.mul_pos s0 p1),Dc s0 p1,v1]
  have S14:=S13.trans S4
  refine ⟨r3,r4,z3,o3,z4,o4,rfl,.of (S4 _ _ h3),.of h4,bz3.bd (by decide),bo3.bd (by decide),bz4.bd (by decide),bo4.bd (by decide),p3,p4,(Bn.mul bo3 bo4).bd (by decide),fun r5 z5 o5 l5 f5=>?_⟩
  have bt:Bn 823 (z3 * o4 + z4 * o3):=Bn.add (a:=822) ((Bn.mul bz3 bo4).up (by decide)) (Bn.mul bz4 bo3)
  refine q r5 z5 o5 _ (S14.trans (Same.upd f5)) (Same.free S14 f5) bK l5.pos ((bt.lx l5).up (by decide)) ((Bn.mul bo3 bo4).ly l5) ?_
  rw [l5.vl (Int.mul_pos p3 p4),Ol p3 p4,v3,v4]
structure DrN (K:Frag) (H:Hp) (ns:List Str) (d:Dr) (f:Int × Int) (cs:List (Nat × Int × Int)):Prop where
 pay:H d.p = some (.tup [.int f.1,.int f.2])
 len:d.ws.length = cs.length
 at_:∀ (k:Nat) g c,d.ws[k]? = some g->cs[k]? = some c->ns[c.1]? = some g.1/\SqT K H g.2 [.int c.2.1,.int c.2.2]
theorem DrN.same {H H':Hp} {ns:List Str} {d:Dr} {f:Int × Int} {cs:List (Nat × Int × Int)} (h:DrN K H ns d f cs) (S:Same H H'):DrN K H' ns d f cs:=⟨S _ _ h.pay,h.len,fun k g c e1 e2=>⟨(h.at_ k g c e1 e2).1,S.tup (h.at_ k g c e1 e2).2⟩⟩
theorem qm {ns:List Str} (nd:ns.Nodup) {i j:Nat} {n:Str} (h1:ns[i]? = some n) (h2:ns[j]? = some n):i = j:=by
 exact (List.getElem?_inj (aq.mp h1).1 nd).mp (h1.trans h2.symm)
theorem pK.offN {ns:List Str} (nd:ns.Nodup) {H:Hp} {zs:List V} {gs:List Dr} (h:pK ns H zs gs) {k:Nat} {d:Dr} (e:gs[k]? = some d) {f:Int × Int} {cs:List (Nat × Int × Int)} (hd:DrN K H ns d f cs):∃ t,zs[k]? = some (.ref t)/\Ua K H t f cs:=by
 obtain ⟨t,r,ys,a,b,c,w⟩:=h.at_ k d e
 refine ⟨t,a,d.nm,d.p,r,ys,b,hd.pay,c,by rw [w.len,hd.len],fun j g eg=>?_⟩
 have lj:j < d.ws.length:=by rw [hd.len]; exact (aq.mp eg).1
 have ew:d.ws[j]? = some d.ws[j]:=aj lj
 obtain ⟨tt,i,x1,x2,x3⟩:=w.at_ j _ ew
 obtain ⟨y1,y2⟩:=hd.at_ j _ g ew eg
 cases qm nd x2 y1
 exact ⟨tt,_,x1,x3,y2⟩
def wq (fs:List (Int × Int)) (r:Nat):Rat:=vl (fs.getD r (0,1))
def nU (s f:Int × Int) (cs:List (Nat × Int × Int)) (fs:List (Int × Int)):Rat:=vl f + vl s * j4 cs (wq fs)
theorem Qk {W:Rat} {g h:Nat->Rat} : ∀ {cs:List (Nat × Int × Int)},(∀ c ∈ cs,g c.1 = W * h c.1)->j4 cs g = W * j4 cs h
 | [],_=>by
  show (0:Rat) = W * 0
  rw [Rat.mul_zero]
 | c :: cs,e=>by
  have ih:=Qk (cs:=cs) fun c hc=>e c (aJ _ hc)
  show vl c.2 * g c.1 + j4 cs g = W * (vl c.2 * h c.1 + j4 cs h)
  rw [ih,e c aP]
  grind
structure RZ (K:Frag) (H:Hp) (ns:List Str) (n:Nat) (gs:List Dr) (fcs:List ((Int × Int) × List (Nat × Int × Int))):Prop where
 len:gs.length = fcs.length
 at_:∀ (k:Nat) d fc,gs[k]? = some d->fcs[k]? = some fc->DrN K H ns d fc.1 fc.2/\zY n fc.1 fc.2
theorem yQ {a b c:Rat} (p:0 < c):a <= b / c ↔ a * c <= b:=by rw [<- Rat.not_lt,Rat.div_lt_iff p,Rat.not_lt]
theorem wK {a b c:Rat} (p:0 < c):b / c <= a ↔ b <= a * c:=by rw [<- Rat.not_lt,Rat.lt_div_iff p,Rat.not_lt]
def IsI (q:Rat):Prop:=∃ z:Int,q = (z:Rat)
theorem IsI.add {p q:Rat} (h:IsI p) (g:IsI q):IsI (p + q):=by
 obtain ⟨a,rfl⟩:=h; obtain ⟨b,rfl⟩:=g; exact ⟨a + b,(Rat.intCast_add a b).symm⟩
theorem IsI.mul {p q:Rat} (h:IsI p) (g:IsI q):IsI (p * q):=by
 obtain ⟨a,rfl⟩:=h; obtain ⟨b,rfl⟩:=g; exact ⟨a * b,(Rat.intCast_mul a b).symm⟩
theorem Ni {f:Int × Int} {N:Nat} (h0:0 < f.2) (h:f.2 ∣ (N:Int)):IsI (vl f * ((N:Int):Rat)):=by
 obtain ⟨d,e⟩:=h
 refine ⟨f.1 * d,?_⟩
 have:=eV h0
 rw [e,Rat.intCast_mul,Rat.intCast_mul]
 unfold vl
 grind
theorem Ov {g:Int × Int} {N:Nat} (h0:0 < g.2) (hg:Int.gcd g.1 g.2 = 1) (h:IsI (vl g * ((N:Int):Rat))):g.2 ∣ (N:Int):=by
 obtain ⟨z,e⟩:=h
 have h1:=eV h0
 have e2:g.1 * (N:Int) = z * g.2:=by
  refine Rat.intCast_inj.mp ?_
  rw [Rat.intCast_mul,Rat.intCast_mul,<- e]
  unfold vl
  grind
 have c:Nat.Coprime g.2.natAbs g.1.natAbs:=by rw [Nat.coprime_comm]; exact hg
 have d:g.2.natAbs ∣ g.1.natAbs * N:=by
  have:g.2.natAbs ∣ (g.1 * (N:Int)).natAbs:=Int.natAbs_dvd_natAbs.mpr ⟨z,by rw [e2,Int.mul_comm]⟩
  rwa [Int.natAbs_mul,Int.natAbs_natCast] at this
 exact Int.natAbs_dvd.mp (Int.natCast_dvd_natCast.mpr (c.dvd_of_dvd_mul_left d))
structure WL (s:Int × Int) (L:Nat) (fc:(Int × Int) × List (Nat × Int × Int)):Prop where
 f0:0 < fc.1.2
 pay:fc.1.2 ∣ (L:Int)
 big:fc.1.1.natAbs <= 10 ^ 30
 few:fc.2.length <= 41
 ch:∀ c ∈ fc.2,0 < c.2.2/\s.2 * c.2.2 ∣ (L:Int)/\0 <= c.2.1/\c.2.1 <= c.2.2
def FT (L k:Nat) (fs:List (Int × Int)):Prop:=∀ f ∈ fs,0 < f.2/\Int.gcd f.1 f.2 = 1/\f.2 ∣ ((L ^ k:Nat):Int)/\f.1.natAbs <= 10 ^ 30 * 42 ^ k * f.2.natAbs
def Wn (B q:Rat):Prop:=-B <= q/\q <= B
theorem Wj {f:Int × Int} {B:Nat} (h0:0 < f.2) (h:f.1.natAbs <= B * f.2.natAbs):Wn ((B:Int):Rat) (vl f):=by
 have p:(0:Rat) < (f.2:Rat):=Rat.intCast_pos.mpr h0
 have e:((f.2.natAbs:Nat):Int) = f.2:=by omega
 have h':((f.1.natAbs:Nat):Int) <= (B:Int) * f.2:=by rw [<- e,<- Int.natCast_mul]; exact Int.ofNat_le.mpr h
 unfold vl
 constructor
 .rw [yQ p,<- Rat.intCast_neg,<- Rat.intCast_mul,Rat.intCast_le_intCast,Int.neg_mul]
  omega
 .rw [wK p,<- Rat.intCast_mul,Rat.intCast_le_intCast]
  omega
theorem afC {f:Int × Int} {B:Nat} (h0:0 < f.2) (h:Wn ((B:Int):Rat) (vl f)):f.1.natAbs <= B * f.2.natAbs:=by
 have p:(0:Rat) < (f.2:Rat):=Rat.intCast_pos.mpr h0
 have e:((f.2.natAbs:Nat):Int) = f.2:=by omega
 unfold vl at h
 obtain ⟨h1,h2⟩:=h
 rw [yQ p,<- Rat.intCast_neg,<- Rat.intCast_mul,Rat.intCast_le_intCast,Int.neg_mul] at h1
 rw [wK p,<- Rat.intCast_mul,Rat.intCast_le_intCast] at h2
 have:((f.1.natAbs:Nat):Int) <= ((B * f.2.natAbs:Nat):Int):=by rw [Int.natCast_mul,e]; omega
 exact Int.ofNat_le.mp this
theorem Wn.add {A B p q:Rat} (h:Wn A p) (g:Wn B q):Wn (A + B) (p + q):=by
 obtain ⟨a,b⟩:=h; obtain ⟨c,d⟩:=g
 exact ⟨by grind,by grind⟩
theorem Wn.part {B c q:Rat} (h:Wn B q) (c0:0 <= c) (c1:c <= 1):Wn B (c * q):=by
 obtain ⟨a,b⟩:=h
 have B0:0 <= B:=by
  have:=Rat.le_trans a b
  grind
 have k1:=Rat.mul_le_mul_of_nonneg_left a c0
 have k2:=Rat.mul_le_mul_of_nonneg_left b c0
 have k3:=Rat.mul_le_mul_of_nonneg_right c1 B0
 rw [Rat.one_mul] at k3
 refine ⟨?_,Rat.le_trans k2 k3⟩
 have : -B <= c * -B:=by
  rw [Rat.mul_neg]
  exact Rat.neg_le_neg k3
 exact Rat.le_trans this k1
theorem XQ {B:Rat} {G:Nat->Rat} (hG:∀ r,Wn B (G r)):∀ {cs:List (Nat × Int × Int)},(∀ c ∈ cs,0 < c.2.2/\0 <= c.2.1/\c.2.1 <= c.2.2)->Wn (((cs.length:Nat):Rat) * B) (j4 cs G)
 | [],_=>by
  show Wn (((0:Nat):Rat) * B) 0
  rw [show ((0:Nat):Rat) = 0 from rfl,Rat.zero_mul]
  exact ⟨by grind,by grind⟩
 | c :: cs,h=>by
  obtain ⟨a,b,d⟩:=h c aP
  have p:(0:Rat) < (c.2.2:Rat):=Rat.intCast_pos.mpr a
  have c0:0 <= vl c.2:=by
   unfold vl
   rw [yQ p,Rat.zero_mul]
   exact Rat.intCast_nonneg.mpr b
  have c1:vl c.2 <= 1:=by
   unfold vl
   rw [wK p,Rat.one_mul,Rat.intCast_le_intCast]
   exact d
  have ih:=XQ hG (cs:=cs) fun c hc=>h c (aJ _ hc)
  have:=((hG c.1).part c0 c1).add ih
  show Wn _ (vl c.2 * G c.1 + j4 cs G)
  rw [List.length_cons,show ((cs.length + 1:Nat):Rat) = (cs.length:Rat) + 1 from by rw [Rat.natCast_add]; rfl]
  have e:((cs.length:Rat) + 1) * B = B + (cs.length:Rat) * B:=by grind
  rw [e]
  exact this
theorem QG {x:Rat} {G:Nat->Rat} : ∀ {cs:List (Nat × Int × Int)},(∀ c ∈ cs,IsI (vl c.2 * G c.1 * x))->IsI (j4 cs G * x)
 | [],_=>⟨0,by show (0:Rat) * x = _; rw [Rat.zero_mul]; rfl⟩
 | c :: cs,h=>by
  have ih:=QG (cs:=cs) fun c hc=>h c (aJ _ hc)
  show IsI ((vl c.2 * G c.1 + j4 cs G) * x)
  rw [Rat.add_mul]
  exact (h c aP).add ih
theorem FT.wq {L k:Nat} {fs:List (Int × Int)} (h:FT L k fs) (r:Nat):IsI (wq fs r * (((L ^ k:Nat):Int):Rat))/\Wn (((10 ^ 30 * 42 ^ k:Nat):Int):Rat) (wq fs r):=by
 unfold K50.wq
 cases e:fs[r]? with
 | none =>
  rw [aA,e]
  have z:vl (0,1) = 0:=by
   show ((0:Int):Rat) / ((1:Int):Rat) = 0
   rw [Rat.intCast_zero]; grind
  show IsI (vl (0,1) * _)/\Wn _ (vl (0,1))
  refine ⟨by rw [z,Rat.zero_mul]; exact ⟨0,rfl⟩,Wj (by decide) (bA _)⟩
 | some f =>
  rw [aA,e]
  obtain ⟨a,b,c,d⟩:=h f (aC e)
  exact ⟨Ni a c,Wj a d⟩
theorem ZR {s:Int × Int} {L k:Nat} {fc:(Int × Int) × List (Nat × Int × Int)} {fs:List (Int × Int)} (s0:0 <= s.1) (s1:s.1 <= s.2) (s2:0 < s.2) (d:WL s L fc) (h:FT L k fs):IsI (nU s fc.1 fc.2 fs * (((L ^ (k + 1):Nat):Int):Rat))/\Wn (((10 ^ 30 * 42 ^ (k + 1):Nat):Int):Rat) (nU s fc.1 fc.2 fs):=by
 have eL:(((L ^ (k + 1):Nat):Int):Rat) = ((L:Int):Rat) * (((L ^ k:Nat):Int):Rat):=by rw [Nat.pow_succ,Int.natCast_mul,Rat.intCast_mul,Rat.mul_comm]
 have p:(0:Rat) < (s.2:Rat):=Rat.intCast_pos.mpr s2
 have q0:0 <= vl s:=by
  unfold vl
  rw [yQ p,Rat.zero_mul]
  exact Rat.intCast_nonneg.mpr s0
 have q1:vl s <= 1:=by
  unfold vl
  rw [wK p,Rat.one_mul,Rat.intCast_le_intCast]
  exact s1
 unfold nU
 constructor
 .rw [Rat.add_mul]
  refine IsI.add ?_ ?_
  .rw [eL,<- Rat.mul_assoc]
   exact (Ni d.f0 d.pay).mul ⟨_,rfl⟩
  .have e:vl s * j4 fc.2 (K50.wq fs) * (((L ^ (k + 1):Nat):Int):Rat) = j4 fc.2 (K50.wq fs) * (vl s * (((L:Int):Rat) * (((L ^ k:Nat):Int):Rat))):=by rw [eL]; grind
   rw [e]
   refine QG fun c hc=>?_
   obtain ⟨c0,dv,_⟩:=d.ch c hc
   have e2:vl c.2 * K50.wq fs c.1 * (vl s * (((L:Int):Rat) * (((L ^ k:Nat):Int):Rat))) = (vl (s.1 * c.2.1,s.2 * c.2.2) * ((L:Int):Rat)) * (K50.wq fs c.1 * (((L ^ k:Nat):Int):Rat)):=by
    rw [Dc s2 c0]; grind
   rw [e2]
   exact (Ni (f:=(s.1 * c.2.1,s.2 * c.2.2)) (Int.mul_pos s2 c0) dv).mul (h.wq c.1).1
 .have w1:Wn (((10 ^ 30:Nat):Int):Rat) (vl fc.1):=Wj d.f0 (aN d.big (Nat.le_mul_of_pos_right _ (by have:=d.f0; omega)))
  have w2:=(XQ (fun r=>(h.wq r).2) (cs:=fc.2) fun c hc=>let ⟨a,_,b,e⟩:=d.ch c hc; ⟨a,b,e⟩).part q0 q1
  have w:=w1.add w2
  have le:(((10 ^ 30:Nat):Int):Rat) + ((fc.2.length:Nat):Rat) * (((10 ^ 30 * 42 ^ k:Nat):Int):Rat) <= (((10 ^ 30 * 42 ^ (k + 1):Nat):Int):Rat):=by
   rw [show ((fc.2.length:Nat):Rat) = (((fc.2.length:Nat):Int):Rat) from rfl,<- Rat.intCast_mul,<- Rat.intCast_add,Rat.intCast_le_intCast,<- Int.natCast_mul,<- Int.natCast_add]
   refine Int.ofNat_le.mpr ?_
   have h1:fc.2.length * (10 ^ 30 * 42 ^ k) <= 41 * (10 ^ 30 * 42 ^ k):=Nat.mul_le_mul_right _ d.few
   have h2:10 ^ 30 * 1 <= 10 ^ 30 * 42 ^ k:=Nat.mul_le_mul_left _ (Nat.pos_of_ne_zero (by simp))
   have e:10 ^ 30 * 42 ^ (k + 1) = 10 ^ 30 * 42 ^ k * 42:=(Nat.mul_assoc (10 ^ 30) (42 ^ k) 42).symm
   rw [e]
   generalize 10 ^ 30 * 42 ^ k = x at *
   generalize fc.2.length * x = u at *
   omega
  exact ⟨Rat.le_trans (Rat.neg_le_neg le) w.1,Rat.le_trans w.2 le⟩
def Cp (s:Int × Int) (fcss:List (List ((Int × Int) × List (Nat × Int × Int)))) (fs gs:List (Int × Int)):Prop :=
 gs.length = fcss.length/\∀ (k:Nat) fcs g,fcss[k]? = some fcs->gs[k]? = some g->0 < g.2/\Int.gcd g.1 g.2 = 1/\(fcs = []->g = (0,1))/\(fcs ≠ []->∃ fc ∈ fcs,vl g = nU s fc.1 fc.2 fs)/\∀ fc ∈ fcs,nU s fc.1 fc.2 fs <= vl g
theorem Cp.ok {s:Int × Int} {L k:Nat} {fcss:List (List ((Int × Int) × List (Nat × Int × Int)))} {fs gs:List (Int × Int)} (s0:0 <= s.1) (s1:s.1 <= s.2) (s2:0 < s.2) (d:∀ fcs ∈ fcss,∀ fc ∈ fcs,WL s L fc) (n:Cp s fcss fs gs) (h:FT L k fs):FT L (k + 1) gs:=by
 intro g hg
 obtain ⟨j,hj⟩:=aX hg
 have lj:j < fcss.length:=by rw [<- n.1]; exact (aq.mp hj).1
 obtain ⟨g0,g1,z,nz,_⟩:=n.2 j _ g (aj lj) hj
 have m:=aW lj
 generalize fcss[j] = fcs at *
 by_cases e:fcs = []
 .have:=z e
  subst this
  refine ⟨g0,g1,by exact Int.one_dvd _,bA _⟩
 .obtain ⟨fc,hf,ev⟩:=nz e
  obtain ⟨a,b⟩:=ZR s0 s1 s2 (d fcs m fc hf) h
  rw [<- ev] at a b
  exact ⟨g0,g1,Ov g0 g1 a,afC g0 b⟩
theorem aaZ {x y:Int × Int} (hx:0 < x.2) (hy:0 < y.2):vl x < vl y ↔ x.1 * y.2 < y.1 * x.2:=by
 have h1:(0:Rat) < (x.2:Rat):=Rat.intCast_pos.mpr hx
 have h2:(0:Rat) < (y.2:Rat):=Rat.intCast_pos.mpr hy
 unfold vl
 have e:(y.1:Rat) / (y.2:Rat) * (x.2:Rat) = ((y.1:Rat) * (x.2:Rat)) / (y.2:Rat):=by grind
 rw [Rat.div_lt_iff h1,e,Rat.lt_div_iff h2,<- Rat.intCast_mul,<- Rat.intCast_mul,Rat.intCast_lt_intCast]
theorem aa0 {a b c:Rat} (h1:a <= b) (h2:b < c):a < c:=Rat.not_le.mp fun h=>Rat.not_le.mpr h2 (Rat.le_trans h h1)
structure Fb (f:Int × Int):Prop where
 pos:0 < f.2
 bx:Bd f.1
 b_y:Bd f.2
structure Top (fs:List (Int × Int)) (j:Nat) (f:Int × Int):Prop where
 at_:fs[j]? = some f
 le:∀ g ∈ fs,vl g <= vl f
 lt:∀ i g,i < j->fs[i]? = some g->vl g < vl f
def Ce:Sp:=fun vs H Q _=>∃ (l:Addr) (xs:List V) (fs:List (Int × Int)),vs = [.ref l]/\H l = some (.lst xs)/\FL H xs fs/\(∀ f ∈ fs,Fb f)/\(fs = []->Q .non H)/\∀ p f j,H p = some (.tup [.int f.1,.int f.2])->Top fs j f->Q (.ref p) H
theorem Ly (F:Fun K m6 m6 vV f fd) (T:Txt K mg D) (jY:OkF P w K mg base 1 m_ mZ (m9 (K:=K))):cC P w K mg base CX0 2 f fd ni Ce:=by
 refine F.ok pJ (fun vs H Q E h=>?_) (fun cdv A outer s H vs Q E hr h=>?_)
 .obtain ⟨l,xs,fs,rfl,_⟩:=h
  rfl
 .obtain ⟨l,xs,fs,rfl,hl,fl,fb,ne,q⟩:=h
  refine ⟨_,(bM (cA (i:=1) pJ.nd rfl (Or.inl rfl) Iv)
   (bM (iV PassesOwn.never rfl (cX ((pv 0)).mono) (cH (i:=2) pJ.nd rfl (Or.inl rfl))
    (bO (cY (PW.pt (pw_or (cQ Vv (pv 1) Iv (cN _)) (pw_or1 (dz (bQ jY (hr.mono (by decide)) (by rfl) (bF (pv 1) (bF (pv 2) bH))) (fun _=>rfl)))))
     (bO (cA (i:=1) pJ.nd rfl (Or.inl rfl) (pv 2)))
     cB)))
   (bO (cu (pv 1))))),?_⟩
  refine cI ?_
  refine cj fun R1 hR1=>?_
  refine dO (fY ⟨_,rfl,l,xs,rfl,hl,fun k σ H'=>∃ v u,σ = [some (.ref l),some v,u]/\H' = H/\((k = 0/\v = .non)\/∃ p f j,v = .ref p/\H p = some (.tup [.int f.1,.int f.2])/\j < k/\Top (fs.take k) j f),⟨_,_,rfl,rfl,.inl ⟨rfl,rfl⟩⟩,?_,?_⟩)
  .rintro k x σ' H' hk ⟨v,u,rfl,rfl,hv⟩ hx
   obtain ⟨p,g,rfl,hg,hp⟩:=fl.get hk
   have gb:=fb g (aC hg)
   have lk:=(aq.mp hg).1
   have gk:(fs.take (k + 1))[k]? = some g:=by rw [List.getElem?_take,if_pos (by omega)]; exact hg
   rcases hv with ⟨rfl,rfl⟩ | ⟨p1,f1,j,rfl,hp1,hj,tp⟩
   .refine ⟨_,rfl,rfl,true,congrArg V.bl (decide_eq_true rfl),_,rfl,hx,_,_,rfl,rfl,.inr ⟨p,g,0,rfl,hp,by decide,gk,fun g' hg'=>?_,fun i g' hi=>absurd hi (Nat.not_lt_zero _)⟩⟩
    rw [cF hg,List.take_zero,List.nil_append,List.mem_singleton] at hg'
    subst hg'
    exact Rat.le_refl
   .refine ⟨_,rfl,rfl,false,congrArg V.bl (decide_eq_false (fun z=>by cases z)),?_⟩
    have f1m:f1 ∈ fs:=List.mem_of_mem_take (aC tp.at_)
    have fb1:=fb f1 f1m
    have iff:=aaZ fb1.pos gb.pos
    refine ⟨_,rfl,_,rfl,p1,p,f1.1,f1.2,g.1,g.2,rfl,.of hp1,.of hp,fb1.bx,fb1.b_y,gb.bx,gb.b_y,decide (f1.1 * g.2 < g.1 * f1.2),rfl,?_⟩
    by_cases hlt:f1.1 * g.2 < g.1 * f1.2
    .rw [decide_eq_true hlt]
     have lt:=iff.mpr hlt
     refine ⟨_,rfl,hx,_,_,rfl,rfl,.inr ⟨p,g,k,rfl,hp,by omega,gk,fun g' hg'=>?_,fun i g' hi eg=>?_⟩⟩
     .rw [cF hg] at hg'
      rcases List.mem_append.mp hg' with z | z
      .exact Rat.le_of_lt (aa0 (tp.le g' z) lt)
      .rw [List.mem_singleton.mp z]; exact Rat.le_refl
     .rw [List.getElem?_take,if_pos (by omega)] at eg
      exact aa0 (tp.le g' (aC (by rw [List.getElem?_take,if_pos hi]; exact eg))) lt
    .rw [decide_eq_false hlt]
     have le:vl g <= vl f1:=Rat.not_lt.mp fun z=>hlt (iff.mp z)
     have cut:∀ i:Nat,i < k->(fs.take (k + 1))[i]? = (fs.take k)[i]?:=fun i hi=>by rw [List.getElem?_take,List.getElem?_take,if_pos (by omega),if_pos hi]
     refine ⟨hx,_,_,rfl,rfl,.inr ⟨p1,f1,j,rfl,hp1,by omega,by rw [cut j hj]; exact tp.at_,fun g' hg'=>?_,fun i g' hi eg=>?_⟩⟩
     .rw [cF hg] at hg'
      rcases List.mem_append.mp hg' with z | z
      .exact tp.le g' z
      .rw [List.mem_singleton.mp z]; exact le
     .rw [cut i (by omega)] at eg
      exact tp.lt i g' hi eg
  .rintro σ' H' ⟨v,u,rfl,rfl,hv⟩ hx
   subst hR1
   rcases hv with ⟨z,rfl⟩ | ⟨p1,f1,j,rfl,hp1,hj,tp⟩
   .exact ⟨_,rfl,ne (List.eq_nil_of_length_eq_zero (by rw [<- fl.length]; exact z))⟩
   .rw [fl.length,aQ] at tp
    exact ⟨_,rfl,q p1 f1 j hp1 tp⟩
def tZ:V->Prop | .int k=>0 <= k/\k <= 40 | _=>False
def JL (D:Adr):Sp:=fun vs H Q E=>∃ v,vs = [v]/\Odd H v/\(tZ v->Q .non H)/\(¬ tZ v->E (.ref D.NoNumber) none H)
theorem Fx (F:Fun K jG jG qW f fd) (T:Txt K mg D) (dh:OkF P w K mg base 1 fM fK jh):cC P w K mg base (CXO P w) 2 f fd jF (JL D):=by
 refine F.okX FQ (fun vs H Q E h=>?_) (fun cdv A outer s H vs Q E hr h=>?_)
 .obtain ⟨v,rfl,_⟩:=h
  rfl
 .obtain ⟨v,rfl,ov,q,e⟩:=h
  refine ⟨_,(bO (cY (PW.pt (pw_or (d9 (dz (bQ dh (hr.mono (by decide)) (by rfl) (bF (pv 0) bH)) (fun _=>rfl))) (pw_or1 (d9 (Dh Bo Bo bG (pv 0) (Ls (by rfl) T.abp))))))
    (bO (qu rfl (by rfl) T.wF T.CP qz (bF oH bH)))
    cB)),?_⟩
  unfold jh
  walk_at "rd"
  have no:¬ tZ v->1 <= sizeLine/\E (Value.ref D.NoNumber) none H:=fun z=>⟨by decide,e z⟩
  by_cases iv:∃ k,v = .int k
  .obtain ⟨k,rfl⟩:=iv
   refine ⟨_,rfl,?_⟩
   rw [if_neg (by decide)]
   refine ⟨k,rfl,?_⟩
   by_cases k0:0 <= k
   .rw [if_pos (decide_eq_true k0)]
    refine ⟨k,rfl,?_⟩
    by_cases k1:k <= 40
    .rw [if_neg (by simp [k1])]
     exact q ⟨k0,k1⟩
    .rw [if_pos (by simp [k1])]
     exact no fun z=>k1 z.2
   .rw [if_neg (by simp [k0])]
    exact no fun z=>k0 z.1
  .obtain ⟨t,et⟩:=ov
   refine ⟨t,et,?_⟩
   rw [aci et fun k z=>iv ⟨k,z⟩]
   exact no fun z=>by
    cases v with
    | int k=>exact iv ⟨k,rfl⟩
    | _=>exact z
def Ot (D:Adr):Sp:=fun vs H Q _=>∃ (v:V) (W:Int),vs = [v,.int W]/\((v = .non/\Q (.ref D.NOUGHT) H)\/∃ (p:Addr) (z y:Int),v = .ref p/\H p = some (.tup [.int z,.int y])/\0 < y/\Bd z/\Bd y/\0 < W/\Bd W/\Bd (y * W) /\
 ∀ r a b H',Same H H'->H r = none->H' r = some (.tup [.int a,.int b])->Low z (y * W) a b->Q (.ref r) H')
theorem Pb (F:Fun K oW oW zq f fd) (T:Txt K mg D) (OJ:OkF P w K mg base 3 xq wX Jx):cC P w K mg base CX0 4 f fd oZ (Ot D):=by
 refine F.ok PL (fun vs H Q E h=>?_) (fun cdv A outer s H vs Q E hr h=>?_)
 .obtain ⟨v,W,rfl,_⟩:=h
  rfl
 .obtain ⟨v,W,rfl,c⟩:=h
  refine ⟨_,(bO (cu (Vl (cQ Vv (pv 0) Iv (cN _)) (iY (by rfl) T.qj) (bQ OJ (hr.mono (by decide)) (by rfl) (bF (pv 0) (bF (dG (bF (pv 1) (bF bG bH))) bH)))))),?_⟩
  rcases c with ⟨rfl,q⟩ | ⟨p,z,y,rfl,hp,y0,bz,b_y,w0,bW,byW,q⟩
  .exact eY ⟨_,rfl,rfl,true,congrArg V.bl (decide_eq_true rfl),q⟩
  .refine eY ⟨_,rfl,rfl,false,congrArg V.bl (decide_eq_false (fun z=>by cases z)),_,rfl,_,rfl,d8,fun r1 H1 S1 f1 h1=>⟨p,r1,z,y,W,1,rfl,S1 _ _ hp,h1,bz,b_y,bW,Bd.sm (by decide),y0,w0,byW,fun r a b H2 S2 f2 h2 l=>?_⟩⟩
   rw [Int.mul_one] at l
   exact q r a b H2 (S1.trans S2) (Same.free S1 f2) h2 l
theorem lB {α:Type} {l:List α} {a b:α} {k:Nat} (h:(l ++ [a])[k]? = some b):(k < l.length/\l[k]? = some b)\/(k = l.length/\b = a):=by
 by_cases hk:k < l.length
 .rw [aF hk] at h
  exact .inl ⟨hk,h⟩
 .have hl:=(aq.mp h).1
  rw [aB,List.length_cons,List.length_nil] at hl
  have e:k = l.length:=by omega
  subst e
  rw [aD (aG _),Nat.sub_self] at h
  cases h
  exact .inr ⟨rfl,rfl⟩
theorem xT {as:List Addr} {H:Hp} {a:Addr} {u:HO} (h:a ∈ as):del as (upd H a u) = del as H:=by
 funext b
 unfold del
 split
 .rfl
 .rename_i hb
  exact bL fun z=>hb (z ▸ h)
theorem QK {fs:List (Int × Int)} {f:Int × Int} (hf:f ∈ fs) (h0:0 < f.2):f.2 ∣ (lvB fs:Nat):=by
 have h1:f.2.natAbs ∣ lvB fs:=Lv.Bx (List.mem_map.mpr ⟨f,hf,rfl⟩)
 have:=Int.natCast_dvd_natCast.mpr h1
 rwa [Int.natAbs_of_nonneg (Int.le_of_lt h0)] at this
theorem abd {fs:List (Int × Int)} (fz:∀ f ∈ fs,Fz f) {r:Nat} (lr:r < fs.length):((lvT fs).getD r 0:Rat) = (((lvB fs:Nat):Int):Rat) * wq fs r:=by
 have e:fs[r]? = some fs[r]:=aj lr
 have q:=fz _ (aW lr)
 unfold wq lvT
 rw [aA,aA,au,e]
 show ((fs[r].1 * (((lvB fs:Nat):Int) / fs[r].2):Int):Rat) = (((lvB fs:Nat):Int):Rat) * vl fs[r]
 obtain ⟨d,ed⟩:=QK (aW lr) q.pos
 have:=eV q.pos
 have e2:((lvB fs:Nat):Int) / fs[r].2 = d:=by rw [ed,Int.mul_ediv_cancel_left _ (Int.ne_of_gt q.pos)]
 rw [e2,ed,Rat.intCast_mul,Rat.intCast_mul]
 unfold vl
 grind
structure aen (fs:List (Int × Int)):Prop where
 fz:∀ f ∈ fs,Fz f
 few:fs.length <= 12
 lv:Bn 480 (lvB fs:Nat)
 tops:∀ x ∈ lvT fs,Bn 640 x
def nQ (s:Int × Int) (fs:List (Int × Int)) (fcs:List ((Int × Int) × List (Nat × Int × Int))):List Rat:=fcs.map fun fc=>nU s fc.1 fc.2 fs
structure yO (K:Frag) (D:Adr) (H:Hp) (o:Addr) (s:Int × Int) (fcss:List (List ((Int × Int) × List (Nat × Int × Int)))):Prop where
 ex:∃ (p:Addr) (rms:List (Str × List Dr)),oX D H o p rms/\abX rms/\(rms.map (·.1)).Nodup/\H p = some (.tup [.int s.1,.int s.2])/\fcss.length = rms.length/\∀ (k:Nat) g fcs,rms[k]? = some g->fcss[k]? = some fcs->RZ K H (rms.map (·.1)) fcss.length g.2 fcs
 s0:0 < s.2
 b1:Bn 40 s.1
 b2:Bn 40 s.2
 n12:fcss.length <= 12
theorem RZ.same {H H':Hp} {ns:List Str} {n:Nat} {gs:List Dr} {fcs:List ((Int × Int) × List (Nat × Int × Int))} (S:Same H H') (h:RZ K H ns n gs fcs):RZ K H' ns n gs fcs:=⟨h.len,fun k d fc e1 e2=>⟨(h.at_ k d fc e1 e2).1.same S,(h.at_ k d fc e1 e2).2⟩⟩
theorem yO.same {H H':Hp} {o:Addr} {s:Int × Int} {fcss:List (List ((Int × Int) × List (Nat × Int × Int)))} (S:Same H H') (h:yO K D H o s fcss):yO K D H' o s fcss:=by
 obtain ⟨p,rms,a,b,c,d,e,f⟩:=h.ex
 exact ⟨⟨p,rms,a.same S,b,c,S _ _ d,e,fun k g fcs e1 e2=>(f k g fcs e1 e2).same S⟩,h.s0,h.b1,h.b2,h.n12⟩
def qg (K:Frag) (D:Adr):Sp:=fun vs H Q _=>∃ (o la:Addr) (s:Int × Int) (xs:List V) (fs:List (Int × Int)) (fcss:List (List ((Int × Int) × List (Nat × Int × Int)))),vs = [.ref o,.ref la]/\yO K D H o s fcss/\H la = some (.lst xs)/\FLK K H xs fs/\aen fs/\fs.length = fcss.length /\
 ∀ r H' zs gs,Same H H'->H r = none->H' r = some (.lst zs)->FLK K H' zs gs->Cp s fcss fs gs->Q (.ref r) H'
theorem EY (F:Fun K iu iu nY f fd) (T:Txt K mg D) (oh:OkF P w K mg base 2 gW je (zc K)) (pY:OkF P w K mg base 4 jd iQ (yX K D)) (vZ:OkF P w K mg base 2 m6 ni Ce) (zj:OkF P w K mg base 4 oW oZ (Ot D)) (eX:OkI P w K mg base CX0 1 D.Hall_size fQ (gP D)) (pP:OkI P w K mg base CX0 3 D.Hall_offers iU (o9 D)):cC P w K mg base CX0 5 f fd iz (qg K D):=by
 refine F.ok jL (fun vs H Q E h=>?_) (fun cdv A outer s H vs Q E hr h=>?_)
 .obtain ⟨o,la,s,xs,fs,fcss,rfl,_⟩:=h
  rfl
 .obtain ⟨o,la,sh,xs,fs,fcss,rfl,hn,hla,fl,rb,fn,q⟩:=h
  obtain ⟨p,rms,hh,few,nd,hp,fcl,dn⟩:=hn.ex
  have s0:=hn.s0
  have b1:=hn.b1
  have b2:=hn.b2
  have n12:=hn.n12
  have hI:=hh
  obtain ⟨dx,nn,ll,zs0,ho,_,_,_⟩:=hI
  have z9:101 < sizeLine:=by decide
  refine ⟨_,(bM (cA (i:=2) jL.nd rfl (Or.inr rfl) (bQ oh (hr.mono (by decide)) (by rfl) (bF (pv 1) bH)))
   (bM (cA (i:=3) jL.nd rfl (Or.inl rfl) (jA bH))
   (bM (iV PassesOwn.never rfl (jo (by rfl) T.nZ (bF (PE.any fun C (hC:dZ D C)=>(vp (pv 0) (T.cl C hC.fam) (T.qP C hC) eX (hr.mono (by decide)))) bH).mono) (cH (i:=4) jL.nd rfl (Or.inl rfl))
    (bM (Gy (bN nY) qG qG ["offer"] (cX ((PE.any fun C (hC:gC D C)=>(LR (pv 0) (T.cl C hC.fam) (T.CG C hC) pP (hr.mono (by decide)) (bF (pv 4) bH)))).mono) (eG (i:=0)) dj (bQ pY (hr.mono (by decide)) (by rfl) (bF (pv 1) (bF (pv 0) (bF (pv 3) bH)))) (cH (i:=5) jL.nd rfl (Or.inl rfl)))
    (bO (dD (sU (pv 3) (bF (bQ zj (hr.mono (by decide)) (by rfl) (bF (bQ vZ (hr.mono (by decide)) (by rfl) (bF (pv 5) bH)) (bF (bV cW (pv 2) bG (fun _ _=>rfl)) bH))) bH))))))
   (bO (cu (pv 3)))))),?_⟩
  refine cj fun R1 hR1=>?_
  refine cI ⟨_,rfl,la,xs,fs,rfl,hla,fl,rb.fz,by have:=rb.few; omega,rb.lv.bd (by decide),fun D2 p2 f2 g2=>?_⟩
  have S2:Same H (upd (upd H D2 (.lst ((lvT fs).map V.int))) p2 (.tup [.ref D2,.int (lvB fs:Nat)])):=(Same.upd f2).trans (Same.upd g2)
  have k1:=Same.upd g2 (o:=.tup [.ref D2,.int (lvB fs:Nat)]) _ _ (bK (H:=H) (a:=D2) (o:=.lst ((lvT fs).map V.int)))
  have k2:upd (upd H D2 (.lst ((lvT fs).map V.int))) p2 (.tup [.ref D2,.int (lvB fs:Nat)]) p2 = _:=bK
  generalize upd (upd H D2 (.lst ((lvT fs).map V.int))) p2 (.tup [.ref D2,.int (lvB fs:Nat)]) = H2 at S2 k1 k2 ⊢
  have W0:(0:Int) < (lvB fs:Nat):=by have:=JV rb.fz; omega
  have bW:=rb.lv
  have bT:=rb.tops
  have lT:(lvT fs).length = fs.length:=by unfold lvT; rw [ao]
  have vT:∀ r,r < fs.length->((lvT fs).getD r 0:Rat) = (((lvB fs:Nat):Int):Rat) * wq fs r:=fun r lr=>abd rb.fz lr
  generalize hW:((lvB fs:Nat):Int) = W at *
  generalize lvT fs = Ts at *
  have WR:(0:Rat) < (W:Rat):=Rat.intCast_pos.mpr W0
  subst hR1
  dsimp only [cU,L2.start]
  refine cj fun R1 hR1=>?_
  refine cI ⟨bA _,fun tl H3 S3 f3 h3=>?_⟩
  subst hR1
  dsimp only [cU,L2.start]
  refine cj fun R1 hR1=>?_
  refine dO (qt ⟨D.Hall,(by unfold dZ; simp),_,rfl,o,dx,_,rfl,S3 _ _ (S2 _ _ ho),rfl,o,p,rms,rfl,(hh.same S2).same S3,rms.length,rfl,by have:=few.len; omega,fun k σ H'=>∃ u5 u6 zs gs,σ = [some (.ref o),some (.ref la),some (.ref p2),some (.ref tl),u5,u6]/\Same H2 H'/\H' tl = some (.lst zs)/\FLK K H' zs gs/\Cp sh (fcss.take k) fs gs,⟨none,none,[],[],rfl,S3,h3,.nil,?_⟩,?_,?_⟩)
  .exact ⟨rfl,fun k fcs g e=>by simp at e⟩
  .rintro k σ' H' hk ⟨u5,u6,zs,gs,rfl,S,htl,flg,nx⟩
   have eg:rms[k]? = some rms[k]:=aj hk
   have gm:=aW hk
   have ef:fcss[k]? = some (fcss[k]'(by omega)):=aj _
   have dn:=dn k _ _ eg ef
   have gf:=few.few _ gm
   have gw:=few.ways _ gm
   generalize rms[k] = g at *
   generalize fcss[k]'(by omega) = fcs at *
   have SH:=S2.trans S
   have zl:zs.length = k:=by rw [flg.length,nx.1,bw]; omega
   dsimp only [cU,List.set_cons_succ,List.set_cons_zero]
   refine cj fun R2 hR2=>?_
   refine cI (dH ⟨D.Hall,(by unfold gC; simp),_,rfl,o,dx,_,rfl,SH _ _ ho,rfl,_,rfl,o,p,k,rms,g,rfl,hh.same SH,eg,gf,gw,fun r H4 os S4 f4 h4 of4=>⟨r,os,rfl,h4,?_,fun D3 g3=>⟨fun j ys Hc=>Same H4 Hc/\Hc D3 = some (.lst ys)/\∃ qs,FL (del [D3] Hc) ys qs/\qs.length = j/\(∀ f ∈ qs,Fb f/\Bn 140 f.2)/\qs.map vl = ((nQ sh fs fcs).take j).map (· * (W:Rat)),⟨Same.upd g3,bK,[],.nil,rfl,by simp,rfl⟩,?_,?_⟩⟩⟩)
   .rw [(of4 [] (by intro a ha; cases ha)).len]; omega
   .rintro j y ys Hc hj ⟨S5,h5,qs,fl5,ql5,fb5,v5⟩ _ ha
    have of5:=(of4 [] (by intro a ha; cases ha)).same tL
    have zl:os.length = fcs.length:=by rw [of5.len,dn.len]
    have lj:j < fcs.length:=by rw [<- zl]; exact (aq.mp hj).1
    have ef2:fcs[j]? = some fcs[j]:=aj lj
    have ed:g.2[j]? = some (g.2[j]'(by rw [dn.len]; exact lj)):=aj _
    obtain ⟨dN,dF⟩:=dn.at_ j _ _ ed ef2
    generalize fcs[j] = fc at ef2 dN dF
    generalize g.2[j]'(by rw [dn.len]; exact lj) = d at ed dN
    have S04:=SH.trans S4
    obtain ⟨tt,et,oN⟩:=of5.offN nd ed (dN.same S04)
    rw [hj] at et
    cases et
    have S05:=S04.trans S5
    have S25:=S.trans (S4.trans S5)
    have dF':=dF
    rw [<- fn,<- lT] at dF'
    refine ⟨_,rfl,_,rfl,_,rfl,o,p,tt,p2,D2,rms,sh,fc.1,fc.2,Ts,W,rfl,hh.same S05,S05 _ _ hp,s0,b1,b2,oN.same S5,dF',S25 _ _ k2,S25 _ _ k1,W0,bW.up (by decide),bT,fun r7 z7 o7 H7 S7 f7 h7 y0 bz b_y v7=>?_⟩
    have n7:r7 ∉ [D3]:=by
     simp only [List.mem_singleton]
     exact (bI h5 f7).symm
    refine ⟨S7 _ _ h5,S7 _ _ ha,fun b u e=>(bL (bI e g3)).trans (S7 _ _ (S5 _ _ e)),bK,qs ++ [(z7,o7)],?_,by rw [aB,ql5]; rfl,fun f hf=>?_,?_⟩
    .rw [xT (List.mem_singleton.mpr rfl)]
     exact (fl5.same (ug fun b o _ e=>S7 _ _ e)).append (.cons (iJ n7 h7) .nil)
    .rcases List.mem_append.mp hf with hf | hf
     .exact fb5 f hf
     .rw [List.mem_singleton.mp hf]
      exact ⟨⟨y0,bz.bd (by decide),b_y.bd (by decide)⟩,b_y⟩
    .have eq:(nQ sh fs fcs)[j]? = some (nU sh fc.1 fc.2 fs):=by unfold nQ; rw [au,ef2]; rfl
     rw [cF eq,bC,bC,v5]
     congr 1
     show [vl (z7,o7)] = [nU sh fc.1 fc.2 fs * (W:Rat)]
     rw [v7,Qk (W:=(W:Rat)) (h:=wq fs) fun c hc=>vT c.1 (by rw [fn]; exact (dF.ch c hc).1)]
     unfold nU
     congr 1
     grind
   .rintro ys Hc ⟨S5,h5,qs,fl5,ql5,fb5,v5⟩ hy
    have ol:os.length = fcs.length:=by rw [(of4 [] (by intro a ha; cases ha)).len,dn.len]
    have lq:(nQ sh fs fcs).length = fcs.length:=by unfold nQ; rw [ao]
    rw [ol,<- lq,aQ] at v5
    rw [ol] at ql5
    have S6:=S4.trans S5
    have htl:=S6 _ _ htl
    have S26:=S.trans S6
    have fin:∀ (pv:Addr) (gv:Int × Int) (H7:Hp),Same Hc H7->SqT K H7 pv [.int gv.1,.int gv.2]->(0 < gv.2/\Int.gcd gv.1 gv.2 = 1/\(fcs = []->gv = (0,1))/\(fcs ≠ []->∃ fc ∈ fcs,vl gv = nU sh fc.1 fc.2 fs)/\∀ fc ∈ fcs,nU sh fc.1 fc.2 fs <= vl gv)->∃ u5 u6 zs' gs',[some (V.ref o),some (.ref la),some (.ref p2),some (.ref tl),some (.int (k:Nat)),some (.ref D3)] = [some (V.ref o),some (.ref la),some (.ref p2),some (.ref tl),u5,u6]/\Same H2 (upd H7 tl (.lst (zs ++ [.ref pv])))/\upd H7 tl (.lst (zs ++ [.ref pv])) tl = some (.lst zs')/\FLK K (upd H7 tl (.lst (zs ++ [.ref pv]))) zs' gs'/\Cp sh (fcss.take (k + 1)) fs gs':=by
     intro pv gv H7 S7 hv cv
     refine ⟨_,_,zs ++ [.ref pv],gs ++ [gv],rfl,fun b u e=>(bL (bI e f3)).trans (S7 _ _ (S26 _ _ e)),bK,?_,?_⟩
     .exact ((flg.same (S6.trans S7)).append (.cons hv .nil)).updL (S7 _ _ htl)
     .rw [cF ef]
      refine ⟨by rw [aB,aB,nx.1]; rfl,fun i fcs' g' e1 e2=>?_⟩
      rcases lB e1 with ⟨a1,a2⟩ | ⟨a1,a2⟩ <;> rcases lB e2 with ⟨c1,c2⟩ | ⟨c1,c2⟩
      .exact nx.2 i fcs' g' a2 c2
      .have:=nx.1; omega
      .have:=nx.1; omega
      .subst a2; subst c2; exact cv
    subst hR2
    dsimp only [cU,List.set_cons_succ,List.set_cons_zero]
    have r20:=few.len
    refine ⟨_,rfl,tl,_,rfl,htl,_,rfl,D3,ys,qs,rfl,h5,fl5.same tL,fun f hf=>(fb5 f hf).1,fun e0=>?_,fun pg fg jg hpg tp=>?_⟩
    .have ef0:fcs = []:=List.eq_nil_of_length_eq_zero (by rw [<- ql5,e0]; rfl)
     refine ⟨_,rfl,p2,_,1,_,rfl,rfl,S26 _ _ k2,cV,.non,W,rfl,.inl ⟨rfl,_,_,rfl,htl,by omega,fin D.NOUGHT (0,1) Hc (fun _ _ z=>z) (T.oF _) ⟨by decide,by decide,fun _=>rfl,fun z=>absurd ef0 z,fun fc hf=>by rw [ef0] at hf; cases hf⟩⟩⟩
    .obtain ⟨bg,b140⟩:=fb5 fg (aC tp.at_)
     have key:∀ (i:Nat) fc,fcs[i]? = some fc->∃ g,qs[i]? = some g/\vl g = nU sh fc.1 fc.2 fs * (W:Rat):=fun i fc e=>by
      have li:i < qs.length:=by rw [ql5]; exact (aq.mp e).1
      have e1:(qs.map vl)[i]? = some (nU sh fc.1 fc.2 fs * (W:Rat)):=by
       rw [v5]
       unfold nQ
       rw [au,au,e]; rfl
      rw [au,aj li] at e1
      exact ⟨_,aj li,Option.some.inj e1⟩
     have lj:jg < fcs.length:=by rw [<- ql5]; exact (aq.mp tp.at_).1
     have Wn:=eV W0
     have vg:∀ a b:Int,Low fg.1 (fg.2 * W) a b->vl (a,b) * (W:Rat) = vl fg:=fun a b l=>by
      have h1:=l.vl (Int.mul_pos bg.pos W0)
      have h2:=acg (x:=fg.1) (y:=fg.2) (u:=W) (v:=1) bg.pos W0 (by decide)
      rw [Int.mul_one] at h2
      rw [h1,h2,Wv]
      grind
     refine ⟨_,rfl,p2,_,1,_,rfl,rfl,S26 _ _ k2,cV,.ref pg,W,rfl,.inr ⟨pg,fg.1,fg.2,rfl,hpg,bg.pos,bg.bx,bg.b_y,W0,bW.bd (by decide),(Bn.mul b140 bW).bd (by decide),fun r a b H7 S7 f7 h7 l=>⟨_,_,rfl,S7 _ _ htl,by omega,fin r (a,b) H7 S7 (.of h7) ⟨l.pos,l.gcd,fun z=>?_,fun _=>?_,fun fc hf=>?_⟩⟩⟩⟩
     .rw [z] at lj; cases lj
     .have ec:fcs[jg]? = some fcs[jg]:=aj lj
      obtain ⟨g',e1,e2⟩:=key jg _ ec
      rw [tp.at_] at e1
      cases e1
      refine ⟨_,aW lj,?_⟩
      have:=vg a b l
      rw [e2] at this
      grind
     .obtain ⟨i,ei⟩:=aX hf
      obtain ⟨g',e1,e2⟩:=key i fc ei
      have le:=tp.le g' (aC e1)
      rw [e2,<- vg a b l] at le
      exact Rat.le_of_mul_le_mul_right le WR
  .rintro σ' H' ⟨u5,u6,zs,gs,rfl,S,htl,flg,nx⟩
   rw [<- fcl,aQ] at nx
   subst hR1
   exact ⟨_,rfl,q tl H' zs gs (S2.trans S) (Same.free S2 f3) htl flg nx⟩
structure Rds (K:Frag) (H:Hp) (ls:List Addr) (fss:List (List (Int × Int))):Prop where
 len:ls.length = fss.length
 nd:ls.Nodup
 at_:∀ (k:Nat) l fs,ls[k]? = some l->fss[k]? = some fs->∃ zs,H l = some (.lst zs)/\FLK K H zs fs
theorem Rds.same {H H':Hp} {ls:List Addr} {fss:List (List (Int × Int))} (S:Same H H') (h:Rds K H ls fss):Rds K H' ls fss:=⟨h.len,h.nd,fun k l fs e1 e2=>by
 obtain ⟨zs,a,b⟩:=h.at_ k l fs e1 e2
 exact ⟨zs,S _ _ a,b.same S⟩⟩
theorem Rds.off {H:Hp} {ls:List Addr} {fss:List (List (Int × Int))} {t:Addr} {ys zs:List V} (h:Rds K H ls fss) (ht:H t = some (.lst ys)) (n:t ∉ ls):Rds K (upd H t (.lst zs)) ls fss:=⟨h.len,h.nd,fun k l fs e1 e2=>by
 obtain ⟨zs,a,b⟩:=h.at_ k l fs e1 e2
 exact ⟨zs,(bL fun z=>n (by rw [<- z]; exact aC e1)).trans a,b.updL ht⟩⟩
theorem Rds.snoc {H:Hp} {ls:List Addr} {fss:List (List (Int × Int))} {l:Addr} {zs:List V} {fs:List (Int × Int)} (h:Rds K H ls fss) (n:l ∉ ls) (hl:H l = some (.lst zs)) (fl:FLK K H zs fs):Rds K H (ls ++ [l]) (fss ++ [fs]):=by
 refine ⟨by rw [aB,aB,h.len]; rfl,?_,fun k l' fs' e1 e2=>?_⟩
 .rw [List.nodup_append]
  refine ⟨h.nd,by simp,fun a ha b hb z=>?_⟩
  rw [List.mem_singleton.mp hb] at z
  exact n (z ▸ ha)
 .have ll:=h.len
  rcases lB e1 with ⟨a1,a2⟩ | ⟨a1,a2⟩ <;> rcases lB e2 with ⟨c1,c2⟩ | ⟨c1,c2⟩
  .exact h.at_ k l' fs' a2 c2
  .omega
  .omega
  .subst a2; subst c2; exact ⟨zs,hl,fl⟩
structure Rounds (s:Int × Int) (fcss:List (List ((Int × Int) × List (Nat × Int × Int)))) (L:Nat) (fss:List (List (Int × Int))):Prop where
 first:fss[0]? = some (List.replicate fcss.length (0,1))
 next:∀ (k:Nat) fs gs,fss[k]? = some fs->fss[k + 1]? = some gs->Cp s fcss fs gs
 ok:∀ (k:Nat) fs,fss[k]? = some fs->FT L k fs/\fs.length = fcss.length
structure Xb (s:Int × Int) (fcss:List (List ((Int × Int) × List (Nat × Int × Int)))) (L:Nat):Prop where
 s0:0 <= s.1
 s1:s.1 <= s.2
 s2:0 < s.2
 L0:0 < L
 d:∀ fcs ∈ fcss,∀ fc ∈ fcs,WL s L fc
theorem FT.bd {L k m:Nat} {fs:List (Int × Int)} (h:FT L k fs) (L0:0 < L) (hk:k <= m) (m40:m <= 40) (hm:L ^ m <= 10 ^ 480) (few:fs.length <= 12):aen fs:=by
 have le:L ^ k <= 10 ^ 480:=aN (Nat.pow_le_pow_right L0 hk) hm
 have p0:0 < L ^ k:=Nat.pow_pos L0
 have f42:42 ^ k <= 10 ^ 66:=aN (Nat.pow_le_pow_right (by decide) (aN hk m40)) (by decide +kernel)
 have fz0:∀ f ∈ fs,f.2.natAbs <= 10 ^ 480/\f.2.natAbs ∣ L ^ k:=fun f hf=>by
  obtain ⟨a,b,c,d⟩:=h f hf
  have c':f.2.natAbs ∣ L ^ k:=by
   have:=Int.natAbs_dvd_natAbs.mpr c
   rwa [Int.natAbs_natCast] at this
  exact ⟨aN (Nat.le_of_dvd p0 c') le,c'⟩
 have top:∀ f ∈ fs,f.1.natAbs <= 10 ^ 96 * f.2.natAbs:=fun f hf=>by
  obtain ⟨a,b,c,d⟩:=h f hf
  refine aN d (Nat.mul_le_mul_right _ ?_)
  have:(10:Nat) ^ 30 * 42 ^ k <= 10 ^ 30 * 10 ^ 66:=Nat.mul_le_mul_left _ f42
  rw [<- Nat.pow_add] at this
  exact this
 have fz:∀ f ∈ fs,Fz f:=fun f hf=>by
  obtain ⟨a,b,c,d⟩:=h f hf
  obtain ⟨e,_⟩:=fz0 f hf
  have b2:Bn 480 f.2:=e
  have b1:Bn 576 f.1:=aN (top f hf) (by
   have:(10:Nat) ^ 96 * f.2.natAbs <= 10 ^ 96 * 10 ^ 480:=Nat.mul_le_mul_left _ e
   rw [<- Nat.pow_add] at this
   exact this)
  exact ⟨a,b1.bd (by decide),b2.bd (by decide)⟩
 have lv:lvB fs ∣ L ^ k:=Lv.yN.mpr fun c hc=>by
  obtain ⟨f,hf,rfl⟩:=List.mem_map.mp hc
  exact (fz0 f hf).2
 have lvl:lvB fs <= 10 ^ 480:=aN (Nat.le_of_dvd p0 lv) le
 refine ⟨fz,few,by unfold Bn; rw [Int.natAbs_natCast]; exact lvl,fun x hx=>?_⟩
 obtain ⟨f,hf,rfl⟩:=List.mem_map.mp hx
 have dv:=QK hf (fz f hf).pos
 obtain ⟨q,eq⟩:=dv
 have p:=(fz f hf).pos
 have e2:((lvB fs:Nat):Int) / f.2 = q:=by rw [eq,Int.mul_ediv_cancel_left _ (Int.ne_of_gt p)]
 show Bn 640 (f.1 * (((lvB fs:Nat):Int) / f.2))
 rw [e2]
 have h1:f.1.natAbs * q.natAbs <= 10 ^ 96 * f.2.natAbs * q.natAbs:=Nat.mul_le_mul_right _ (top f hf)
 have h2:f.2.natAbs * q.natAbs = lvB fs:=by
  have:=congrArg Int.natAbs eq
  rw [Int.natAbs_natCast,Int.natAbs_mul] at this
  exact this.symm
 rw [Nat.mul_assoc,h2] at h1
 have h3:(10:Nat) ^ 96 * lvB fs <= 10 ^ 96 * 10 ^ 480:=Nat.mul_le_mul_left _ lvl
 rw [<- Nat.pow_add] at h3
 unfold Bn
 rw [Int.natAbs_mul]
 exact aN h1 (aN h3 (Nat.pow_le_pow_right (by decide) (by decide)))
def Bt (K:Frag) (D:Adr) (frees:List V):Sp:=fun vs H Q E=>vs.length = 1/\qg K D (frees ++ vs) H Q E
def Eb (K:Frag) (D:Adr) (frees:List V) (f:Addr):Sp:=fun vs H Q _=>∃ (o l0:Addr) (many L:Nat) (s:Int × Int) (fcss:List (List ((Int × Int) × List (Nat × Int × Int)))) (xs0:List V),frees = [.ref o]/\vs = [.ref l0,.int many,.ref f]/\many <= 40/\yO K D H o s fcss/\Xb s fcss L/\L ^ many <= 10 ^ 480/\H l0 = some (.lst xs0)/\FLK K H xs0 (List.replicate fcss.length (0,1)) /\
 ∀ t ls fss H',Same H H'->H t = none->(∀ l ∈ ls,H l = none)->t ∉ l0 :: ls->H' t = some (.lst ((l0 :: ls).map V.ref))->Rds K H' (l0 :: ls) fss->fss.length = many + 1->Rounds s fcss L fss->Q (.ref t) H'
theorem Ld {n:Nat} (h:1 <= n):ixN n (-1) = some (n - 1):=by
 unfold ixN
 rw [if_neg (by omega),if_pos (by omega)]
 congr 1
 omega
theorem M_ {xs:List V} {x:V} : atI (xs ++ [x]) (-1) = some x:=by
 unfold atI
 rw [aB,List.length_singleton,Ld (by omega)]
 show (xs ++ [x])[xs.length + 1 - 1]? = some x
 rw [Nat.add_sub_cancel,aD (aG _),Nat.sub_self]; rfl
theorem zA {fr fo:Addr} {fd:FuncData} {frees:List V} {kL:Nat} (F:Fun K mH mH nH fr fd) (T:Txt K mg D) (Vf:OkL P w K mg base 6 fo ["ahead"] (Bt K D frees)):cC P w K mg base CX0 7 fr fd mD (Eb K D frees fo):=by
 refine F.ok qp (fun vs H Q E h=>?_) (fun cdv A outer s H vs Q E hr h=>?_)
 .obtain ⟨o,l0,many,L,s,fcss,xs0,_,rfl,_⟩:=h
  rfl
 .obtain ⟨o,l0,many,L,sh,fcss,xs0,rfl,rfl,m40,hn,hL,hm,hl0,fl0,q⟩:=h
  have z9:101 < sizeLine:=by decide
  have n12:=hn.n12
  refine ⟨_,(bM (cA (i:=3) qp.nd rfl (Or.inl rfl) (jA (bF (pv 0) bH)))
   (bM (Cd PassesOwn.never (cQ Bo (b_ d_ (by rfl) T.kI PySem.boot_len (bF (pv 3) bH)) (pv 1) (cN _))
    (bO (dD (sU (pv 3) (bF (Wz Vf (hr.mono (by decide)) (pv 2) (bF (bV bY (pv 3) (K7 BX bG) (fun _ _=>rfl)) bH)) bH)))))
   (bO (cu (pv 3))))),?_⟩
  refine cI ⟨_,rfl,QV,fun t H1 S1 f1 h1=>?_⟩
  dsimp only [cU,L2.start]
  have nt0:t ≠ l0:=(bI hl0 f1).symm
  refine cj fun R1 hR1=>?_
  refine dO ⟨fun m σ H'=>∃ (ls:List Addr) (fss:List (List (Int × Int))),m = many + 1 - fss.length/\σ = [some (.ref l0),some (.int many),some (.ref fo),some (.ref t)]/\Same H H'/\(∀ l ∈ ls,H l = none)/\t ∉ l0 :: ls/\H' t = some (.lst ((l0 :: ls).map V.ref))/\Rds K H' (l0 :: ls) fss/\fss.length <= many + 1/\Rounds sh fcss L fss,⟨many,[],[List.replicate fcss.length (0,1)],by simp,rfl,S1,by simp,by simpa using nt0,h1,⟨rfl,by simp,fun k l fs e1 e2=>?_⟩,by simp,⟨rfl,fun k fs gs _ e=>by simp at e,fun k fs e=>?_⟩⟩,?_⟩
  .have k0:k = 0:=by have:=(aq.mp e1).1; simp at this; exact this
   subst k0
   cases e1
   cases e2
   exact ⟨xs0,S1 _ _ hl0,fl0.same S1⟩
  .have k0:k = 0:=by have:=(aq.mp e).1; simp at this; exact this
   subst k0
   cases e
   refine ⟨fun f hf=>?_,aO⟩
   rw [(List.mem_replicate.mp hf).2]
   exact ⟨by decide,by decide,Int.one_dvd _,bA _⟩
  .rintro m σ H' ⟨ls,fss,rfl,rfl,S,new,nt,ht,rd,le,ro⟩
   have ll:=rd.len
   refine ⟨_,rfl,t,_,rfl,ht,_,rfl,_,_,rfl,rfl,decide (fss.length <= many),?_,?_⟩
   .refine congrArg V.bl (decide_eq_decide.mpr ?_)
    rw [ao,ll]
    omega
   by_cases c:fss.length <= many
   .rw [decide_eq_true c]
    have f0:0 < fss.length:=by rw [<- ll]; simp
    obtain ⟨lx,la,el,ela⟩ : ∃ lx la,l0 :: ls = lx ++ [la]/\(l0 :: ls)[fss.length - 1]? = some la:=by
     have:(l0 :: ls) ≠ []:=by simp
     refine ⟨(l0 :: ls).dropLast,(l0 :: ls).getLast this,(List.dropLast_concat_getLast this).symm,?_⟩
     rw [<- ll,<- List.getLast?_eq_getElem?,List.getLast?_eq_some_getLast this]
    have ef:fss[fss.length - 1]? = some (fss[fss.length - 1]'(by omega)):=aj _
    obtain ⟨zs,hz,flz⟩:=rd.at_ _ la _ ela ef
    obtain ⟨rok,rl⟩:=ro.ok _ _ ef
    have rb:=rok.bd hL.L0 (m:=many) (by omega) m40 hm (by omega)
    generalize fss[fss.length - 1]'(by omega) = fs at *
    have aL:atI ((l0 :: ls).map V.ref) (-1) = some (.ref la):=by rw [el,bC]; exact M_
    refine ⟨fun σ' H''=>∃ (ls':List Addr) (fss':List (List (Int × Int))),fss'.length = fss.length + 1/\σ' = [some (.ref l0),some (.int many),some (.ref fo),some (.ref t)]/\Same H H''/\(∀ l ∈ ls',H l = none)/\t ∉ l0 :: ls'/\H'' t = some (.lst ((l0 :: ls').map V.ref))/\Rds K H'' (l0 :: ls') fss'/\Rounds sh fcss L fss',?_,?_⟩
    .rintro σ' H'' ⟨ls',fss',a1,a2,a3,a4,a5,a6,a7,a8⟩
     exact ⟨_,(by omega),ls',fss',rfl,a2,a3,a4,a5,a6,a7,by omega,a8⟩
    refine ⟨_,rfl,t,_,rfl,ht,_,rfl,rfl,_,rfl,1,rfl,t,_,_,_,rfl,rfl,ht,aL,rfl,o,la,sh,zs,fs,fcss,rfl,hn.same S,hz,flz,rb,rl,fun r H3 ys gs S3 f3 h3 fl3 nx=>?_⟩
    have ht3:=S3 _ _ ht
    have nrl:r ∉ l0 :: ls:=fun z=>by
     obtain ⟨k,hk⟩:=aX z
     have lk:k < fss.length:=by rw [<- ll]; exact (aq.mp hk).1
     obtain ⟨zs',a,_⟩:=rd.at_ k r _ hk (aj lk)
     rw [f3] at a; cases a
    have nrt:t ≠ r:=bI ht f3
    have ntt:t ∉ l0 :: (ls ++ [r]):=fun z=>by
     rw [<- List.cons_append] at z
     rcases List.mem_append.mp z with z | z
     .exact nt z
     .exact nrt (List.mem_singleton.mp z)
    refine ⟨_,_,rfl,ht3,by rw [ao,ll]; omega,ls ++ [r],fss ++ [gs],by simp,rfl,fun b u e=>(bL (bI e f1)).trans (S3 _ _ (S _ _ e)),fun l hl=>?_,ntt,by rw [bK,<- List.cons_append,bC]; rfl,?_,?_⟩
    .rcases List.mem_append.mp hl with hl | hl
     .exact new l hl
     .rw [List.mem_singleton.mp hl]; exact Same.free S f3
    .rw [<- List.cons_append]
     refine Rds.off ((rd.same S3).snoc nrl h3 fl3) ht3 ?_
     rw [List.cons_append]; exact ntt
    .refine ⟨by rw [aF f0]; exact ro.first,fun k fs' gs' e1 e2=>?_,fun k fs' e=>?_⟩
     .rcases lB e2 with ⟨c1,c2⟩ | ⟨c1,c2⟩
      .rw [aF (by omega)] at e1
       exact ro.next k fs' gs' e1 c2
      .rw [aF (by omega)] at e1
       have:k = fss.length - 1:=by omega
       rw [this,ef] at e1
       cases e1
       subst c2
       exact nx
     .rcases lB e with ⟨c1,c2⟩ | ⟨c1,c2⟩
      .exact ro.ok k fs' c2
      .subst c2
       have:=nx.ok hL.s0 hL.s1 hL.s2 hL.d rok
       rw [show fss.length - 1 + 1 = k by omega] at this
       exact ⟨this,nx.1⟩
   .rw [decide_eq_false c]
    show R1 _ _ _
    subst hR1
    exact ⟨_,rfl,q t ls fss H' S f1 new nt ht rd (by omega) ro⟩
def Vj:Expr:=match eE iy with
 | [_,.Return (some (.Call _ [_,_,l] _ _)) _]=>l
 | _=>.Name "x" ⟨0,0,0,0⟩
def abO:Arguments:=match Vj with | .Lambda a _ _ _=>a | _=>gA iy
def abU:Expr:=match Vj with | .Lambda _ b _ _=>b | _=>Vj
def Wg:Scope:=match Vj with | .Lambda _ _ c _=>c | _=>bN iy
def lamP:Pos:=match Vj with | .Lambda _ _ _ p=>p | _=>⟨0,0,0,0⟩
abbrev Ih:Str:=(eZ ++ ".<locals>.") ++ "<lambda>"
theorem ab5 {k0:Nat} (kO:∀ base,OkF P w K mg base 5 iu iz (qg K D)) {base':Heap} {frees:List V} {f c cc:Addr} {ctv pm:Value} (ho:base'.get? f = some (PySem.W.kla_obj "<lambda>" Ih abO abU Wg [("hall",cc)] pm c ctv)) (hc:base'.CodeRec (.ref c) Ih) (hs:vq base' Wg [("hall",cc)] frees):OkL P w K mg base' 6 f ["ahead"] (Bt K D frees):=by
 refine ⟨_,_,ab4 ho hc rfl rfl rfl (by decide +kernel) rfl (fun y hy=>?_) hs (fun vs H Q E h=>h.1) (fun A outer s H v Q E hr h=>?_),.all (fun us e=>?_),ho,rfl⟩
 .have:∀ y ∈ Wg.names,y.2 = .free->y.1 = "hall" := by decide +kernel
  obtain rfl:y = "hall" := this _ (PySem.mem_of_lookup hy) rfl
  exact ⟨cc,rfl⟩
 .obtain ⟨_,h⟩:=h
  cases hs with
  | @cons _ _ vh _ _ _ _ _ _ _ _ hs =>
   cases hs
   refine ⟨_,bQ (kO base') (hr.mono (by decide)) (by rfl) (bF (pv 1) (bF (pv 0) bH)),?_⟩
   exact ⟨_,rfl,_,rfl,h⟩
 .match us,e with
  | [_],_=>rfl
def qX (K:Frag) (D:Adr):Sp:=fun vs H Q E=>∃ (o:Addr) (v:V),vs = [.ref o,v]/\Odd H v/\(¬ tZ v->E (.ref D.NoNumber) none H) /\
 (tZ v->∃ (many L:Nat) (s:Int × Int) (fcss:List (List ((Int × Int) × List (Nat × Int × Int)))) (oc:Option Addr),v = .int many/\vO D.T_best_rounds lamP Ih H oc/\yO K D (wo (D.T_best_rounds :: oc.toList) H) o s fcss/\Xb s fcss L/\L ^ many <= 10 ^ 480 /\
  ∀ t ls fss H' c,Same (wo (D.T_best_rounds :: oc.toList) H) (wo [D.T_best_rounds,c] H')->vO D.T_best_rounds lamP Ih H' (some c)->(∀ c0,oc = some c0->c = c0)->H t = none->(∀ l ∈ ls,H l = none)->t ∉ ls->H' t = some (.lst (ls.map V.ref))->Rds K (wo [D.T_best_rounds,c] H') ls fss->fss.length = many + 1->Rounds s fcss L fss->Q (.ref t) H')
theorem Du {f c0:Addr} {fd:FuncData} (F:Fun K eZ eZ iy f fd) (hc:fd.code = .ref c0) (hC:PySem.W.codeHdIn K c0 D.T_best_rounds = true) (T:Txt K mg D) (hB:base.BuiltinsAt mg D.T_best_rounds) (kO:∀ base,OkF P w K mg base 5 iu iz (qg K D)) (pR:OkX P w K mg base 2 jG jF (JL D)) (eX:OkI P w K mg base CX0 1 D.Hall_size fQ (gP D)):cC P w K mg base (CXO P w) 8 f fd gB (qX K D):=by
 obtain ⟨fR,fdR,FR,bR,mR⟩:=T.Ak
 refine F.okXc hc Dq (fun vs H Q E h=>?_) (fun A outer s H vs Q E hr h=>?_)
 .obtain ⟨o,v,rfl,_⟩:=h
  rfl
 .obtain ⟨o,v,rfl,ov,e,q⟩:=h
  refine ⟨_,(bM (dD (gG pR (hr.mono (by decide)) (by rfl) gq (bF (pv 1) bH)))
   (bO (cu (PJ (Pt:=D.T_best_rounds) (pos:=lamP) (qual:=Ih) (pm:=(mg "__name__").getD .none) (params:=abO) (body:=abU) (scope:=Wg) (cl:=[("hall",s.heap.objs.size + 1)]) (js:=[0]) (spL:=Bt K D) (spR:=Eb K D) (by rfl) mR FR.kp (.all bR) (hr.mono (by decide)) (fun base' frees f V=>zA (kL:=6) FR T V) (fun base' frees f c ctv ho hc hs=>ab5 (k0:=0) kO ho hc hs) (by rfl) (fun q hq=>by rw [List.mem_singleton.mp hq]; exact ⟨rfl,rfl,rfl⟩) (by simp) (fun q hq=>rfl)
    (bF (bU acd (jA (bF (iY (by rfl) T.qj) bH)) (PE.any fun C (hC:dZ D C)=>(vp (pv 0) (T.cl C hC.fam) (T.qP C hC) eX (hr.mono (by decide))))) (bF (pv 1) (bF (ab1 (params:=abO) (body:=abU) (scope:=Wg) (pos:=lamP) hB rfl hC (by rfl)) bH))))))),?_⟩
  refine dO ⟨_,rfl,v,rfl,ov,fun mn=>?_,fun nm=>e nm⟩
  obtain ⟨many,L,sh,fcss,oc,rfl,la,hn,hL,hm,q⟩:=q mn
  have m40:many <= 40:=by have:=mn.2; omega
  obtain ⟨p,rms,hh,few,nd,hp,fcl,dn⟩:=hn.ex
  have hh:=hh.same jr
  have hI:=hh
  obtain ⟨dx,nn,ll,zs0,ho,_,_,_⟩:=hI
  have z9:101 < sizeLine:=by decide
  have r20:=few.len
  have fr:(List.replicate rms.length [V.ref D.NOUGHT]).flatten = List.replicate fcss.length (.ref D.NOUGHT):=by rw [<- fcl,List.flatten_replicate_singleton]
  dsimp only
  refine eY ⟨QV,fun p1 H1 S1 f1 h1=>⟨D.Hall,(by unfold dZ; simp),_,rfl,o,dx,_,rfl,S1 _ _ ho,rfl,o,p,rms,rfl,hh.same S1,p1,_,_,rfl,rfl,h1,by omega,by omega,?_,fun l0 g0=>?_⟩⟩
  .show 1 * _ <= _
   omega
  rw [Int.toNat_natCast,fr]
  have S2:Same H (upd H1 l0 (.lst (List.replicate fcss.length (.ref D.NOUGHT)))):=S1.trans (Same.upd g0)
  have k0:upd H1 l0 (.lst (List.replicate fcss.length (.ref D.NOUGHT))) l0 = some (.lst (List.replicate fcss.length (.ref D.NOUGHT))):=bK
  have fl0:H l0 = none:=Same.free S1 g0
  generalize upd H1 l0 (.lst (List.replicate fcss.length (.ref D.NOUGHT))) = H3 at S2 k0 ⊢
  have la3:vO D.T_best_rounds lamP Ih H3 oc:=by
   cases oc with
   | none=>exact S2 _ _ la
   | some c=>exact ⟨S2 _ _ la.1,S2 _ _ la.2⟩
  refine ⟨_,rfl,oc,la3,fun f4 c H4 ff fc c1 c2 la4 hf eo=>⟨f4,c,[.ref o],hf,fc,la4,rfl,?_⟩⟩
  have pt3:∃ t,H3 D.T_best_rounds = some (.tbl t):=by
   cases oc with
   | none=>exact ⟨_,la3⟩
   | some c=>exact ⟨_,la3.1⟩
  have S3:Same (wo (D.T_best_rounds :: oc.toList) H3) (wo [D.T_best_rounds,c,f4] H4):=fun b u e=>by
   obtain ⟨nb,e'⟩:=qL e
   have n1:b ≠ D.T_best_rounds:=fun z=>nb (by rw [z]; exact aP)
   have n2:b ≠ c:=fun z=>by
    cases oc with
    | none=>rw [z,c1 rfl] at e'; cases e'
    | some c0=>exact nb (by rw [z,c2 c0 rfl]; simp)
   have n3:b ≠ f4:=fun z=>by rw [z,ff] at e'; cases e'
   rw [j8 (by simp; exact ⟨n1,n2,n3⟩),eo b n1 n2 n3]
   exact e'
  have S23:Same (wo (D.T_best_rounds :: oc.toList) H) (wo (D.T_best_rounds :: oc.toList) H3):=fun b u e=>by
   obtain ⟨nb,e'⟩:=qL e
   rw [j8 nb]; exact S2 _ _ e'
  have SS:=S23.trans S3
  have in3:∀ {b:Addr} {xs:List V},H3 b = some (.lst xs)->wo (D.T_best_rounds :: oc.toList) H3 b = some (.lst xs):=fun {b xs} e=>by
   refine (j8 fun z=>?_).trans e
   rcases List.mem_cons.mp z with z | z
   .obtain ⟨t,ht⟩:=pt3
    rw [z,ht] at e; cases e
   .cases oc with
    | none=>cases z
    | some c0 =>
     rw [List.mem_singleton.mp z,la3.2] at e; cases e
  have flk:∀ n,FLK K (wo [D.T_best_rounds,c,f4] H4) (List.replicate n (.ref D.NOUGHT)) (List.replicate n (0,1)):=fun n=>by
   induction n with
   | zero=>exact .nil
   | succ n ih=>exact .cons (T.oF _) ih
  refine ⟨o,l0,many,L,sh,fcss,_,rfl,rfl,m40,hn.same SS,hL,hm,S3 _ _ (in3 k0),flk _,fun t ls fss H5 S5 ft new nt ht rd len ro H6 e6 la6 n1 n2 n3=>?_⟩
  have S56:Same H5 (wo [D.T_best_rounds,c] H6):=fun b u e=>by
   have a1:b ≠ D.T_best_rounds:=fun z=>by rw [z,n1] at e; cases e
   have a2:b ≠ c:=fun z=>by rw [z,n2] at e; cases e
   rw [j8 (by simp; exact ⟨a1,a2⟩),e6 b a1 a2]
   exact e
  have un:∀ b u,H5 b = some u->wo [D.T_best_rounds,c,f4] H4 b = none->H b = none:=fun b u e z=>by
   have a1:b ≠ D.T_best_rounds:=fun z=>by rw [z,n1] at e; cases e
   have a2:b ≠ c:=fun z=>by rw [z,n2] at e; cases e
   have a3:b ≠ f4:=fun z=>by rw [z,n3] at e; cases e
   rw [j8 (by simp; exact ⟨a1,a2,a3⟩),eo b a1 a2 a3] at z
   exact Same.free S2 z
  refine q t (l0 :: ls) fss H6 c (SS.trans (S5.trans S56)) la6 c2 (un t _ ht ft) (fun l hl=>?_) nt (jr _ _ (S56 _ _ ht)) (rd.same S56) len ro
  rcases List.mem_cons.mp hl with rfl | hl'
  .exact fl0
  .obtain ⟨k,hk⟩:=aX hl
   have lk:k < fss.length:=by rw [<- rd.len]; exact (aq.mp hk).1
   obtain ⟨zs,a,_⟩:=rd.at_ k l _ hk (aj lk)
   exact un l _ a (new l hl')
def qw:Sp:=fun vs H Q _=>∃ (a b:Int),vs = [.int a,.int b]/\0 < b/\Bd b/\∀ p,H p = none->Q (.ref p) (upd H p (.tup [.int (Ac.lw a b).1,.int (Ac.lw a b).2]))
theorem Rz (F:Fun K mG mG Cz f fd) (Gr:OkF P w K mg base 1 zy zx CT):cC P w K mg base CX0 2 f fd mz qw:=by
 refine F.ok Gu (fun vs H Q E h=>?_) (fun cdv A outer s H vs Q E hr h=>?_)
 .obtain ⟨a,b,rfl,_⟩:=h
  rfl
 .obtain ⟨a,b,rfl,hb,hbd,q⟩:=h
  refine ⟨_,(bM (cA (i:=2) Gu.nd rfl (Or.inl rfl) (bQ Gr (hr.mono (by decide)) (by rfl) (bF (pv 0) (bF (pv 1) bH))))
   (bO (cu (j6 (bF (bU lg (pv 0) (pv 2)) (bF (bU lg (pv 1) (pv 2)) bH)))))),?_⟩
  have g0:=Ju (a:=a) (b:=b) (by omega)
  have g1:=Oe (a:=a) (b:=b) (by omega) hbd
  unfold CT
  walk_at "rd"
  rw [qd _ g0,qd _ g0]
  exact ⟨by omega,g1,by omega,g1,d8,q⟩
theorem Same.sql {K:Frag} {H H':Hp} {a:Addr} {xs:List V} (S:Same H H') (h:SqL K H a xs):SqL K H' a xs:=by
 rcases h with (h | ⟨o,h⟩) | h
 .exact .inl (.inl (S _ _ h))
 .exact .inl (.inr ⟨o,S _ _ h⟩)
 .exact .inr h
theorem Zz {α:Type} : ∀ {l:List α},l.length = 2->∃ a b,l = [a,b]
 | [a,b],_=>⟨a,b,rfl⟩
theorem Ub {α:Type} {l:List α} (h:l.length = 3):∃ a b c,l = [a,b,c]:=by
 match l,h with
 | [a,b,c],_=>exact ⟨a,b,c,rfl⟩
structure V6 (n m:Nat) (sm:Bool):Prop where
 n12:n <= 12
 m40:m <= 40
 ok:(sm = true/\((n <= 2/\m <= 14)\/n <= 1))\/(sm = false/\(n = 0\/m <= 2\/(n <= 4/\m <= 5)))
def Cy:Sp:=fun vs H Q _=>∃ c:Int,vs = [.int c]/\∀ (n m:Nat) (sm:Bool) r H',V6 n m sm->Same H H'->H' r = some (.tup [.int n,.int m,.bl sm])->Q (.ref r) H'
theorem VL (F:Fun K tX tX Ke f fd) (T:Txt K mg D) (dR:OkF P w K mg base 1 iB gY h_):cC P w K mg base CX0 2 f fd uF Cy:=by
 refine F.ok K1 (fun vs H Q E h=>?_) (fun cdv A outer s H vs Q E hr h=>?_)
 .obtain ⟨c,rfl,_⟩:=h
  rfl
 .obtain ⟨c,rfl,q⟩:=h
  refine ⟨_,(bM (cA (i:=1) K1.nd rfl (Or.inl rfl) (bQ dR (hr.mono (by decide)) (by rfl) (bF (pv 0) (bF bG bH))))
   (bM (cY (cQ nR (bU cR (bV bY (pv 1) bG (fun _ _=>rfl)) bG) bG (cN _))
    (bO (cu (dG (bF (bU cZ bG (bU cR (bV bY (pv 1) bG (fun _ _=>rfl)) bG)) (bF (bU cZ bG (bU cR (bV bY (pv 1) bG (fun _ _=>rfl)) bG)) (bF iC bH))))))
    cB)
   (bM (cY (cQ nR (bU cR (bV bY (pv 1) bG (fun _ _=>rfl)) bG) bG (cN _))
    (bO (cu (dG (bF bG (bF (bU cZ bG (bU cR (bV bY (pv 1) bG (fun _ _=>rfl)) bG)) (bF iC bH))))))
    cB)
   (bM (cY (cQ nR (bU cR (bV bY (pv 1) bG (fun _ _=>rfl)) bG) bG (cN _))
    (bO (cu (dG (bF bG (bF (bU cR (bV bY (pv 1) bG (fun _ _=>rfl)) bG) (bF iC bH))))))
    cB)
   (bM (cY (cQ nR (bU cR (bV bY (pv 1) bG (fun _ _=>rfl)) bG) bG (cN _))
    (bO (cu (dG (bF (bU cZ bG (bU cR (bV bY (pv 1) bG (fun _ _=>rfl)) bG)) (bF (bU cR (bV bY (pv 1) bG (fun _ _=>rfl)) bG) (bF iC bH))))))
    cB)
   (bO (cu (dG (bF (bU cZ bG (bU cR (bV bY (pv 1) bG (fun _ _=>rfl)) bG)) (bF (bU cR (bV bY (pv 1) bG (fun _ _=>rfl)) bG) (bF iC bH))))))))))),?_⟩
  refine cI ⟨_,rfl,c,3,rfl,by decide,fun l xs H1 S1 fl hl ln hx=>?_⟩
  obtain ⟨a,b,e,rfl⟩:=Ub ln
  have l3:3 <= sizeLine:=by decide
  have go:∀ (n m:Nat) (x y:Int) (sm:Bool) r H',x = n->y = m->V6 n m sm->Same H1 H'->H' r = some (.tup [.int x,.int y,.bl sm])->Q (.ref r) H':=fun n m x y sm r H' e1 e2 sz S h=>by
   subst e1; subst e2; exact q n m sm r H' sz (S1.trans S) h
  dsimp only [cU,L2.start]
  refine cj fun R1 hR1=>?_
  refine dO ⟨_,rfl,l,_,0,_,rfl,rfl,hl,dB,a,16,rfl,rfl,(show (0:Int) < 16 by decide),rfl,decide (V.int (a % 16) = V.int 1),rfl,?_⟩
  by_cases e1:V.int (a % 16) = V.int 1
  .rw [decide_eq_true e1]
   exact ⟨_,rfl,l,_,1,_,rfl,rfl,hl,cV,b,2,rfl,rfl,(show (0:Int) < 2 by decide),_,_,rfl,rfl,_,rfl,l,_,2,_,rfl,rfl,hl,cg (j:=2) rfl,e,8,rfl,rfl,(show (0:Int) < 8 by decide),_,_,rfl,rfl,l3,fun r H2 S2 f2 h2=>go (1 + b % 2).toNat (7 + e % 8).toNat _ _ true r H2 (by omega) (by omega) ⟨by omega,by omega,.inl ⟨rfl,.inl ⟨by omega,by omega⟩⟩⟩ S2 h2⟩
  rw [decide_eq_false e1]
  show R1 _ _ _
  subst hR1
  refine cj fun R1 hR1=>?_
  refine dO ⟨_,rfl,l,_,0,_,rfl,rfl,hl,dB,a,16,rfl,rfl,(show (0:Int) < 16 by decide),rfl,decide (V.int (a % 16) = V.int 4),rfl,?_⟩
  by_cases e1:V.int (a % 16) = V.int 4
  .rw [decide_eq_true e1]
   exact ⟨_,rfl,l,_,2,_,rfl,rfl,hl,cg (j:=2) rfl,e,8,rfl,rfl,(show (0:Int) < 8 by decide),_,_,rfl,rfl,l3,fun r H2 S2 f2 h2=>go 1 (33 + e % 8).toNat _ _ true r H2 (by omega) (by omega) ⟨by omega,by omega,.inl ⟨rfl,.inr (aG _)⟩⟩ S2 h2⟩
  rw [decide_eq_false e1]
  show R1 _ _ _
  subst hR1
  refine cj fun R1 hR1=>?_
  refine dO ⟨_,rfl,l,_,0,_,rfl,rfl,hl,dB,a,16,rfl,rfl,(show (0:Int) < 16 by decide),rfl,decide (V.int (a % 16) = V.int 2),rfl,?_⟩
  by_cases e1:V.int (a % 16) = V.int 2
  .rw [decide_eq_true e1]
   exact ⟨_,rfl,l,_,2,_,rfl,rfl,hl,cg (j:=2) rfl,e,41,rfl,rfl,(show (0:Int) < 41 by decide),l3,fun r H2 S2 f2 h2=>go 0 (e % 41).toNat _ _ false r H2 (by omega) (by omega) ⟨by omega,by omega,.inr ⟨rfl,.inl rfl⟩⟩ S2 h2⟩
  rw [decide_eq_false e1]
  show R1 _ _ _
  subst hR1
  refine cj fun R1 hR1=>?_
  refine dO ⟨_,rfl,l,_,0,_,rfl,rfl,hl,dB,a,16,rfl,rfl,(show (0:Int) < 16 by decide),rfl,decide (V.int (a % 16) = V.int 3),rfl,?_⟩
  by_cases e1:V.int (a % 16) = V.int 3
  .rw [decide_eq_true e1]
   exact ⟨_,rfl,l,_,1,_,rfl,rfl,hl,cV,b,8,rfl,rfl,(show (0:Int) < 8 by decide),_,_,rfl,rfl,_,rfl,l,_,2,_,rfl,rfl,hl,cg (j:=2) rfl,e,3,rfl,rfl,(show (0:Int) < 3 by decide),l3,fun r H2 S2 f2 h2=>go (5 + b % 8).toNat (e % 3).toNat _ _ false r H2 (by omega) (by omega) ⟨by omega,by omega,.inr ⟨rfl,.inr (.inl (by omega))⟩⟩ S2 h2⟩
  rw [decide_eq_false e1]
  show R1 _ _ _
  subst hR1
  exact eY ⟨_,rfl,l,_,1,_,rfl,rfl,hl,cV,b,4,rfl,rfl,(show (0:Int) < 4 by decide),_,_,rfl,rfl,_,rfl,l,_,2,_,rfl,rfl,hl,cg (j:=2) rfl,e,6,rfl,rfl,(show (0:Int) < 6 by decide),l3,fun r H2 S2 f2 h2=>go (1 + b % 4).toNat (e % 6).toNat _ _ false r H2 (by omega) (by omega) ⟨by omega,by omega,.inr ⟨rfl,.inr (.inr ⟨by omega,by omega⟩)⟩⟩ S2 h2⟩
def yB (sm:Bool):Int:=if sm then 1 else 1000
def hB (sm:Bool):Int:=if sm then 4 else 100
def wB (sm:Bool):Int:=if sm then 12 else 4004
def NK:Sp:=fun vs H Q _=>∃ (c a b:Int) (sm:Bool),vs = [.int c,.int a,.int b,.bl sm]/\∀ (p:Addr) (x y:Int) H',Same H H'->H p = none->H' p = some (.tup [.int x,.int y])->0 < y->Int.gcd x y = 1->x.natAbs <= 10 ^ 30->y <= yB sm->Q (.ref p) H'
theorem ab0 (F:Fun K Dt Dt Ve f fd) (T:Txt K mg D) (iM:OkF P w K mg base 2 mG mz qw):cC P w K mg base CX0 3 f fd BK NK:=by
 refine F.ok abb (fun vs H Q E h=>?_) (fun cdv A outer s H vs Q E hr h=>?_)
 .obtain ⟨c,a,b,sm,rfl,_⟩:=h
  rfl
 .obtain ⟨c,x,y,sm,rfl,q⟩:=h
  have lo:∀ (a b:Int) (p:Addr),sm = false->0 < b->a.natAbs <= 10 ^ 30->b <= 1000->H p = none->Q (.ref p) (upd H p (.tup [.int (Ac.lw a b).1,.int (Ac.lw a b).2])):=fun a b p hs b0 ha hb hp=>by
   have h2:=Ac.zQ a b
   have h3:=Ac.jD (t:=a) b0
   exact q p _ _ _ (Same.upd hp) hp bK h3 (Ac.wA b0) (aN (Ac.BL a b) ha) (by subst hs; show _ <= (1000:Int); omega)
  have one:1 <= yB sm:=by cases sm <;> decide
  refine ⟨_,(bM (cY (PW.pt (pw_or (dz (pv 3) (fun _=>rfl)) (pw_or1 (cQ zZ (bU cR (pv 1) bG) bG (cN _)))))
    (bO (cu (dG (bF (bU um (bU cR (pv 2) bG) bG) (bF bG bH)))))
    cB)
   (bM (cY (cQ zZ (bU cR (pv 1) bG) bG (cN _))
    (bO (cu (bQ iM (hr.mono (by decide)) (by rfl) (bF (bU um (bU cR (pv 2) bG) bG) (bF (bU cZ bG (bU cR (bU lg (pv 1) bG) bG)) bH)))))
    cB)
   (bM (cY (cQ nR (bU cR (pv 1) bG) bG (cN _))
    (bO (cu (dG (bF (bU um (bU cR (pv 0) bG) bG) (bF bG bH)))))
    cB)
   (bO (cu (bQ iM (hr.mono (by decide)) (by rfl) (bF (bU um (bU cR (bU cZ (bU O9 (pv 0) bG) (pv 2)) (bU cZ (bU cM bG (bU IW bG bG)) bG)) (bU IW bG bG)) (bF (bU cZ bG (bU cR (bU lg (pv 1) bG) bG)) bH)))))))),?_⟩
  have b30:Bd 1000000000000000000000000000000:=Nat.lt_of_le_of_lt (aG _) (by decide +kernel)
  have m7:(0:Int) < 7:=by decide
  have m8:(0:Int) < 8:=by decide
  refine cj fun R1 hR1=>?_
  refine dO ⟨_,rfl,sm,rfl,?_⟩
  cases sm with
  | true =>
   rw [if_pos rfl]
   exact ⟨_,rfl,y,7,rfl,rfl,m7,_,_,rfl,rfl,d8,fun p H2 S2 f2 h2=>q p _ _ H2 S2 f2 h2 (by decide) (by simp) (by omega) one⟩
  | false =>
   refine ⟨_,rfl,x,8,rfl,rfl,m8,_,_,rfl,rfl,decide (x % 8 < 3),rfl,?_⟩
   by_cases c1:x % 8 < 3
   .rw [decide_eq_true c1]
    exact ⟨_,rfl,y,7,rfl,rfl,m7,_,_,rfl,rfl,d8,fun p H2 S2 f2 h2=>q p _ _ H2 S2 f2 h2 (by decide) (by simp) (by omega) one⟩
   rw [decide_eq_false c1]
   show R1 _ _ _
   subst hR1
   refine cj fun R1 hR1=>?_
   refine dO ⟨_,rfl,x,8,rfl,rfl,m8,_,_,rfl,rfl,decide (x % 8 < 6),rfl,?_⟩
   have b8:Bd 8:=Bd.sm (by decide)
   by_cases c2:x % 8 < 6
   .rw [decide_eq_true c2]
    exact ⟨_,rfl,y,61,rfl,rfl,(show (0:Int) < 61 by decide),_,_,rfl,rfl,_,rfl,x,8,rfl,rfl,⟨by decide,b8⟩,_,12,rfl,rfl,(show (0:Int) < 12 by decide),_,_,rfl,rfl,_,_,rfl,by omega,Bd.sm (by omega),fun p hp=>lo _ _ p rfl (by omega) (by omega) (by omega) hp⟩
   rw [decide_eq_false c2]
   show R1 _ _ _
   subst hR1
   refine cj fun R1 hR1=>?_
   refine dO ⟨_,rfl,x,8,rfl,rfl,m8,rfl,decide (V.int (x % 8) = V.int 6),rfl,?_⟩
   by_cases c3:V.int (x % 8) = V.int 6
   .rw [decide_eq_true c3]
    exact ⟨_,rfl,c,2000000001,rfl,rfl,(show (0:Int) < 2000000001 by decide),_,_,rfl,rfl,d8,fun p H2 S2 f2 h2=>q p _ _ H2 S2 f2 h2 (by decide) (by simp) (by omega) one⟩
   rw [decide_eq_false c3]
   show R1 _ _ _
   subst hR1
   have cp:=abI (n:=30) (by decide) (by decide)
   exact eY ⟨_,rfl,c,69621,rfl,rfl,.inr (by constructor <;> decide),_,rfl,_,_,rfl,rfl,10,30,rfl,rfl,cp,2,_,rfl,rfl,⟨Bd.sm (by decide),b30⟩,_,1,rfl,rfl,_,_,rfl,rfl,(show (0:Int) < 2 * 10 ^ 30 + 1 by decide),10,30,rfl,rfl,cp,_,_,rfl,rfl,_,rfl,x,8,rfl,rfl,⟨by decide,b8⟩,_,997,rfl,rfl,(show (0:Int) < 997 by decide),_,_,rfl,rfl,_,_,rfl,by omega,Bd.sm (by omega),fun p hp=>lo _ _ p rfl (by omega) (by show ((c * 69621 + y) % (2 * 10 ^ 30 + 1) - 10 ^ 30).natAbs <= _; omega) (by omega) hp⟩
def D_:Sp:=fun vs H Q _=>∃ (c:Int) (sm:Bool),vs = [.int c,.bl sm]/\∀ (p:Addr) (x y:Int) H',Same H H'->H' p = some (.tup [.int x,.int y])->0 <= x->x < y->y <= hB sm->Int.gcd x y = 1->Q (.ref p) H'
theorem VD (F:Fun K uy uy Jv f fd) (T:Txt K mg D) (dR:OkF P w K mg base 1 iB gY h_) (iM:OkF P w K mg base 2 mG mz qw):cC P w K mg base CX0 3 f fd rY D_:=by
 refine F.ok Dj (fun vs H Q E h=>?_) (fun cdv A outer s H vs Q E hr h=>?_)
 .obtain ⟨c,sm,rfl,_⟩:=h
  rfl
 .obtain ⟨c,sm,rfl,q⟩:=h
  refine ⟨_,(bM (cA (i:=2) Dj.nd rfl (Or.inl rfl) (bQ dR (hr.mono (by decide)) (by rfl) (bF (pv 0) (bF bG bH))))
   (bM (cA (i:=3) Dj.nd rfl (Or.inl rfl) (bU cZ bG (bU mK (bV bY (pv 2) bG (fun _ _=>rfl)) (bV bY (jA (bF bG (bF bG (bF bG (bF bG bH))))) (bU cM (bU cR (bV bY (pv 2) bG (fun _ _=>rfl)) bG) (oG uU (by rfl) T.GF boot_int (bF (O2 (pv 1)) bH))) (fun _ _=>rfl)))))
   (bO (cu (bQ iM (hr.mono (by decide)) (by rfl) (bF (bU mK (bV bY (pv 2) bG (fun _ _=>rfl)) (pv 3)) (bF (pv 3) bH))))))),?_⟩
  refine cI ⟨_,rfl,c,3,rfl,by decide,fun l xs H1 S1 fl hl ln hx=>?_⟩
  obtain ⟨a,b,e,rfl⟩ : ∃ a b e,xs = [a,b,e]:=by
   match xs,ln with
   | [a,b,e],_=>exact ⟨a,b,e,rfl⟩
  have xa:=hx a (by simp)
  have xe:=hx e (by simp)
  refine cI ⟨_,rfl,l,_,0,_,rfl,rfl,hl,dB,by decide,fun p1 H2 S2 f2 h2=>?_⟩
  obtain ⟨j,ej,jb⟩ : ∃ j:Int,b % 4 * (if (!sm) = true then 1 else 0) = j/\(j = 0\/(sm = false/\(j = 1\/j = 2\/j = 3))):=by
   cases sm with
   | true=>exact ⟨0,by simp,.inl rfl⟩
   | false=>exact ⟨b % 4,by simp,by simp; omega⟩
  obtain ⟨md,ed,m0,m1⟩ : ∃ md:Int,atI [V.int 4,V.int 6,V.int 10,V.int 100] j = some (.int md)/\0 < md/\md <= hB sm:=by
   rcases jb with rfl | ⟨rfl,rfl | rfl | rfl⟩
   .exact ⟨4,cg (j:=0) rfl,by decide,by cases sm <;> decide⟩
   .exact ⟨6,cg (j:=1) rfl,by decide,by decide⟩
   .exact ⟨10,cg (j:=2) rfl,by decide,by decide⟩
   .exact ⟨100,cg (j:=3) rfl,by decide,by decide⟩
  have hl2:=S2 _ _ hl
  refine ⟨_,rfl,l,_,1,_,rfl,rfl,hl2,cV,b,4,rfl,rfl,(show (0:Int) < 4 by decide),_,rfl,sm,rfl,.inr ⟨!sm,rfl,_,_,rfl,rfl,⟨Bd.sm (by omega),Bd.sm (by split <;> decide)⟩,p1,_,_,_,rfl,rfl,h2,by rw [ej]; exact ed,a,md,rfl,rfl,by omega,1,_,rfl,rfl,?_⟩⟩
  obtain ⟨t,et,t0,t1⟩ : ∃ t:Int,1 + a.fmod md = t/\1 <= t/\t <= hB sm:=⟨_,rfl,by rw [aY _ (by omega)]; have:=Int.emod_nonneg a (b:=md) (by omega); omega,by rw [aY _ (by omega)]; have:=Int.emod_lt_of_pos a (b:=md) m0; omega⟩
  have h100:hB sm <= 100:=by cases sm <;> decide
  show Tq _ _ [some (.int c),some (.bl sm),some (.ref l),some (.int (1 + a.fmod md))] H2
  rw [et]
  have f0:0 <= e.fmod t:=by rw [aY _ (by omega)]; exact Int.emod_nonneg _ (by omega)
  have f1:e.fmod t < t:=by rw [aY _ (by omega)]; exact Int.emod_lt_of_pos _ (by omega)
  refine eY ⟨_,rfl,l,_,2,_,rfl,rfl,hl2,cg (j:=2) rfl,_,rfl,e,t,rfl,rfl,by omega,_,rfl,_,t,rfl,by omega,Bd.sm (by omega),fun p hp=>?_⟩
  have y0:=Ac.jD (t:=e.fmod t) (b:=t) (by omega)
  have yg:=Ac.wA (t:=e.fmod t) (b:=t) (by omega)
  have ye:=Ac.xr (t:=e.fmod t) (b:=t) (by omega)
  have y2:=Ac.zQ (e.fmod t) t
  generalize (Ac.lw (e.fmod t) t).1 = x at *
  generalize (Ac.lw (e.fmod t) t).2 = y at *
  refine q p x y _ (S1.trans (S2.trans (Same.upd hp))) bK ?_ ?_ (by omega) yg
  .refine Int.not_lt.mp fun z=>?_
   have h1:x * t < 0:=Int.mul_neg_of_neg_of_pos z (by omega)
   have h2:0 <= e.fmod t * y:=Int.mul_nonneg f0 (by omega)
   omega
  .refine Int.not_le.mp fun z=>?_
   have h1:y * t <= x * t:=Int.mul_le_mul_of_nonneg_right z (by omega)
   have h2:e.fmod t * y < t * y:=Int.mul_lt_mul_of_pos_right f1 y0
   have h3:t * y = y * t:=Int.mul_comm ..
   omega
def ltL:List Nat:=(Str.ofString "abcdefghijklmnopqrstuvwxyz").cps.toList
theorem aaq:ltL.length = 26:=by decide +kernel
theorem aag:∀ a b:Fin 26,ltL[a.val]? = ltL[b.val]?->a = b:=by decide +kernel
theorem abK {a b:Int} {c:Nat} (a0:0 <= a) (a1:a < 26) (b0:0 <= b) (b1:b < 26) (ha:ltL[a.toNat]? = some c) (hb:ltL[b.toNat]? = some c):a = b:=by
 have:=aag ⟨a.toNat,by omega⟩ ⟨b.toNat,by omega⟩ (ha.trans hb.symm)
 have:=congrArg Fin.val this
 simp only at this
 omega
theorem V7 {a:Int} (a0:0 <= a) (a1:a < 26):∃ c,atI (Str.ofString "abcdefghijklmnopqrstuvwxyz").cps.toList a = some c/\ltL[a.toNat]? = some c/\wz c = true:=by
 obtain ⟨k,rfl⟩:=Int.eq_ofNat_of_zero_le a0
 have h:k < ltL.length:=by rw [aaq]; omega
 exact ⟨ltL[k],cg (aj h),aj h,decide_eq_true (aW h)⟩
def rJ (R:Nat->Str->Prop) (D:Addr) (H:Hp) (k:Nat) (ys:List V) (Hc:Hp):Prop:=∃ ss:List Str,ys = ss.map V.str/\ss.length = k/\(∀ i x,ss[i]? = some x->R i x)/\Hc = upd H D (.lst ys)
theorem rJ.next {R:Nat->Str->Prop} {D:Addr} {H:Hp} {k:Nat} {ys:List V} {Hc:Hp} (h:rJ R D H k ys Hc) {x:Str} (h0:R k x):rJ R D H (k + 1) (ys ++ [.str x]) (upd Hc D (.lst (ys ++ [.str x]))):=by
 obtain ⟨ws,rfl,rfl,ha,rfl⟩:=h
 refine ⟨ws ++ [x],by rw [bC]; rfl,by rw [aB]; rfl,fun i y hy=>?_,uW⟩
 by_cases hi:i < ws.length
 .rw [aF hi] at hy
  exact ha i y hy
 .have hl:=(aq.mp hy).1
  rw [aB] at hl
  have hl:i < ws.length + 1:=hl
  have e:i = ws.length:=by omega
  subst e
  rw [aD (aG _),Nat.sub_self] at hy
  cases hy
  exact h0
theorem rJ.at_ {R:Nat->Str->Prop} {D:Addr} {H:Hp} {k:Nat} {ys:List V} {Hc:Hp} (h:rJ R D H k ys Hc):Hc D = some (.lst ys):=by
 obtain ⟨ws,rfl,hl,ha,rfl⟩:=h
 exact bK
theorem rJ.same {R:Nat->Str->Prop} {D:Addr} {H:Hp} {k:Nat} {ys:List V} {Hc:Hp} (h:rJ R D H k ys Hc) (hD:H D = none):Same H Hc:=by
 obtain ⟨ws,rfl,hl,ha,rfl⟩:=h
 exact Same.upd hD
theorem Qi {R:Nat->Str->Prop} {ss:List Str} (h:∀ i x,ss[i]? = some x->R i x) (u:∀ i j x,i < j->j < ss.length->R i x->R j x->False):ss.Nodup:=by
 unfold List.Nodup
 rw [List.pairwise_iff_getElem]
 intro i j hi hj ij e
 exact u i j ss[i] ij hj (h i _ (aj hi)) (by rw [e]; exact h j _ (aj hj))
theorem aaT {R:Nat->Str->Prop} {P:Str->Prop} {ss:List Str} (h:∀ i x,ss[i]? = some x->R i x) (u:∀ i x,i < ss.length->R i x->P x):∀ x ∈ ss,P x:=fun x hx=>by
 obtain ⟨i,hi⟩:=aX hx
 exact u i x (aq.mp hi).1 (h i x hi)
theorem Vp {x:Str} {n:Nat} : (Ed x none (some (n:Int))).cps.toList = x.cps.toList.take n:=by
 unfold Ed
 have hl:x.cps.toList.length = x.length:=Array.length_toList
 show ((x.cps.toList.drop 0).take (HT.sIx x.length x.length (some (n:Int)) - 0)) = _
 rw [HT.qZ,List.drop_zero,Nat.sub_zero,<- hl]
 rw [List.take_eq_take_iff]
 omega
theorem LQ {x:Str} {n:Nat} : (Ed x (some (n:Int)) none).cps.toList = x.cps.toList.drop n:=by
 unfold Ed
 have hl:x.cps.toList.length = x.length:=Array.length_toList
 show ((x.cps.toList.drop (HT.sIx x.length 0 (some (n:Int)))).take (x.length - HT.sIx x.length 0 (some (n:Int)))) = _
 rw [HT.qZ,<- hl]
 by_cases h:n <= x.cps.toList.length
 .rw [Nat.min_eq_left h]
  exact aM (by rw [List.length_drop]; omega)
 .rw [List.drop_eq_nil_of_le (by omega:x.cps.toList.length <= n),List.drop_eq_nil_of_le (by omega),List.take_nil]
theorem JT {ys:List V} {a b:Nat} (ab:a <= b) (h:b <= ys.length):pA ys (some (a:Int)) (some (b:Int)) = (ys.drop a).take (b - a):=by
 unfold pA
 rw [HT.qZ,HT.qZ,Nat.min_eq_left h,Nat.min_eq_left (aN ab h)]
theorem GX:∀ {ss:List Str},(∀ y ∈ ss,y.length = 1)->(ss.map (·.length)).sum = ss.length
 | [],_=>rfl
 | y :: ss,h=>by
  rw [List.map_cons,List.sum_cons,GX fun z hz=>h z (aJ _ hz),h y aP,List.length_cons]; omega
def nm1 (c:Nat) (i:Nat) (x:Str):Prop:=x.cps.toList = List.replicate (i + 1) c
def nm2 (b:List Nat) (at_:Nat) (x0 st:Int) (i:Nat) (x:Str):Prop:=∃ c,ltL[((x0 + st * i) % 26).toNat]? = some c/\wz c = true/\x.cps.toList = b.take at_ ++ c :: b.drop at_
theorem Y6 {b:List Nat} {at_:Nat} {x0 st:Int} {i j:Nat} {x:Str} (hs:st = 1\/st = 3\/st = 5\/st = 7\/st = 9\/st = 11) (ij:i < j) (hj:j < 13) (h1:nm2 b at_ x0 st i x) (h2:nm2 b at_ x0 st j x):False:=by
 obtain ⟨c,a1,_,e1⟩:=h1
 obtain ⟨d,a2,_,e2⟩:=h2
 have e:=e1.symm.trans e2
 have e:=List.append_cancel_left e
 injection e with e _
 subst e
 have:=abK (by omega) (by omega) (by omega) (by omega) a1 a2
 rcases hs with rfl | rfl | rfl | rfl | rfl | rfl <;> omega
theorem qH (x:Str):x.cps.toList.length = x.length:=Array.length_toList
theorem abP {c i:Nat} {x:Str} (hc:wz c = true) (hi:i < 8) (h:nm1 c i x):Wd x:=by
 have l:=qH x
 rw [h,aO] at l
 refine ⟨?_,by omega,by omega⟩
 unfold Lt
 rw [h,List.all_eq_true]
 intro d hd
 rw [(List.mem_replicate.mp hd).2]; exact hc
theorem abF {b:List Nat} {at_:Nat} {x0 st:Int} {i:Nat} {x:Str} (hb:b.all wz = true) (hl:b.length <= 7) (h:nm2 b at_ x0 st i x):Wd x:=by
 obtain ⟨c,_,hc,e⟩:=h
 have l:=qH x
 rw [e,aB,List.length_cons,bw,List.length_drop] at l
 refine ⟨?_,by omega,by omega⟩
 unfold Lt
 rw [e,List.all_eq_true]
 rw [List.all_eq_true] at hb
 intro d hd
 rcases List.mem_append.mp hd with hd | hd
 .exact hb d (List.mem_of_mem_take hd)
 .rcases List.mem_cons.mp hd with rfl | hd
  .exact hc
  .exact hb d (List.mem_of_mem_drop hd)
def sJN (P:Str->Prop) (D:Addr) (H:Hp) (k:Nat) (ys:List V) (Hc:Hp):Prop:=∃ ss:List Str,ys = ss.map V.str/\ss.length = k/\(∀ x ∈ ss,P x)/\Hc = upd H D (.lst ys)
theorem sJN.next {P:Str->Prop} {D:Addr} {H:Hp} {k:Nat} {ys:List V} {Hc:Hp} (h:sJN P D H k ys Hc) {x:Str} (h0:P x):sJN P D H (k + 1) (ys ++ [.str x]) (upd Hc D (.lst (ys ++ [.str x]))):=by
 obtain ⟨ws,rfl,hl,ha,rfl⟩:=h
 refine ⟨ws ++ [x],by rw [bC]; rfl,by rw [aB,hl]; rfl,fun y hy=>?_,uW⟩
 rcases List.mem_append.mp hy with hy | hy
 .exact ha y hy
 .rw [List.mem_singleton.mp hy]; exact h0
theorem sJN.at_ {P:Str->Prop} {D:Addr} {H:Hp} {k:Nat} {ys:List V} {Hc:Hp} (h:sJN P D H k ys Hc):Hc D = some (.lst ys):=by
 obtain ⟨ws,rfl,hl,ha,rfl⟩:=h
 exact bK
def BP:Sp:=fun vs H Q _=>∃ (c:Int) (n:Nat),vs = [.int c,.int n]/\n <= 12/\∀ (l:Addr) (xs:List Str) H',Same H H'->H l = none->H' l = some (.lst (xs.map V.str))->xs.length = n->(∀ x ∈ xs,Wd x)->xs.Nodup->Q (.ref l) H'
theorem Lf {a b:TT} {t v:TS} {D:Ends} {σ:L2.St} {H:Hp} (p q:Bool) (ha:∀ Q:Bool->Hp->Prop,Q p H->a σ H Q) (hb:∀ Q:Bool->Hp->Prop,Q q H->b σ H Q) (ht:(p && q) = true->t { D with nx:=v D } σ H) (hu:v D σ H):qx (Fw (Xc a b) t yK) v D σ H:=by
 refine ha _ ?_
 cases p with
 | false=>exact hu
 | true =>
  refine hb _ ?_
  cases q with
  | false=>exact hu
  | true=>exact ht rfl
theorem Vi (F:Fun K uI uI uT f fd) (T:Txt K mg D) (dR:OkF P w K mg base 1 iB gY h_):cC P w K mg base CX0 2 f fd uE BP:=by
 refine F.okB qy (fun vs H Q E h=>?_) (fun cdv A outer s H vs Q E hr h=>?_)
 .obtain ⟨c,n,rfl,_⟩:=h
  rfl
 .obtain ⟨c,n,rfl,hn,q⟩:=h
  have z1000:1000 <= sizeLine:=by decide
  have lL:(Str.ofString "abcdefghijklmnopqrstuvwxyz").length <= sizeLine:=aN (show (Str.ofString "abcdefghijklmnopqrstuvwxyz").length <= 1000 by decide +kernel) z1000
  refine ⟨_,(cT (PSB.mk (cA (i:=2) qy.nd rfl (Or.inr rfl) oH))
   (cT (PSB.mk (cA (i:=3) qy.nd rfl (Or.inr rfl) (bQ dR (hr.mono (by decide)) (by rfl) (bF (pv 0) (bF bG bH)))))
   (cT (PSB.mk (cY (PW.pt (pw_and (cQ nR (bU cR (bV bY (pv 3) bG (fun _ _=>rfl)) bG) bG (cN _)) (pw_and1 (cQ Bo (pv 1) bG (cN _)))))
    (bO (cu (jM (bN uT) qN qN ["_law_k"] (jo (by rfl) T.nZ (bF (pv 1) bH).mono) (eG (i:=0)) dj (bU Yx (bV PK (pv 3) (bU cR (bV bY (pv 4) bG (fun _ _=>rfl)) bG) (fun _ _=>rfl)) (bU cZ (pv 0) bG)))))
    cB))
   (cT (PSB.mk (cA (i:=4) qy.nd rfl (Or.inr rfl) (ad1 PySem.F.slot_str_join PySem.F.type_str_join Z0 oH (bF (jM (bN uT) qN qN ["_law_x"] (cX ((nj Bc (pv 3) (jB bG) (jB (bU cZ bG (bU cR (bV bY (pv 3) bG (fun _ _=>rfl)) bG))))).mono) (eG (i:=0)) dj (bV PK (pv 3) (bU cR (pv 0) bG) (fun _ _=>rfl))) bH))))
   (cT (PSB.mk (cA (i:=5) qy.nd rfl (Or.inr rfl) (bU cR (bV bY (pv 3) bG (fun _ _=>rfl)) bG)))
   (cT (Y7 (i:=6) qy.nd rfl (Or.inr rfl) (aaP (aal (GZ uQ (GZ uQ (GZ uQ (GZ uQ (GZ uQ (GZ uQ YM))))))) (bU cR (bV bY (pv 3) bG (fun _ _=>rfl)) bG) (fun _ _=>rfl)))
   (Bl (PSB.mk (cu (jM (bN uT) qN qN ["_law_k"] (jo (by rfl) T.nZ (bF (pv 1) bH).mono) (eG (i:=0)) dj (bU Q8 (bU Q8 (nj Uw (pv 5) Ka (jB (pv 6))) (bV PK (pv 3) (bU cR (bU cZ (bV bY (pv 4) bG (fun _ _=>rfl)) (bU cM (pv 7) (pv 0))) bG) (fun _ _=>rfl))) (nj Uw (pv 5) (jB (pv 6)) Ka)))))))))))),?_⟩
  unfold h_
  refine ⟨_,rfl,c,11,rfl,by decide,fun l xs H1 S1 hl hl1 hx hr'=>?_⟩
  have at_:∀ j,j < 11->∃ y,atI (xs.map V.int) (j:Nat) = some (.int y)/\0 <= y:=fun j hj=>by
   have:j < xs.length:=by omega
   exact ⟨xs[j],cg (j:=j) (by rw [au,aj this]; rfl),(hr' _ (aW this)).1⟩
  obtain ⟨x0,a0,p0⟩:=at_ 0 (by decide)
  obtain ⟨x1,a1,p1⟩:=at_ 1 (by decide)
  obtain ⟨x9,a9,p9⟩:=at_ 9 (by decide)
  obtain ⟨x10,a10,p10⟩:=at_ 10 (by decide)
  dsimp only [cU]
  refine Lf (decide (x0 % 3 = 1)) (decide ((n:Int) <= 8)) (fun Q' hq=>?_) (fun Q' hq=>?_) (fun hc=>?_) ?_
  .walk_at "rd"
   exact ⟨_,hl1,_,a0,_,rfl,hq⟩
  .walk_at "rd"
   exact hq
  .simp only [Bool.and_eq_true,decide_eq_true_eq] at hc
   obtain ⟨c1,e1,g1,lc1⟩:=V7 (a:=x1 % 26) (by omega) (by omega)
   refine pN ?_
   walk_at "rd"
   refine ⟨n,rfl,by omega,fun D2 hD2=>⟨rJ (nm1 c1) D2 H1,⟨[],rfl,rfl,by simp,rfl⟩,?_,?_⟩⟩
   .rintro k ys Hc hk j hy
    have hlc:Hc l = some (.lst (xs.map V.int)):=j.same hD2 _ _ hl1
    unfold aaW
    walk_at "rd"
    refine ⟨_,hlc,_,a1,_,rfl,lL,c1,e1,c1,rfl,by omega,by omega,fun z hz=>⟨j.at_,j.next ?_⟩⟩
    rw [show ((k:Int) + 1).toNat = k + 1 by omega] at hz
    exact hz
   .rintro ys Hc ⟨ss,rfl,hsl,hss,rfl⟩ hy
    refine q D2 ss _ (S1.trans (Same.upd hD2)) (Same.free S1 hD2) bK hsl (aaT hss fun i x hi h=>abP lc1 (by omega) h) (Qi hss fun i j x ij hj h1 h2=>?_)
    have:=congrArg List.length (h1.symm.trans h2)
    rw [aO,aO] at this
    omega
  .walk_at "rd"
   refine dH ?_
   walk_at "rd"
   obtain ⟨m,em,hm⟩ : ∃ m:Nat,x1 % 8 = m/\m <= 7:=⟨(x1 % 8).toNat,by omega,by omega⟩
   refine ⟨_,hl1,_,a1,_,rfl,_,.of hl1,fun p hp=>?_⟩
   have ec:pA (xs.map V.int) (some 2) (some (2 + x1 % 8)) = ((xs.drop 2).take m).map V.int:=by
    rw [em,List.map_take,List.map_drop]
    have:=JT (ys:=xs.map V.int) (a:=2) (b:=2 + m) (by omega) (by rw [ao]; omega)
    rw [show 2 + m - 2 = m by omega] at this
    exact this
   rw [ec]
   have ml:((xs.drop 2).take m).length = m:=by rw [bw,List.length_drop]; omega
   have S2:Same H1 (upd H1 p (.lst (((xs.drop 2).take m).map V.int))):=Same.upd hp
   generalize upd H1 p (.lst (((xs.drop 2).take m).map V.int)) = H2 at S2 ⊢
   generalize (xs.drop 2).take m = us at ml ⊢
   refine ⟨by rw [ao]; omega,fun D1 hD1=>⟨sJN (fun x=>Lt x/\x.length = 1) D1 H2,⟨[],rfl,rfl,by simp,rfl⟩,?_,?_⟩⟩
   .rintro k y1 ys Hc hk j hy hpc
    rw [au] at hk
    cases er:us[k]? with
    | none=>rw [er] at hk; cases hk
    | some i =>
     rw [er] at hk
     cases hk
     obtain ⟨c',e',hc'⟩:=Lt.one (Int.emod_nonneg i (show (26:Int) ≠ 0 by decide)) (Int.emod_lt_of_pos i (by decide))
     exact ⟨i,rfl,lL,c',e',j.at_,hpc,j.next ⟨hc',rfl⟩⟩
   .rintro ys Hc ⟨ss,rfl,hl8,hss,rfl⟩ hy
    rw [ao,ml] at hl8
    have stL:Lt (Txt.join (Str.ofString "") ss):=Lt.glued fun y hy=>(hss y hy).1
    have sum1:(ss.map (·.length)).sum = m:=by rw [GX fun y hy=>(hss y hy).2,hl8]
    have e0:(Str.ofString "").length = 0:=by decide +kernel
    have stN:(Txt.join (Str.ofString "") ss).length = m:=by
     show (Builtin.Str.glued (Str.ofString "") ss).length = m
     rw [size_glued,sum1,e0,Nat.mul_zero]; rfl
    have S3:Same H (upd H2 D1 (.lst (ss.map V.str))):=S1.trans (S2.trans (Same.upd hD1))
    have hl3:upd H2 D1 (.lst (ss.map V.str)) l = some (.lst (xs.map V.int)):=Same.upd hD1 _ _ (S2 _ _ hl1)
    refine ⟨ss,bK,by rw [sum1,e0]; omega,?_⟩
    generalize upd H2 D1 (.lst (ss.map V.str)) = H3 at S3 hl3 ⊢
    generalize Txt.join (Str.ofString "") ss = st at stL stN ⊢
    refine ⟨_,hl3,_,a9,_,rfl,by decide,fun p2 hp2=>?_⟩
    have hl4:upd H3 p2 (.lst [.int 1,.int 3,.int 5,.int 7,.int 9,.int 11]) l = some (.lst (xs.map V.int)):=Same.upd hp2 _ _ hl3
    have S4:Same H (upd H3 p2 (.lst [.int 1,.int 3,.int 5,.int 7,.int 9,.int 11])):=S3.trans (Same.upd hp2)
    have hp4:upd H3 p2 (.lst [.int 1,.int 3,.int 5,.int 7,.int 9,.int 11]) p2 = some (.lst [.int 1,.int 3,.int 5,.int 7,.int 9,.int 11]):=bK
    generalize upd H3 p2 (.lst [.int 1,.int 3,.int 5,.int 7,.int 9,.int 11]) = H4 at S4 hl4 hp4 ⊢
    refine ⟨_,hl4,_,a10,_,rfl,?_⟩
    obtain ⟨sv,es,hs⟩ : ∃ sv:Int,atI [V.int 1,V.int 3,V.int 5,V.int 7,V.int 9,V.int 11] (x10 % 6) = some (.int sv)/\(sv = 1\/sv = 3\/sv = 5\/sv = 7\/sv = 9\/sv = 11):=by
     obtain e | e | e | e | e | e:x10 % 6 = 0\/x10 % 6 = 1\/x10 % 6 = 2\/x10 % 6 = 3\/x10 % 6 = 4\/x10 % 6 = 5:=by omega
     .exact ⟨1,by rw [e]; exact cg (j:=0) rfl,by decide⟩
     .exact ⟨3,by rw [e]; exact cg (j:=1) rfl,by decide⟩
     .exact ⟨5,by rw [e]; exact cg (j:=2) rfl,by decide⟩
     .exact ⟨7,by rw [e]; exact cg (j:=3) rfl,by decide⟩
     .exact ⟨9,by rw [e]; exact cg (j:=4) rfl,by decide⟩
     .exact ⟨11,by rw [e]; exact cg (j:=5) rfl,by decide⟩
    obtain ⟨ap,eap,hap⟩ : ∃ ap:Nat,x9 % 8 = ap/\ap <= 7:=⟨(x9 % 8).toNat,by omega,by omega⟩
    refine ⟨_,es,pN ?_⟩
    rw [eap]
    walk_at "rd"
    refine ⟨n,rfl,by omega,fun D2 hD2=>⟨rJ (nm2 st.cps.toList ap x0 sv) D2 H4,⟨[],rfl,rfl,by simp,rfl⟩,?_,?_⟩⟩
    .rintro k ys Hc hk j hy
     have hlc:Hc l = some (.lst (xs.map V.int)):=j.same hD2 _ _ hl4
     obtain ⟨c2,e2,g2,lc2⟩:=V7 (a:=(x0 + sv * k) % 26) (by omega) (by omega)
     have t1:(Ed st none (some (ap:Int))).length <= 7:=by rw [<- qH,Vp,bw,qH]; omega
     have t2:(Ed st (some (ap:Int)) none).length <= 7:=by rw [<- qH,LQ,List.length_drop,qH]; omega
     have t3:({ cps:=#[c2] } : Str).length = 1:=rfl
     refine ⟨by omega,_,hlc,_,a0,Bd.sm (by omega),Bd.sm (by omega),_,rfl,lL,c2,e2,by omega,by omega,by rw [Z2]; omega,j.at_,j.next ⟨c2,g2,lc2,?_⟩⟩
     rw [Qn,Qn,Vp,LQ,List.append_assoc]; rfl
    .rintro ys Hc ⟨ns,rfl,hsl,hns,rfl⟩ hy
     refine q D2 ns _ (S4.trans (Same.upd hD2)) (Same.free S4 hD2) bK hsl (aaT hns fun i x hi h=>abF stL (by rw [qH]; omega) h) (Qi hns fun i j x ij hj h1 h2=>Y6 hs ij (by omega) h1 h2)
def clsOf (D:Adr) (so:Int):Addr:=if so = 0 then D.Sure else if so = 1 then D.Toss else if so = 2 then D.Even else D.Mixed
structure Drawn (so:Int) (rs:List Str) (ws:List Int) (S:Int):Prop where
 s0:0 <= so
 s3:so <= 3
 len:rs.length = ws.length
 wt:Wt (rs.zip ws) S
 ne:1 <= rs.length
 a0:so = 0->rs.length = 1/\ws = [1]/\S = 1
 a1:so = 1->rs.length = 2
 a2:so = 2->ws = List.replicate rs.length 1/\S = rs.length
theorem M6:∀ rs:List Str,rs.zip (List.replicate rs.length (1:Int)) = rs.map fun r=>(r,(1:Int))
 | []=>rfl
 | r :: rs=>by rw [List.length_cons,List.replicate_succ,List.zip_cons_cons,M6 rs]; rfl
structure PI (H:Hp) (ps:List V) (rs:List Nat) (ws:List Int) (S:Int):Prop where
 len:ps.length = rs.length
 at_:∀ (k r:Nat) (x:Int),rs[k]? = some r->ws[k]? = some x->∃ t c:Addr,ps[k]? = some (.ref t)/\H t = some (.tup [.int (r:Nat),.ref c])/\H c = some (.tup [.int (Ac.lw x S).1,.int (Ac.lw x S).2])
theorem PI.same {H H':Hp} {ps:List V} {rs:List Nat} {ws:List Int} {S:Int} (h:PI H ps rs ws S) (T:Same H H'):PI H' ps rs ws S:=⟨h.len,fun k r x e1 e2=>let ⟨t,c,a,b,d⟩:=h.at_ k r x e1 e2; ⟨t,c,a,T _ _ b,T _ _ d⟩⟩
def xG (ns:List Str) (rs:List Nat) (nms:List Str):Prop:=nms.length = rs.length/\∀ (k r:Nat) (m:Str),rs[k]? = some r->nms[k]? = some m->ns[r]? = some m
def Dy (K:Frag) (D:Adr):Sp:=fun vs H Q _=>∃ (so:Int) (d n lp p:Addr) (t:Str) (x y S:Int) (rs:List Nat) (ws:List Int) (ps:List V) (ns nms:List Str),vs = [.str t,.ref d,.ref n]/\H d = some (.tup [.int so,.ref p,.ref lp])/\Wd t/\Fk K H p x y/\H lp = some (.lst ps)/\PI H ps rs ws S/\H n = some (.lst (ns.map V.str))/\xG ns rs nms/\Drawn so nms ws S /\
 ∀ H' s ld ys us,Same H H'->H s = none->H ld = none->Rt K H' s (clsOf D so) t p (Ac.ways (nms.zip ws) S) ld ys us->Q (.ref s) H'
def bJ (D1:Addr) (gs:List (Str × Int)) (S:Int) (H:Hp) (k:Nat) (ys:List V) (H':Hp):Prop:=Same H H'/\H' D1 = some (.lst ys)/\PW H' ys (gs.take k) S
def eJ (D1:Addr) (ss:List Str) (H:Hp) (k:Nat) (ys:List V) (H':Hp):Prop:=Same H H'/\H' D1 = some (.lst ys)/\ys = (ss.take k).map V.str
theorem PW.snocT {H:Hp} {xs:List V} {gs:List (Str × Int)} {S x:Int} {m:Str} {t c:Addr} (h:PW H xs gs S) (ht:H t = some (.tup [.str m,.ref c])) (hc:H c = some (.tup [.int (Ac.lw x S).1,.int (Ac.lw x S).2])):PW H (xs ++ [.ref t]) (gs ++ [(m,x)]) S:=by
 refine ⟨by rw [aB,aB,h.len]; rfl,fun k g' e=>?_⟩
 by_cases hk:k < gs.length
 .rw [aF hk] at e
  obtain ⟨t',c',a,b⟩:=h.at_ k g' e
  exact ⟨t',c',by rw [aF (by rw [h.len]; exact hk)]; exact a,b⟩
 .rw [aD (by omega)] at e
  have e0:k - gs.length = 0:=by
   have:=(aq.mp e).1
   simp at this; omega
  rw [e0] at e
  cases e
  refine ⟨t,c,?_,ht,hc⟩
  rw [aD (by rw [h.len]; omega),h.len,e0]; rfl
theorem Wx (F:Fun K sW sW yd f fd) (T:Txt K mg D) (qO:OkI P w K mg base (CXO P w) 5 D.Sure_init lF (q_ (K:=K) D)) (d7:OkI P w K mg base (CXO P w) 5 D.Mixed_init fV (fX K D)) (rF:OkI P w K mg base (CXO P w) 6 D.Toss_init lO (rM K D))
  (qC:OkI P w K mg base (CXO P w) 6 D.Even_init lW (rB K D)):cC P w K mg base CX0 8 f fd tW (Dy K D):=by
 refine F.ok su (fun vs H Q E h=>?_) (fun cdv A outer s H vs Q E hr h=>?_)
 .obtain ⟨so,d,n,lp,p,t,x,y,S,rs,ws,ps,ns,nms,rfl,_⟩:=h
  rfl
 .obtain ⟨so,d,n,lp,p,t,x,y,S,rs,ws,ps,ns,nms,rfl,hd,ht,hf,hlp,hp,hns,no,dr,q⟩:=h
  have fam:∀ C,(C = D.Sure\/C = D.Mixed\/C = D.Toss\/C = D.Even)->Fam D C:=by
   intro C hC
   unfold Fam
   rcases hC with h | h | h | h <;> simp [h]
  have s0:=dr.s0
  have s3:=dr.s3
  have hlen:=dr.len
  have gl:(nms.zip ws).length = nms.length:=by rw [List.length_zip]; omega
  have g8:=dr.wt.len
  have z9:100 < sizeLine:=by decide
  refine ⟨_,(bM (DN (pv 1) (iD (n:=3) rfl (cD (cH (i:=4) su.nd rfl (Or.inl rfl)) (cD (cH (i:=5) su.nd rfl (Or.inl rfl)) (cD (cH (i:=6) su.nd rfl (Or.inl rfl)) gO)))))
   (bM (Gy (bN yd) xY xY ["_law_room", "_law_chance"] (cX ((pv 6)).mono) (iD (n:=2) rfl (cD (eG (i:=0)) (cD (eG (i:=1)) gO))) dj (j6 (bF (bV bY (pv 4) (pv 0) (fun _ _=>rfl)) (bF (pv 1) bH))) (cH (i:=3) su.nd rfl (Or.inl rfl)))
   (bM (cY (cQ nR (pv 4) bG (cN _))
    (bO (cu (uH T.YS qO (hr.mono (by decide)) (by rfl) T.ab9 yq (bF (pv 0) (bF (pv 5) (bF (bV cW (bV bY (pv 3) bG (fun _ _=>rfl)) bG (fun _ _=>rfl)) bH))))))
    cB)
   (bM (cY (cQ nR (pv 4) bG (cN _))
    (bO (cu (uH T.Zo rF (hr.mono (by decide)) (by rfl) T.ab6 yq (bF (pv 0) (bF (pv 5) (bF (bV cW (bV bY (pv 3) bG (fun _ _=>rfl)) bG (fun _ _=>rfl)) (bF (bV cW (bV bY (pv 3) bG (fun _ _=>rfl)) bG (fun _ _=>rfl)) (bF (bV cW (bV bY (pv 3) bG (fun _ _=>rfl)) bG (fun _ _=>rfl)) bH))))))))
    cB)
   (bM (cY (cQ nR (pv 4) bG (cN _))
    (bO (cu (uH T.aaB qC (hr.mono (by decide)) (by rfl) T.abZ yq (bF (pv 0) (bF (pv 5) (bF (jM (bN yd) xY xY ["_law_room", "_law_chance"] (cX ((pv 3)).mono) (iD (n:=2) rfl (cD (eG (i:=0)) (cD (eG (i:=1)) gO))) dj (pv 0)) bH))))))
    cB)
   (bO (cu (uH T.X_ d7 (hr.mono (by decide)) (by rfl) T.Ik yq (bF (pv 0) (bF (pv 5) (bF (pv 3) bH))))))))))),?_⟩
  refine cj fun R0 hR0=>?_
  walk_at "rd"
  refine ⟨_,hd,rfl,_,_,rfl,_,_,rfl,_,_,rfl,rfl,?_⟩
  subst hR0
  refine cj fun R1 hR1=>?_
  refine cI (pG ?_)
  walk_at "rd"
  have l100:ps.length <= sizeLine:=by rw [hp.len,<- no.1]; omega
  refine ⟨ps,hlp,l100,fun D1 hD=>⟨bJ D1 (nms.zip ws) S H,⟨Same.upd hD,bK,rfl,fun k g e=>by simp at e⟩,?_,?_⟩⟩
  .rintro k v ys Hc hk ⟨S1,h1,pw⟩ hy hlc pre hpre
   have lk:k < rs.length:=by rw [<- hp.len]; exact (aq.mp hk).1
   have e1:rs[k]? = some rs[k]:=aj lk
   have e2:nms[k]? = some (nms[k]'(by rw [no.1]; exact lk)):=aj _
   have e3:ws[k]? = some (ws[k]'(by rw [<- hlen,no.1]; exact lk)):=aj _
   have eg:(nms.zip ws)[k]? = some (nms[k]'(by rw [no.1]; exact lk),ws[k]'(by rw [<- hlen,no.1]; exact lk)):=List.getElem?_zip_eq_some.mpr ⟨e2,e3⟩
   have en:=no.2 _ _ _ e1 e2
   obtain ⟨tt,c,ea,eb,ec⟩:=(hp.same S1).at_ k _ _ e1 e3
   rw [hk] at ea
   cases ea
   generalize rs[k] = r at *
   generalize nms[k]'(by rw [no.1]; exact lk) = m at *
   generalize ws[k]'(by rw [<- hlen,no.1]; exact lk) = z at *
   obtain ⟨u1,u2,rfl⟩:=wG hpre
   walk_at "rd"
   refine ⟨_,eb,rfl,_,_,rfl,_,_,rfl,rfl,[_,_],rfl,rfl,?_⟩
   refine ⟨_,_,rfl,S1 _ _ hns,_,cg (by rw [au,en]; rfl),d8,fun p1 hp1=>?_⟩
   have nD:D1 ≠ p1:=bI h1 hp1
   refine ⟨(bL nD).trans h1,(bL (bI hlc hp1)).trans hlc,fun b o e=>(bL (bI e hD)).trans ((bL (bI (S1 _ _ e) hp1)).trans (S1 _ _ e)),bK,?_⟩
   rw [cF eg]
   refine (pw.imp fun t ys e=>?_).snocT (c:=c) ?_ ?_
   .exact (bL (f9 e h1 (by intro z; cases z))).trans ((bL (bI e hp1)).trans e)
   .exact (bL nD.symm).trans bK
   .exact (bL (f9 ec h1 (by intro z; cases z))).trans ((bL (bI ec hp1)).trans ec)
  .rintro ys Hc ⟨S1,h1,pw⟩ hy
   rw [hp.len,<- no.1,<- gl,aQ] at pw
   have hw:=ht.word
   have h1000:t.length <= 1000:=aN ht.hi (by decide)
   have hf':=hf.same S1
   have mk:∀ {G:Hp} {C s dx:Addr},G s = none->G dx = none->¬ dx = s->Same G (upd (upd G dx (.own s)) s (.ins C dx [])):=fun {G C s dx} h1 h2 h3 b o e=>by
    rw [bL (bI e h1),bL (bI e h2)]; exact e
   have kp:∀ {G:Hp} {C s dx:Addr} {H':Hp},Same H G->G s = none->G dx = none->¬ dx = s->Keep s (upd (upd G dx (.own s)) s (.ins C dx [])) H'->Same H H':=fun {G C s dx H'} SG h1 h2 h3 k b o e=>k b o (bI (SG _ _ e) h1) (mk h1 h2 h3 b o (SG _ _ e))
   subst hR1
   obtain e | e | e | e:so = 0\/so = 1\/so = 2\/so = 3:=by omega
   .subst e
    obtain ⟨l1,rfl,rfl⟩:=dr.a0 rfl
    obtain ⟨r,rfl⟩:=List.length_eq_one_iff.mp l1
    have wr:=dr.wt.wd (r,1) (by simp)
    obtain ⟨t0,c0,ea,eb,ec⟩:=pw.at_ 0 (r,1) rfl
    refine ud (fun R r=>⟨_,rfl,r⟩) rfl fun Kn hK=>eY ?_
    refine ⟨_,rfl,_,rfl,_,rfl,_,_,_,_,rfl,rfl,h1,cg (j:=0) ea,_,_,_,_,rfl,rfl,eb,dB,fun o dx g1 g2 g3=>⟨o,dx,t,r,p,x,y,rfl,bK,h1000,hw,wr.1,wr.2,hf'.same (mk g1 g2 g3),fun t l H' f k e1 e2 e3=>⟨rfl,?_⟩⟩⟩
    refine q H' o l [.ref t] [(r,D.ONE)] (kp S1 g1 g2 g3 k) (Same.free S1 g1) (Same.free S1 (Same.free (mk g1 g2 g3) f)) ⟨⟨dx,e3⟩,e2,?_⟩
    show WF K H' [.ref t] (Ac.ways [(r,1)] 1) [(r,D.ONE)]
    rw [Ac.V5]
    exact .cons e1 (T.Ci H') .nil
   .subst e
    have l2:=dr.a1 rfl
    obtain ⟨r1,r2,rfl⟩:=wG l2
    obtain ⟨w1,w2,rfl⟩:=wG (hlen.symm.trans l2)
    have wt:=dr.wt
    have es:w2 = S - w1:=by
     have:=wt.sum
     simp at this
     omega
    subst es
    obtain ⟨t0,c0,ea,eb,ec⟩:=pw.at_ 0 (r1,w1) rfl
    obtain ⟨t1,c1,fa,fb,fc⟩:=pw.at_ 1 (r2,S - w1) rfl
    refine lZ (fun R r=>⟨_,rfl,r⟩) (by decide) (ud (fun R r=>⟨_,rfl,r⟩) rfl fun Kn hK=>eY ?_)
    refine ⟨_,rfl,_,rfl,_,rfl,_,_,_,_,rfl,rfl,h1,cg (j:=0) ea,_,_,_,_,rfl,rfl,eb,cV,_,rfl,_,_,_,_,rfl,rfl,h1,cg (j:=0) ea,_,_,_,_,rfl,rfl,eb,dB,_,rfl,_,_,_,_,rfl,rfl,h1,cg (j:=1) fa,_,_,_,_,rfl,rfl,fb,dB,fun o dx g1 g2 g3=>?_⟩
    exact ⟨o,dx,t,r1,r2,p,c0,x,y,w1,S,rfl,bK,h1000,hw,hf'.same (mk g1 g2 g3),mk g1 g2 g3 _ _ ec,wt,fun H' ld ys us f k d=>⟨rfl,q H' o ld ys us (kp S1 g1 g2 g3 k) (Same.free S1 g1) (Same.free S1 (Same.free (mk g1 g2 g3) f)) d⟩⟩
   .subst e
    obtain ⟨ew,rfl⟩:=dr.a2 rfl
    subst ew
    have hz:nms.zip (List.replicate nms.length (1:Int)) = nms.map fun r=>(r,(1:Int)):=M6 nms
    have wt:=dr.wt
    rw [hz] at wt q
    have ml:(nms.map fun r=>(r,(1:Int))).length = nms.length:=ao ..
    rw [hz] at pw
    refine lZ (fun R r=>⟨_,rfl,r⟩) (by decide) (lZ (fun R r=>⟨_,rfl,r⟩) (by decide) (ud (fun R r=>⟨_,rfl,r⟩) rfl fun Kn hK=>eY ?_))
    refine ⟨_,rfl,_,rfl,MF (pG ⟨_,rfl,_,ys,rfl,h1,by rw [pw.len,ml]; omega,fun D2 hD2=>⟨eJ D2 nms Hc,⟨Same.upd hD2,bK,rfl⟩,?_,?_⟩⟩)⟩
    .rintro k v zs H3 hk ⟨S3,h3,ez⟩ hy3 h13 pre hpre
     have lk:k < nms.length:=by rw [<- ml,<- pw.len]; exact (aq.mp hk).1
     have e2:nms[k]? = some nms[k]:=aj lk
     obtain ⟨t0,c0,ea,eb,ec⟩:=pw.at_ k (nms[k],1) (by rw [au,e2]; rfl)
     rw [hk] at ea
     cases ea
     generalize nms[k] = m at *
     obtain ⟨u1,u2,rfl⟩:=wG hpre
     refine ⟨_,_,rfl,S3 _ _ eb,rfl,⟨_,_,rfl,_,_,rfl,rfl,[_,_],rfl,rfl,⟨_,rfl,h3,h13,fun b o e=>(bL (bI e hD2)).trans (S3 _ _ e),bK,?_⟩⟩⟩
     rw [cF e2,bC,ez]; rfl
    .rintro zs H3 ⟨S3,h3,ez⟩ hy3 o dx g1 g2 g3
     rw [pw.len,ml,aQ] at ez
     subst ez
     exact ⟨o,dx,t,p,D2,x,y,nms,rfl,bK,h1000,hw,(hf'.same S3).same (mk g1 g2 g3),mk g1 g2 g3 _ _ h3,wt,fun H' ld ys us f k d=>⟨rfl,q H' o ld ys us (kp (S1.trans S3) g1 g2 g3 k) (Same.free (S1.trans S3) g1) (Same.free (S1.trans S3) (Same.free (mk g1 g2 g3) f)) d⟩⟩
   .subst e
    refine lZ (fun R r=>⟨_,rfl,r⟩) (by decide) (lZ (fun R r=>⟨_,rfl,r⟩) (by decide) (lZ (fun R r=>⟨_,rfl,r⟩) (by decide) (eY ?_)))
    refine ⟨_,rfl,_,rfl,_,rfl,fun o dx g1 g2 g3=>?_⟩
    exact ⟨o,dx,D.Mixed,t,p,D1,x,y,ys,_,_,rfl,bK,fam _ (by simp),h1000,hw,hf'.same (mk g1 g2 g3),mk g1 g2 g3 _ _ h1,pw.same (mk g1 g2 g3),dr.wt,fun H' ld ys us f k d=>⟨rfl,q H' o ld ys us (kp S1 g1 g2 g3 k) (Same.free S1 g1) (Same.free S1 (Same.free (mk g1 g2 g3) f)) d⟩⟩
def vJ (D1:Addr) (H:Hp) (vs:List V) (k:Nat) (ys:List V) (H':Hp):Prop:=Same H H'/\H' D1 = some (.lst ys)/\ys = vs.take k
theorem vJ.next {D1:Addr} {H H' H2:Hp} {vs ys:List V} {k:Nat} {v:V} (h:vJ D1 H vs k ys H') (hD:H D1 = none) (S:Same H' H2) (e:vs[k]? = some v):vJ D1 H vs (k + 1) (ys ++ [v]) (upd H2 D1 (.lst (ys ++ [v]))):=by
 obtain ⟨S1,h1,rfl⟩:=h
 exact ⟨fun b o z=>(bL (bI z hD)).trans (S _ _ (S1 _ _ z)),bK,(cF e).symm⟩
theorem Ir {t b:Int} : Ac.lw (b - t) b = ((Ac.lw t b).2 - (Ac.lw t b).1,(Ac.lw t b).2):=by
 unfold Ac.lw
 rw [Int.gcd_self_sub_left,Int.sub_ediv_of_dvd b (Int.gcd_dvd_left t b)]
theorem QB {b:Int} : Ac.lw 1 b = (1,b):=by
 unfold Ac.lw
 rw [Int.one_gcd]
 simp
structure aaI (x y:Int):Prop where
 gcd:Int.gcd x y = 1
 sa:x.natAbs <= 10 ^ 30
 sb:y <= 1000
structure qY (n:Nat) (so:Int) (rs:List Nat) (ws:List Int) (S:Int):Prop where
 s0:0 <= so
 s3:so <= 3
 len:rs.length = ws.length
 pos:0 < S
 le:S <= 10 ^ 20
 l8:rs.length <= 4
 lo:∀ x ∈ ws,0 <= x
 sum:ws.sum = S
 ne:1 <= rs.length
 a0:so = 0->rs.length = 1/\ws = [1]/\S = 1
 a1:so = 1->rs.length = 2
 a2:so = 2->ws = List.replicate rs.length 1/\S = rs.length
 lt:∀ r ∈ rs,r < n
theorem qY.drawn {n:Nat} {so S:Int} {rs:List Nat} {ws:List Int} {ns nms:List Str} (h:qY n so rs ws S) (no:xG ns rs nms) (hw:∀ m ∈ ns,Wd m):Drawn so nms ws S:=by
 have e:=no.1
 have l:=h.len
 refine ⟨h.s0,h.s3,by omega,⟨h.pos,h.le,?_,fun g hg=>?_,fun g hg=>?_,?_⟩,by rw [e]; exact h.ne,fun z=>by rw [e]; exact h.a0 z,fun z=>by rw [e]; exact h.a1 z,fun z=>by rw [e]; exact h.a2 z⟩
 .rw [List.length_zip]
  have:=h.l8
  omega
 .obtain ⟨k,hk⟩:=aX hg
  obtain ⟨a,b⟩:=List.getElem?_zip_eq_some.mp hk
  have lk:=(aq.mp a).1
  have er:rs[k]? = some (rs[k]'(by omega)):=aj _
  have w:=hw _ (aC (no.2 k _ _ er a))
  exact ⟨aN w.hi (by decide),w.word⟩
 .exact h.lo _ (List.of_mem_zip hg).2
 .have:(nms.zip ws).map (·.2) = ws:=List.map_snd_zip (by omega)
  rw [this]; exact h.sum
theorem jl {t v:TS} {D:Ends} {σ:L2.St} {H:Hp} {i k:Int} (hσ:σ[5]? = some (some (.int i))) (ne:i ≠ k) (h:v D σ H):qx (Fw (yE (tOp rEq (FZ 5) (tC (.int k)))) t yK) v D σ H:=by
 refine ⟨_,hσ,rfl,_,rfl,?_⟩
 dsimp only
 rw [if_neg (by simp [ne])]
 exact h
theorem vW {t v:TS} {D:Ends} {σ:L2.St} {H:Hp} {i k:Int} (hσ:σ[5]? = some (some (.int i))) (e:i = k) (h:∀ Kn:L2.St->Hp->Prop,(∀ σ' H',v D σ' H'->Kn σ' H')->t { D with nx:=Kn } σ H):qx (Fw (yE (tOp rEq (FZ 5) (tC (.int k)))) t yK) v D σ H:=by
 refine ⟨_,hσ,rfl,_,rfl,?_⟩
 dsimp only
 rw [if_pos (by simp [e])]
 exact h _ fun _ _ z=>z
theorem PI.imp {H H':Hp} {ps:List V} {rs:List Nat} {ws:List Int} {S:Int} (T:∀ t ys,H t = some (.tup ys)->H' t = some (.tup ys)) (h:PI H ps rs ws S):PI H' ps rs ws S:=⟨h.len,fun k r x e1 e2=>let ⟨t,c,a,b,d⟩:=h.at_ k r x e1 e2; ⟨t,c,a,T _ _ b,T _ _ d⟩⟩
theorem PI.snoc {H:Hp} {ps:List V} {rs:List Nat} {ws:List Int} {S x:Int} {r:Nat} {t c:Addr} (h:PI H ps rs ws S) (hl:ws.length = rs.length) (ht:H t = some (.tup [.int r,.ref c])) (hc:H c = some (.tup [.int (Ac.lw x S).1,.int (Ac.lw x S).2])):PI H (ps ++ [.ref t]) (rs ++ [r]) (ws ++ [x]) S:=by
 refine ⟨by rw [aB,aB,h.len]; rfl,fun k r' x' e1 e2=>?_⟩
 by_cases hk:k < rs.length
 .rw [aF hk] at e1
  rw [aF (by omega)] at e2
  obtain ⟨t',c',a,b⟩:=h.at_ k r' x' e1 e2
  exact ⟨t',c',by rw [aF (by rw [h.len]; exact hk)]; exact a,b⟩
 .rw [aD (by omega)] at e1
  rw [aD (by omega)] at e2
  have e0:k - rs.length = 0:=by
   have:=(aq.mp e1).1
   simp at this; omega
  rw [e0] at e1
  rw [hl,e0] at e2
  cases e1
  cases e2
  refine ⟨t,c,?_,ht,hc⟩
  rw [aD (by rw [h.len]; omega),h.len,e0]; rfl
theorem Og {ys:List V} {n:Nat} (h:n <= ys.length):pA ys none (some (n:Int)) = ys.take n:=by
 unfold pA
 rw [HT.qZ,Nat.min_eq_left h]
 show ((ys.drop 0).take (n - 0)) = _
 rw [List.drop_zero,Nat.sub_zero]
theorem RT (n:Nat):(List.replicate n (1:Int)).sum = n:=by
 induction n with
 | zero=>rfl
 | succ n ih=>rw [List.replicate_succ,List.sum_cons,ih]; omega
def evJ (D1:Addr) (rs:List Nat) (ws:List Int) (S:Int) (H:Hp) (k:Nat) (ys:List V) (H':Hp):Prop:=Same H H'/\H' D1 = some (.lst ys)/\PI H' ys (rs.take k) (ws.take k) S
def weJ (D1:Addr) (md:Int) (H:Hp) (k:Nat) (ys:List V) (H':Hp):Prop:=∃ ws:List Int,ys = ws.map V.int/\ws.length = k/\(∀ x ∈ ws,0 <= x/\x < md)/\Same H H'/\H' D1 = some (.lst ys)
theorem K5 {B:Int} : ∀ l:List Int,(∀ x ∈ l,0 <= x/\x <= B)->0 <= l.sum/\l.sum <= B * l.length/\∀ x ∈ l,x <= l.sum
 | [],_=>⟨by simp,by simp,by simp⟩
 | a :: l,h=>by
  obtain ⟨h1,h2,h3⟩:=K5 l fun x hx=>h x (aJ _ hx)
  have h0:=h a aP
  rw [List.sum_cons,List.length_cons]
  have e:B * ((l.length + 1:Nat):Int) = B * l.length + B:=by rw [Int.natCast_add,Int.mul_add]; simp
  rw [e]
  refine ⟨by omega,by omega,fun x hx=>?_⟩
  rcases List.mem_cons.mp hx with rfl | hx
  .omega
  .have:=h3 x hx
   omega
theorem aaD {α:Type} : ∀ {l:List α},l.length = 4->∃ a b c d,l = [a,b,c,d]
 | [a,b,c,d],_=>⟨a,b,c,d,rfl⟩
def Ao:Sp:=fun vs H Q _=>∃ (c:Int) (n:Nat) (sm:Bool),vs = [.int c,.int n,.bl sm]/\1 <= n/\n <= 12/\∀ (r d p lp:Addr) (room:Nat) (so x y S:Int) (rs:List Nat) (ws:List Int) (ps:List V) H',Same H H'->H r = none->H d = none->H' r = some (.tup [.int room,.ref d])->room < n->H' d = some (.tup [.int so,.ref p,.ref lp])->H' p = some (.tup [.int x,.int y])->0 < y->aaI x y->H' lp = some (.lst ps)->H lp = none->PI H' ps rs ws S->qY n so rs ws S->y <= yB sm->S <= wB sm->Q (.ref r) H'
theorem YJ (F:Fun K wI wI vY f fd) (T:Txt K mg D) (dR:OkF P w K mg base 1 iB gY h_) (iM:OkF P w K mg base 2 mG mz qw) (Xj:OkF P w K mg base 3 Dt BK NK):cC P w K mg base CX0 4 f fd xg Ao:=by
 refine F.okB jX (fun vs H Q E h=>?_) (fun cdv A outer s H vs Q E hr h=>?_)
 .obtain ⟨c,n,sm,rfl,_⟩:=h
  rfl
 .obtain ⟨c,n,sm,rfl,n1,n12,q⟩:=h
  refine ⟨_,(cT (PSB.mk (cA (i:=3) jX.nd rfl (Or.inr rfl) (bQ dR (hr.mono (by decide)) (by rfl) (bF (pv 0) (bF bG bH)))))
   (cT (PSB.mk (cA (i:=4) jX.nd rfl (Or.inr rfl) (jM (bN vY) qJ qJ ["_law_x"] (cX ((nj Ef (pv 3) (jB bG) (jB bG))).mono) (eG (i:=0)) dj (bU mK (pv 0) (pv 2)))))
   (cT (PSB.mk (cA (i:=5) jX.nd rfl (Or.inl rfl) (bU cR (bV bY (pv 3) bG (fun _ _=>rfl)) bG)))
   (cT (PSB.mk (cA (i:=6) jX.nd rfl (Or.inl rfl) (jA (bF (dG (bF (bV bY (pv 4) bG (fun _ _=>rfl)) (bF (dG (bF bG (bF bG bH))) bH))) bH))))
   (cT (PSB.mk (cY (cQ nR (pv 5) bG (cN _))
    (bM (cA (i:=7) jX.nd rfl (Or.inl rfl) (bU cZ bG (bU cR (bV bY (pv 3) bG (fun _ _=>rfl)) bG)))
    (bM (cA (i:=8) jX.nd rfl (Or.inl rfl) (bQ iM (hr.mono (by decide)) (by rfl) (bF (bU mK (bV bY (pv 3) bG (fun _ _=>rfl)) (bU cZ (pv 7) bG)) (bF (pv 7) bH))))
    (bO (cA (i:=6) jX.nd rfl (Or.inl rfl) (jA (bF (dG (bF (bV bY (pv 4) bG (fun _ _=>rfl)) (bF (pv 8) bH))) (bF (dG (bF (bV bY (pv 4) bG (fun _ _=>rfl)) (bF (dG (bF (bU um (bV cW (pv 8) bG (fun _ _=>rfl)) (bV cW (pv 8) bG (fun _ _=>rfl))) (bF (bV cW (pv 8) bG (fun _ _=>rfl)) bH))) bH))) bH)))))))
    cB))
   (cT (PSB.mk (cY (cQ nR (pv 5) bG (cN _))
    (bM (cA (i:=4) jX.nd rfl (Or.inr rfl) (nj Ef (pv 4) Ka (jB (bU cZ bG (bU cR (bV bY (pv 3) bG (fun _ _=>rfl)) bG)))))
    (bO (Gy (bN vY) qJ qJ ["_law_room"] (cX ((pv 4)).mono) (eG (i:=0)) dj (dG (bF (pv 0) (bF (dG (bF bG (bF (b_ d_ (by rfl) T.kI PySem.boot_len (bF (pv 5) bH)) bH))) bH))) (cH (i:=6) jX.nd rfl (Or.inl rfl)))))
    cB))
   (cT (PSB.mk (cY (cQ nR (pv 5) bG (cN _))
    (bM (cA (i:=9) jX.nd rfl (Or.inr rfl) (jM (bN vY) qJ qJ ["_law_x"] (cX ((nj Ef (pv 3) (jB bG) (jB (bU cZ bG (bU cR (bV bY (pv 3) bG (fun _ _=>rfl)) bG))))).mono) (eG (i:=0)) dj (bU mK (pv 0) (bV bY (jA (bF bG (bF bG (bF bG (bF bG bH))))) (bU cM (bU cR (bV bY (pv 4) bG (fun _ _=>rfl)) bG) (oG uU (by rfl) T.GF boot_int (bF (O2 (pv 3)) bH))) (fun _ _=>rfl)))))
    (bM (DN (bU cZ (bV bY (pv 9) (K7 BX bG) (fun _ _=>rfl)) bG) (acq (pv 9) (K7 BX bG) set_list))
    (bO (Gy (bN vY) qJ qJ ["_law_k"] (jo (by rfl) T.nZ (bF (b_ d_ (by rfl) T.kI PySem.boot_len (bF (pv 9) bH)) bH).mono) (eG (i:=0)) dj (dG (bF (bV bY (pv 5) (pv 0) (fun _ _=>rfl)) (bF (bQ iM (hr.mono (by decide)) (by rfl) (bF (bV bY (pv 10) (pv 0) (fun _ _=>rfl)) (bF (b_ (yV rfl) (by rfl) T.VF boot_sum (bF (pv 10) bH)) bH))) bH))) (cH (i:=6) jX.nd rfl (Or.inl rfl))))))
    cB))
   (Bl (PSB.mk (cu (dG (bF (bU mK (bV bY (pv 3) bG (fun _ _=>rfl)) (pv 1)) (bF (dG (bF (pv 5) (bF (bQ Xj (hr.mono (by decide)) (by rfl) (bF (pv 0) (bF (bV bY (pv 3) bG (fun _ _=>rfl)) (bF (bV bY (pv 3) bG (fun _ _=>rfl)) (bF (pv 2) bH))))) (bF (pv 6) bH)))) bH))))))))))))),?_⟩
  have z9:100 < sizeLine:=by decide
  refine cj fun R1 hR1=>?_
  refine cI ⟨_,rfl,c,14,rfl,by decide,fun l xs H1 S1 fl hl xl hx=>?_⟩
  have at_:∀ j,j < 14->∃ y,atI (xs.map V.int) (j:Nat) = some (.int y)/\0 <= y:=fun j hj=>by
   have:j < xs.length:=by omega
   exact ⟨xs[j],cg (j:=j) (by rw [au,aj this]; rfl),(hx _ (aW this)).1⟩
  subst hR1
  dsimp only [cU,L2.start]
  have ec:pA (xs.map V.int) (some 2) (some 6) = ((xs.drop 2).take 4).map V.int:=by
   rw [List.map_take,List.map_drop]
   exact JT (ys:=xs.map V.int) (a:=2) (b:=6) (by decide) (by rw [ao]; omega)
  have ul:((xs.drop 2).take 4).length = 4:=by rw [bw,List.length_drop]; omega
  refine cj fun R1 hR1=>?_
  refine cI (dH ⟨_,rfl,_,rfl,_,rfl,l,_,rfl,hl,fun p2 H2 S2 f2 h2=>⟨p2,_,rfl,h2,?_,fun D1 g1=>⟨vJ D1 H2 (((xs.drop 2).take 4).map fun i=>V.int (i.fmod n)),⟨Same.upd g1,bK,rfl⟩,fun i x ys Hc hi jj hy hc=>?_,fun ys Hc ⟨T1,k1,ey⟩ hy=>?_⟩⟩⟩)
  .rw [ec,ao,ul]; decide
  .rw [ec,au] at hi
   cases ei:((xs.drop 2).take 4)[i]? with
   | none=>rw [ei] at hi; cases hi
   | some u =>
    rw [ei] at hi
    cases hi
    exact ⟨_,rfl,_,rfl,u,n,rfl,rfl,by omega,jj.2.1,hc,jj.next g1 (fun _ _ z=>z) (by rw [au,ei]; rfl)⟩
  rw [ec,ao,ul,aM (by rw [ao,ul]; exact aG _)] at ey
  obtain ⟨ra,rb,rc,rd,er,rn⟩ : ∃ ra rb rc rd:Nat,((xs.drop 2).take 4).map (fun i=>V.int (i.fmod n)) = [ra,rb,rc,rd].map (fun r:Nat=>V.int (r:Nat))/\∀ r ∈ [ra,rb,rc,rd],r < n:=by
   obtain ⟨u1,u2,u3,u4,eu⟩:=aaD ul
   have md:∀ i:Int,∃ r:Nat,i.fmod n = (r:Nat)/\r < n:=fun i=>by
    have m0:0 <= i % (n:Int):=Int.emod_nonneg _ (by omega)
    have m1:i % (n:Int) < n:=Int.emod_lt_of_pos _ (by omega)
    exact ⟨(i % (n:Int)).toNat,by rw [aY _ (by omega)]; omega,by omega⟩
   obtain ⟨r1,e1,l1⟩:=md u1
   obtain ⟨r2,e2,l2⟩:=md u2
   obtain ⟨r3,e3,l3⟩:=md u3
   obtain ⟨r4,e4,l4⟩:=md u4
   refine ⟨r1,r2,r3,r4,by rw [eu]; simp only [List.map_cons,List.map_nil,e1,e2,e3,e4],fun r hr=>?_⟩
   simp only [List.mem_cons,List.not_mem_nil,or_false] at hr
   rcases hr with rfl | rfl | rfl | rfl <;> assumption
  rw [er] at ey
  subst ey
  have S3:=S1.trans (S2.trans T1)
  have hl3:=T1 _ _ (S2 _ _ hl)
  clear T1 S2 S1 h2 f2 er ec hx
  subst hR1
  dsimp only [cU]
  refine cj fun R1 hR1=>?_
  obtain ⟨x6,a6,p6⟩:=at_ 6 (by decide)
  refine cI ⟨_,rfl,l,_,6,_,rfl,rfl,hl3,a6,x6,4,rfl,rfl,(show (0:Int) < 4 by decide),?_⟩
  subst hR1
  dsimp only [cU]
  obtain ⟨so,es,s0,s3⟩ : ∃ so,x6 % 4 = so/\0 <= so/\so <= 3:=⟨_,rfl,by omega,by omega⟩
  rw [es]
  refine cj fun R1 hR1=>?_
  refine cI ⟨_,rfl,D1,_,0,_,rfl,rfl,k1,dB,d8,fun q1 Ha Sa fa ha=>⟨d8,fun q2 Hb Sb fb hb=>⟨(show 1 <= sizeLine by decide),fun q3 H4 Sd f3 e3=>?_⟩⟩⟩
  have e1:=Sd _ _ (Sb _ _ ha)
  have e2:=Sd _ _ hb
  have S34:=Sa.trans (Sb.trans Sd)
  have f3:=Same.free S3 (Same.free Sa (Same.free Sb f3))
  have hl4:=S34 _ _ hl3
  have hr4:=S34 _ _ k1
  have S4:=S3.trans S34
  clear Sa Sb Sd ha hb fa fb hl3 k1 S3 S34
  subst hR1
  dsimp only [cU]
  refine GK fun R hR=>?_
  have fin:∀ (u3 u6 u7 u8:Option V) (lp:Addr) (rs:List Nat) (ws:List Int) (S:Int) (ps:List V) (H9:Hp),Same H H9->H9 l = some (.lst (xs.map V.int))->H lp = none->H9 lp = some (.lst ps)->PI H9 ps rs ws S->qY n so rs ws S->S <= wB sm->R { nx:=fun _ H'=>Q .non H',rt:=Q } [some (.int c),some (.int n),some (.bl sm),some (.ref l),u3,some (.int so),some (.ref lp),u6,u7,u8] H9:=by
   intro u3 u6 u7 u8 lp rs ws S ps H9 S9 hl9 fl hlp hpi hdr hS
   obtain ⟨x0,a0,_⟩:=at_ 0 (by decide)
   obtain ⟨x1,a1,_⟩:=at_ 1 (by decide)
   obtain ⟨x13,a13,_⟩:=at_ 13 (by decide)
   subst hR
   have m0:0 <= x13 % (n:Int):=Int.emod_nonneg _ (by omega)
   have m1:x13 % (n:Int) < n:=Int.emod_lt_of_pos _ (by omega)
   have ef:x13.fmod (n:Int) = (((x13 % (n:Int)).toNat:Nat):Int):=by rw [aY _ (by omega)]; omega
   refine eY ⟨_,rfl,l,_,13,_,rfl,rfl,hl9,a13,_,rfl,x13,n,rfl,rfl,by omega,_,rfl,_,rfl,_,rfl,l,_,0,_,rfl,rfl,hl9,a0,_,rfl,l,_,1,_,rfl,rfl,hl9,a1,_,rfl,c,x0,x1,sm,rfl,fun p1 x y Hq Sq f1 hq y0 g1 sa sb=>⟨_,rfl,(show 3 <= sizeLine by decide),fun p2 Hx Sx fx hx=>⟨d8,fun p3 Hy Sy fy hy=>?_⟩⟩⟩
   dsimp only at hy
   rw [ef] at hy
   have S10:=Sq.trans (Sx.trans Sy)
   have y9:yB sm <= 1000:=by cases sm <;> decide
   exact q p3 p2 p1 lp _ so x y S rs ws ps _ (S9.trans S10) (Same.free S9 (Same.free Sq (Same.free Sx fy))) (Same.free S9 (Same.free Sq fx)) hy (by omega) (Sy _ _ hx) (Sy _ _ (Sx _ _ hq)) y0 ⟨g1,sa,by omega⟩ (S10 _ _ hlp) fl (hpi.same S10) hdr sb hS
  clear hR
  have w9:12 <= wB sm:=by cases sm <;> decide
  obtain e | e | e | e:so = 0\/so = 1\/so = 2\/so = 3:=by omega
  .subst e
   refine jl rfl (by decide) (jl rfl (by decide) (jl rfl (by decide) (fin _ _ _ _ q3 [ra] [1] 1 [.ref q2] H4 S4 hl4 f3 e3 ⟨rfl,fun k r x h1 h2=>?_⟩ ?_ (by omega))))
   .match k with
    | 0 =>
     cases h1
     cases h2
     exact ⟨q2,q1,rfl,e2,by rw [QB]; exact e1⟩
    | k + 1=>simp at h1
   .exact ⟨by decide,by decide,rfl,by decide,by decide,by simp,by simp,rfl,by simp,fun _=>⟨rfl,rfl,rfl⟩,fun z=>by simp at z,fun z=>by simp at z,fun r hr=>rn r (by rw [List.mem_singleton.mp hr]; simp)⟩
  .subst e
   obtain ⟨x8,a8,_⟩:=at_ 8 (by decide)
   obtain ⟨x9,a9,_⟩:=at_ 9 (by decide)
   obtain ⟨b,eb,b0,b6⟩ : ∃ b,1 + x8 % 6 = b/\1 <= b/\b <= 6:=⟨_,rfl,by omega,by omega⟩
   obtain ⟨wt,ew,w0,w1⟩ : ∃ wt,x9.fmod (b + 1) = wt/\0 <= wt/\wt <= b:=by
    have m0:0 <= x9 % (b + 1):=Int.emod_nonneg _ (by omega)
    have m1:x9 % (b + 1) < b + 1:=Int.emod_lt_of_pos _ (by omega)
    exact ⟨_,rfl,by rw [aY _ (by omega)]; exact m0,by rw [aY _ (by omega)]; omega⟩
   refine vW rfl rfl fun Kn hK=>?_
   refine cI ⟨_,rfl,l,_,8,_,rfl,rfl,hl4,a8,x8,6,rfl,rfl,(show (0:Int) < 6 by decide),_,_,rfl,rfl,?_⟩
   dsimp only [cU]
   rw [eb]
   refine cI ⟨_,rfl,l,_,9,_,rfl,rfl,hl4,a9,_,rfl,_,_,rfl,rfl,x9,b + 1,rfl,rfl,by omega,_,rfl,x9.fmod (b + 1),b,rfl,by omega,Bd.sm (by omega),fun c1 g1=>?_⟩
   rw [ew]
   have T1:Same H4 (upd H4 c1 (.tup [.int (Ac.lw wt b).1,.int (Ac.lw wt b).2])):=Same.upd g1
   have k1:upd H4 c1 (.tup [.int (Ac.lw wt b).1,.int (Ac.lw wt b).2]) c1 = some (.tup [.int (Ac.lw wt b).1,.int (Ac.lw wt b).2]):=bK
   generalize upd H4 c1 (.tup [.int (Ac.lw wt b).1,.int (Ac.lw wt b).2]) = H5 at T1 k1 ⊢
   dsimp only [cU]
   refine ⟨_,rfl,D1,_,0,_,rfl,rfl,T1 _ _ hr4,dB,_,rfl,d8,fun t1 H6 T2 _ k2=>⟨_,rfl,D1,_,1,_,rfl,rfl,T2 _ _ (T1 _ _ hr4),cV,_,rfl,c1,_,1,_,rfl,rfl,T2 _ _ k1,cV,_,rfl,c1,_,0,_,rfl,rfl,T2 _ _ k1,dB,_,_,rfl,rfl,_,rfl,c1,_,1,_,rfl,rfl,T2 _ _ k1,cV,d8,fun c2 H7 T3 _ k3=>⟨d8,fun t2 H8 T4 _ k4=>⟨d8,fun lp H9 T5 f5 k5=>hK _ _ (jl rfl (by decide) (jl rfl (by decide) ?_))⟩⟩⟩⟩
   have T69:=T3.trans (T4.trans T5)
   have S6:=S4.trans (T1.trans T2)
   refine fin _ _ _ _ lp [ra,rb] [wt,b - wt] b [.ref t1,.ref t2] _ (S6.trans T69) (T69 _ _ (T2 _ _ (T1 _ _ hl4))) (Same.free (S6.trans (T3.trans T4)) f5) k5 ⟨rfl,fun k r x h1 h2=>?_⟩ ?_ (by omega)
   .match k with
    | 0 =>
     cases h1
     cases h2
     exact ⟨t1,c1,rfl,T69 _ _ k2,T69 _ _ (T2 _ _ k1)⟩
    | 1 =>
     cases h1
     cases h2
     exact ⟨t2,c2,rfl,T5 _ _ k4,by rw [Ir]; exact T5 _ _ (T4 _ _ k3)⟩
    | k + 2=>simp at h1
   .refine ⟨by decide,by decide,rfl,by omega,by omega,by simp,?_,?_,by simp,fun z=>by simp at z,fun _=>rfl,fun z=>by simp at z,?_⟩
    .intro x hx
     simp only [List.mem_cons,List.not_mem_nil,or_false] at hx
     omega
    .simp
     omega
    .intro r hr
     simp only [List.mem_cons,List.not_mem_nil,or_false] at hr
     rcases hr with rfl | rfl
     .exact rn _ (by simp)
     .exact rn _ (by simp)
  .subst e
   obtain ⟨x7,a7,_⟩:=at_ 7 (by decide)
   obtain ⟨m,em,m1,m4⟩ : ∃ m:Nat,1 + x7 % 4 = m/\1 <= m/\m <= 4:=⟨(1 + x7 % 4).toNat,by omega,by omega,by omega⟩
   refine jl rfl (by decide) (vW rfl rfl fun Kn hK=>?_)
   refine cI ⟨_,rfl,_,rfl,l,_,7,_,rfl,rfl,hl4,a7,x7,4,rfl,rfl,(show (0:Int) < 4 by decide),_,_,rfl,rfl,_,rfl,D1,_,rfl,hr4,fun p5 H5 T1 f5 k1=>?_⟩
   have ec:pA ([ra,rb,rc,rd].map fun r:Nat=>V.int (r:Nat)) none (some (1 + x7 % 4)) = ([ra,rb,rc,rd].take m).map fun r:Nat=>V.int (r:Nat):=by
    rw [em,Og (by rw [ao]; simp; omega),<- List.map_take]
   have k1:H5 p5 = some (.lst (([ra,rb,rc,rd].take m).map fun r:Nat=>V.int (r:Nat))):=by rw [<- ec]; exact k1
   have l5:([ra,rb,rc,rd].take m).length = m:=by rw [bw]; simp; omega
   have r5:∀ r ∈ [ra,rb,rc,rd].take m,r < n:=fun r hr=>rn r (List.mem_of_mem_take hr)
   generalize [ra,rb,rc,rd].take m = rs at l5 r5 k1
   have S5:=S4.trans T1
   have rl5:(List.replicate m (1:Int)).length = m:=aO
   dsimp only [cU]
   refine dH ⟨_,rfl,p5,_,rfl,k1,by rw [ao]; omega,fun D2 hD2=>⟨evJ D2 rs (List.replicate m 1) m H5,⟨Same.upd hD2,bK,by simp; exact ⟨rfl,fun k r x h1 _=>by simp at h1⟩⟩,?_,?_⟩⟩
   .rintro k v ys Hc hk ⟨T5,h5,pi⟩ hy hpc
    rw [au] at hk
    cases er:rs[k]? with
    | none=>rw [er] at hk; cases hk
    | some r =>
     rw [er] at hk
     cases hk
     have lk:k < m:=by rw [<- l5]; exact (aq.mp er).1
     have ew:(List.replicate m (1:Int))[k]? = some 1:=by rw [List.getElem?_replicate,if_pos lk]
     refine ⟨_,rfl,_,rfl,p5,_,rfl,hpc,d8,fun c1 H6 T6 f6 i1=>⟨d8,fun t1 H7 T7 f7 i2=>?_⟩⟩
     have T67:=T6.trans T7
     have i1:=T7 _ _ i1
     rw [ao,l5] at i1
     have nt:∀ t us,H7 t = some (.tup us)->upd H7 D2 (.lst (ys ++ [.ref t1])) t = some (.tup us):=fun t us e=>(bL (f9 e (T67 _ _ h5) (by intro z; cases z))).trans e
     refine ⟨T67 _ _ h5,T67 _ _ hpc,fun b o e=>(bL (bI e hD2)).trans (T67 _ _ (T5 _ _ e)),bK,?_⟩
     rw [cF er,cF ew]
     refine ((pi.same T67).imp nt).snoc ?_ (nt _ _ i2) (by rw [QB]; exact nt _ _ i1)
     rw [bw,bw,rl5,l5]
   .rintro ys Hc ⟨T5,h5,pi⟩ hy
    rw [ao,aQ,l5,aM (by rw [rl5]; exact aG _)] at pi
    refine hK _ _ (jl rfl (by decide) (fin _ _ _ _ D2 rs (List.replicate m 1) m ys Hc (S5.trans T5) (T5 _ _ (T1 _ _ hl4)) (Same.free S5 hD2) h5 pi ?_ (by omega)))
    exact ⟨by decide,by decide,by rw [rl5,l5],by omega,by omega,by omega,fun x hx=>by rw [(List.mem_replicate.mp hx).2]; decide,RT m,by omega,fun z=>by simp at z,fun z=>by simp at z,fun _=>⟨by rw [l5],by rw [l5]⟩,r5⟩
  .subst e
   obtain ⟨x7,a7,_⟩:=at_ 7 (by decide)
   obtain ⟨x12,a12,_⟩:=at_ 12 (by decide)
   obtain ⟨m,em,m1,m4⟩ : ∃ m:Nat,9 + x7 % 4 = ((8 + m:Nat):Int)/\1 <= m/\m <= 4:=⟨(1 + x7 % 4).toNat,by omega,by omega,by omega⟩
   have ec:pA (xs.map V.int) (some 8) (some (9 + x7 % 4)) = ((xs.drop 8).take m).map V.int:=by
    rw [em,List.map_take,List.map_drop]
    have:=JT (ys:=xs.map V.int) (a:=8) (b:=8 + m) (by omega) (by rw [ao]; omega)
    rw [show 8 + m - 8 = m by omega] at this
    exact this
   have l5:((xs.drop 8).take m).length = m:=by rw [bw,List.length_drop]; omega
   generalize (xs.drop 8).take m = vs at l5 ec
   obtain ⟨j3,ej,jb⟩ : ∃ j:Int,x12 % 4 * (if (!sm) = true then 1 else 0) = j/\(j = 0\/j = 1\/j = 2\/(j = 3/\sm = false)):=by
    cases sm with
    | true=>exact ⟨0,by simp,.inl rfl⟩
    | false=>exact ⟨x12 % 4,by simp,by simp; omega⟩
   obtain ⟨md,ed,hmd⟩ : ∃ md:Int,atI [V.int 3,V.int 3,V.int 3,V.int 1000] j3 = some (.int md)/\(md = 3\/(md = 1000/\sm = false)):=by
    rcases jb with rfl | rfl | rfl | ⟨rfl,rfl⟩
    .exact ⟨3,cg (j:=0) rfl,.inl rfl⟩
    .exact ⟨3,cg (j:=1) rfl,.inl rfl⟩
    .exact ⟨3,cg (j:=2) rfl,.inl rfl⟩
    .exact ⟨1000,cg (j:=3) rfl,.inr ⟨rfl,rfl⟩⟩
   refine jl rfl (by decide) (jl rfl (by decide) (vW rfl rfl fun Kn hK=>?_))
   refine cj fun R1 hR1=>?_
   refine cI (dH ⟨_,rfl,_,rfl,_,rfl,l,_,7,_,rfl,rfl,hl4,a7,x7,4,rfl,rfl,(show (0:Int) < 4 by decide),_,_,rfl,rfl,_,rfl,l,_,rfl,hl4,fun p5 H5 T1 f5 k5=>⟨p5,_,rfl,k5,?_,fun D2 hD2=>⟨weJ D2 md H5,⟨[],rfl,rfl,by simp,Same.upd hD2,bK⟩,?_,?_⟩⟩⟩)
   .show (pA (xs.map V.int) (some 8) (some (9 + x7 % 4))).length <= _
    rw [ec,ao]; omega
   .rintro k v ys Hc hk ⟨ws,rfl,wl,wb,T5,h5⟩ hy hpc
    have hk:(pA (xs.map V.int) (some 8) (some (9 + x7 % 4)))[k]? = some v:=hk
    rw [ec,au] at hk
    cases er:vs[k]? with
    | none=>rw [er] at hk; cases hk
    | some i =>
     rw [er] at hk
     cases hk
     have f0:0 <= i.fmod md/\i.fmod md < md:=by
      rcases hmd with rfl | ⟨rfl,_⟩
      .rw [aY _ (by decide)]; omega
      .rw [aY _ (by decide)]; omega
     have hlc:=T5 _ _ (T1 _ _ hl4)
     refine ⟨_,rfl,(show 4 <= sizeLine by decide),fun p6 H6 S6 f6 h6=>⟨_,rfl,l,_,12,_,rfl,rfl,S6 _ _ hlc,a12,x12,4,rfl,rfl,(show (0:Int) < 4 by decide),_,rfl,sm,rfl,.inr ⟨!sm,rfl,_,_,rfl,rfl,⟨Bd.sm (by omega),Bd.sm (by split <;> decide)⟩,p6,_,_,_,rfl,rfl,h6,by rw [ej]; exact ed,i,md,rfl,rfl,by omega,S6 _ _ h5,S6 _ _ hpc,ws ++ [i.fmod md],by rw [bC]; rfl,by rw [aB,wl]; rfl,fun x hx=>?_,fun b o e=>(bL (bI e hD2)).trans (S6 _ _ (T5 _ _ e)),bK⟩⟩⟩
     rcases List.mem_append.mp hx with hx | hx
     .exact wb x hx
     .rw [List.mem_singleton.mp hx]; exact f0
   .rintro ys Hc ⟨ws,rfl,wl,wb,T5,h5⟩ hy
    have wl:ws.length = m:=by
     have e:(pA (xs.map V.int) (some 8) (some (9 + x7 % 4))).length = m:=by rw [ec,ao,l5]
     exact wl.trans e
    have S5:=S4.trans T1
    have lm:m - 1 < ws.length:=by omega
    have el:ws[m - 1]? = some ws[m - 1]:=aj lm
    have bl:=wb _ (aW lm)
    generalize ws[m - 1] = wl0 at el bl
    have ix:ixN (ws.map V.int).length (-1) = some (m - 1):=by rw [ao,wl]; exact Ld m1
    have ea:atI (ws.map V.int) (-1) = some (.int wl0):=by
     unfold atI
     rw [ix]
     show (ws.map V.int)[m - 1]? = _
     rw [au,el]; rfl
    subst hR1
    dsimp only [cU]
    refine cj fun R1 hR1=>?_
    refine cI ⟨_,rfl,1,rfl,D2,_,_,_,rfl,rfl,h5,ea,wl0,1,rfl,rfl,?_⟩
    refine ⟨_,rfl,1,rfl,D2,_,_,_,rfl,rfl,h5,ix,?_⟩
    rw [<- List.map_set]
    have l6:(ws.set (m - 1) (wl0 + 1)).length = m:=by rw [List.length_set,wl]
    have b6:∀ x ∈ ws.set (m - 1) (wl0 + 1),0 <= x/\x <= md:=fun x hx=>by
     rcases List.mem_or_eq_of_mem_set hx with hx | rfl
     .have:=wb x hx
      omega
     .omega
    have in6:wl0 + 1 ∈ ws.set (m - 1) (wl0 + 1):=List.mem_set lm _
    generalize ws.set (m - 1) (wl0 + 1) = ww at l6 b6 in6 ⊢
    obtain ⟨s1,s2,s3'⟩:=K5 ww b6
    rw [l6] at s2
    have sB:ww.sum <= 4004/\ww.sum <= wB sm:=by
     rcases hmd with e | ⟨e,e'⟩
     .rw [e] at s2; exact ⟨by omega,by omega⟩
     .rw [e] at s2; rw [e']; exact ⟨by omega,by show _ <= (4004:Int); omega⟩
    obtain ⟨s4,s5⟩:=sB
    have sp:=s3' _ in6
    have T6:Same H (upd Hc D2 (.lst (ww.map V.int))):=fun b o e=>(bL (bI (S5 _ _ e) hD2)).trans (T5 _ _ (S5 _ _ e))
    have k6:upd Hc D2 (.lst (ww.map V.int)) D2 = some (.lst (ww.map V.int)):=bK
    have r6:upd Hc D2 (.lst (ww.map V.int)) D1 = some (.lst ([ra,rb,rc,rd].map fun r=>V.int (r:Nat))):=(bL (bI (T1 _ _ hr4) hD2)).trans (T5 _ _ (T1 _ _ hr4))
    have hl6:upd Hc D2 (.lst (ww.map V.int)) l = some (.lst (xs.map V.int)):=(bL (bI (T1 _ _ hl4) hD2)).trans (T5 _ _ (T1 _ _ hl4))
    generalize upd Hc D2 (.lst (ww.map V.int)) = H6 at T6 k6 r6 hl6 ⊢
    have lt4:([ra,rb,rc,rd].take m).length = m:=by rw [bw]; simp; omega
    subst hR1
    refine pN ⟨_,rfl,D2,_,rfl,k6,m,by rw [ao,l6],by omega,fun D3 hD3=>⟨evJ D3 ([ra,rb,rc,rd].take m) ww ww.sum H6,⟨Same.upd hD3,bK,by simp; exact ⟨rfl,fun k r x h1 _=>by simp at h1⟩⟩,?_,?_⟩⟩
    .rintro k ys Hc hk ⟨T7,h7,pi⟩ hy
     have er : [ra,rb,rc,rd][k]? = some ([ra,rb,rc,rd][k]'(by simp; omega)):=aj _
     have et:([ra,rb,rc,rd].take m)[k]? = some ([ra,rb,rc,rd][k]'(by simp; omega)):=by rw [List.getElem?_take,if_pos hk]; exact er
     have ew:ww[k]? = some (ww[k]'(by omega)):=aj _
     generalize [ra,rb,rc,rd][k]'(by simp; omega) = r at er et
     generalize ww[k]'(by omega) = wk at ew
     refine ⟨_,rfl,_,rfl,D1,_,_,_,rfl,rfl,T7 _ _ r6,cg (j:=k) (by rw [au,er]; rfl),_,rfl,_,rfl,D2,_,_,_,rfl,rfl,T7 _ _ k6,cg (j:=k) (by rw [au,ew]; rfl),_,rfl,D2,ww,rfl,T7 _ _ k6,wk,ww.sum,rfl,by omega,Bd.sm (by omega),fun c1 g1=>⟨d8,fun t1 H8 T8 f8 i2=>?_⟩⟩
     have T78:=(Same.upd g1 (o:=.tup [.int (Ac.lw wk ww.sum).1,.int (Ac.lw wk ww.sum).2])).trans T8
     have i1:=T8 _ _ (bK (H:=Hc) (a:=c1) (o:=.tup [.int (Ac.lw wk ww.sum).1,.int (Ac.lw wk ww.sum).2]))
     have nt:∀ t us,H8 t = some (.tup us)->upd H8 D3 (.lst (ys ++ [.ref t1])) t = some (.tup us):=fun t us e=>(bL (f9 e (T78 _ _ h7) (by intro z; cases z))).trans e
     refine ⟨T78 _ _ h7,fun b o e=>(bL (bI e hD3)).trans (T78 _ _ (T7 _ _ e)),bK,?_⟩
     rw [cF et,cF ew]
     refine ((pi.same T78).imp nt).snoc ?_ (nt _ _ i2) (nt _ _ i1)
     rw [bw,bw,l6,lt4]
    .rintro ys Hc ⟨T7,h7,pi⟩ hy
     have pi:PI Hc ys ([ra,rb,rc,rd].take m) ww ww.sum:=by
      have e1:([ra,rb,rc,rd].take m).take m = [ra,rb,rc,rd].take m:=aM (by rw [lt4]; exact aG _)
      have e2:ww.take m = ww:=aM (by rw [l6]; exact aG _)
      rw [e1,e2] at pi
      exact pi
     refine hK _ _ (fin _ _ _ _ D3 ([ra,rb,rc,rd].take m) ww ww.sum ys Hc (T6.trans T7) (T7 _ _ hl6) (Same.free T6 hD3) h7 pi ?_ s5)
     exact ⟨by decide,by decide,by rw [lt4,l6],by omega,by omega,by omega,fun x hx=>(b6 x hx).1,rfl,by omega,fun z=>by simp at z,fun z=>by simp at z,fun z=>by simp at z,fun r hr=>rn r (List.mem_of_mem_take hr)⟩
structure DD (n:Nat) (B:Int) (H:Hp) (d:Addr):Prop where
 ex:∃ (p lp:Addr) (so x y S:Int) (rs:List Nat) (ws:List Int) (ps:List V),H d = some (.tup [.int so,.ref p,.ref lp])/\H p = some (.tup [.int x,.int y])/\0 < y/\aaI x y/\H lp = some (.lst ps)/\PI H ps rs ws S/\qY n so rs ws S/\y * S <= B
theorem DD.same {n:Nat} {B:Int} {H H':Hp} {d:Addr} (h:DD n B H d) (S:Same H H'):DD n B H' d:=by
 obtain ⟨p,lp,so,x,y,S',rs,ws,ps,a,b,b1,b2,c,d,e⟩:=h.ex
 exact ⟨p,lp,so,x,y,S',rs,ws,ps,S _ _ a,S _ _ b,b1,b2,S _ _ c,d.same S,e⟩
structure RD (n:Nat) (B:Int) (H:Hp) (xs:List V) (dss:List (List Addr)):Prop where
 len:xs.length = dss.length
 at_:∀ (k:Nat) (ds:List Addr),dss[k]? = some ds->∃ l,xs[k]? = some (.ref l)/\H l = some (.lst (ds.map V.ref))/\∀ d ∈ ds,DD n B H d
theorem RD.same {n:Nat} {B:Int} {H H':Hp} {xs:List V} {dss:List (List Addr)} (h:RD n B H xs dss) (S:Same H H'):RD n B H' xs dss:=⟨h.len,fun k ds e=>let ⟨l,a,b,c⟩:=h.at_ k ds e; ⟨l,a,S _ _ b,fun d hd=>(c d hd).same S⟩⟩
theorem DD.off {n:Nat} {B:Int} {H:Hp} {ls:List Addr} {d p lp:Addr} {so x y S:Int} {rs:List Nat} {ws:List Int} {ps:List V} (hls:∀ l ∈ ls,∃ zs,H l = some (.lst zs)) (nl:lp ∉ ls) (h1:H d = some (.tup [.int so,.ref p,.ref lp])) (h2:H p = some (.tup [.int x,.int y])) (y0:0 < y) (g:aaI x y) (h3:H lp = some (.lst ps)) (h4:PI H ps rs ws S) (h5:qY n so rs ws S) (h6:y * S <= B):DD n B (del ls H) d:=by
 have nt:∀ t us,H t = some (.tup us)->del ls H t = some (.tup us):=fun t us e=>iJ (fun z=>by
  obtain ⟨zs,hz⟩:=hls t z
  rw [hz] at e
  cases e) e
 exact ⟨p,lp,so,x,y,S,rs,ws,ps,nt _ _ h1,nt _ _ h2,y0,g,iJ nl h3,h4.imp nt,h5,h6⟩
def rN (sm:Bool):Nat:=if sm then 2 else 3
def mB (sm:Bool):Int:=if sm then 12 else 4004000
theorem ael {sm:Bool} {y S:Int} (y0:0 < y) (S0:0 < S) (hy:y <= yB sm) (hS:S <= wB sm):y * S <= mB sm:=by
 have h:=Int.mul_le_mul hy hS (Int.le_of_lt S0) (Int.le_trans (Int.le_of_lt y0) hy)
 cases sm <;> exact h
def BZ (K:Frag) (a:Addr) (ns:List Int):Sp:=fun vs H Q _=>∃ (c:Int) (n:Nat) (sm:Bool),vs = [.ref a,.int c,.int n,.bl sm]/\SqL K H a (ns.map V.int)/\ns.length <= 63/\0 <= c/\n <= 12/\∀ (r:Addr) (xs:List V) (dss:List (List Addr)) H',Same H H'->H r = none->H' r = some (.lst xs)->dss.length = n->RD n (mB sm) H' xs dss->(∀ ds ∈ dss,ds.length <= rN sm)->Q (.ref r) H'
structure RL (n m:Nat) (B:Int) (H0 H:Hp) (ls:List Addr) (dss:List (List Addr)):Prop where
 len:ls.length = dss.length
 nd:ls.Nodup
 new:∀ l ∈ ls,H0 l = none
 at_:∀ (k:Nat) (l:Addr) (ds:List Addr),ls[k]? = some l->dss[k]? = some ds->H l = some (.lst (ds.map V.ref))/\ds.length <= m/\∀ d ∈ ds,DD n B (del ls H) d
theorem RL.rd {n m:Nat} {B:Int} {H0 H:Hp} {ls:List Addr} {dss:List (List Addr)} (h:RL n m B H0 H ls dss):RD n B H (ls.map V.ref) dss:=⟨by rw [ao,h.len],fun k ds e=>by
 have lk:k < ls.length:=by rw [h.len]; exact (aq.mp e).1
 have el:ls[k]? = some ls[k]:=aj lk
 obtain ⟨a,_,c⟩:=h.at_ k _ ds el e
 exact ⟨ls[k],by rw [au,el]; rfl,a,fun d hd=>(c d hd).same tL⟩⟩
theorem RL.lists {n m:Nat} {B:Int} {H0 H:Hp} {ls:List Addr} {dss:List (List Addr)} (h:RL n m B H0 H ls dss):∀ l ∈ ls,∃ zs,H l = some (.lst zs):=fun l hl=>by
 obtain ⟨k,hk⟩:=aX hl
 have lk:k < dss.length:=by rw [<- h.len]; exact (aq.mp hk).1
 exact ⟨_,(h.at_ k l _ hk (aj lk)).1⟩
theorem RL.same {n m:Nat} {B:Int} {H0 H H':Hp} {ls:List Addr} {dss:List (List Addr)} (h:RL n m B H0 H ls dss) (S:Same H H'):RL n m B H0 H' ls dss:=⟨h.len,h.nd,h.new,fun k l ds e1 e2=>let ⟨a,b,c⟩:=h.at_ k l ds e1 e2; ⟨S _ _ a,b,fun d hd=>(c d hd).same (ug fun b o _ e=>S _ _ e)⟩⟩
theorem RL.put {n m:Nat} {B:Int} {H0 H:Hp} {ls:List Addr} {dss:List (List Addr)} {k:Nat} {l d:Addr} {ds:List Addr} (h:RL n m B H0 H ls dss) (el:ls[k]? = some l) (ed:dss[k]? = some ds) (hm:ds.length < m) (hd:DD n B (del ls H) d):RL n m B H0 (upd H l (.lst ((ds ++ [d]).map V.ref))) ls (dss.set k (ds ++ [d])):=by
 have lm:=aC el
 have ee:del ls (upd H l (.lst ((ds ++ [d]).map V.ref))) = del ls H:=by
  funext b
  unfold del
  split
  .rfl
  .rename_i hb
   exact bL fun z=>hb (z ▸ lm)
 refine ⟨by rw [List.length_set,h.len],h.nd,h.new,fun j l' ds' e1 e2=>?_⟩
 rw [ee]
 by_cases e:k = j
 .subst e
  rw [el] at e1
  cases e1
  rw [List.getElem?_set_self (aq.mp ed).1] at e2
  cases e2
  obtain ⟨a,b,c⟩:=h.at_ k l ds el ed
  refine ⟨bK,by rw [aB]; simp; omega,fun d' hd'=>?_⟩
  rcases List.mem_append.mp hd' with hd' | hd'
  .exact c d' hd'
  .rw [List.mem_singleton.mp hd']; exact hd
 .rw [List.getElem?_set_ne e] at e2
  obtain ⟨a,b,c⟩:=h.at_ j l' ds' e1 e2
  refine ⟨(bL fun z=>?_).trans a,b,c⟩
  subst z
  have l1:=aq.mp el
  have l2:=aq.mp e1
  have pw:=List.pairwise_iff_getElem.mp h.nd
  rcases Nat.lt_or_gt_of_ne e with lt | lt
  .exact pw k j l1.1 l2.1 lt (l1.2.trans l2.2.symm)
  .exact pw j k l2.1 l1.1 lt (l2.2.trans l1.2.symm)
def dJ0 (n m:Nat) (B:Int) (D1:Addr) (H H1:Hp) (k:Nat) (ys:List V) (Hc:Hp):Prop:=∃ ls:List Addr,ys = ls.map V.ref/\RL n m B H Hc ls (List.replicate k [])/\Same H1 Hc/\Hc D1 = some (.lst ys)/\D1 ∉ ls
theorem RL.nil {n m:Nat} {B:Int} {H0 H:Hp} : RL n m B H0 H [] (List.replicate 0 []):=⟨rfl,List.nodup_nil,by simp,fun k l ds e=>by simp at e⟩
theorem RL.more {n m k:Nat} {B:Int} {H0 H:Hp} {ls:List Addr} {l:Addr} (h:RL n m B H0 H ls (List.replicate k [])) (h0:H0 l = none) (hl:H l = none):RL n m B H0 (upd H l (.lst [])) (ls ++ [l]) (List.replicate (k + 1) []):=by
 have hk:ls.length = k:=by rw [h.len,aO]
 have nin:l ∉ ls:=fun z=>by
  obtain ⟨zs,hz⟩:=h.lists l z
  rw [hl] at hz
  cases hz
 refine ⟨by rw [aB,hk,aO]; rfl,?_,fun l' hl'=>?_,fun j l' ds e1 e2=>?_⟩
 .rw [List.nodup_append]
  refine ⟨h.nd,by simp,fun a ha b hb z=>?_⟩
  rw [List.mem_singleton.mp hb] at z
  exact nin (z ▸ ha)
 .rcases List.mem_append.mp hl' with hl' | hl'
  .exact h.new l' hl'
  .rw [List.mem_singleton.mp hl']; exact h0
 .have lj:=(aq.mp e2).1
  rw [aO] at lj
  rw [List.getElem?_replicate,if_pos lj] at e2
  cases e2
  by_cases hj:j < ls.length
  .rw [aF hj] at e1
   obtain ⟨a,_⟩:=h.at_ j l' [] e1 (by rw [List.getElem?_replicate,if_pos (by omega)])
   exact ⟨(bL (fun z=>by rw [z,hl] at a; cases a)).trans a,bA _,by simp⟩
  .rw [aD (by omega)] at e1
   have e0:j - ls.length = 0:=by omega
   rw [e0] at e1
   cases e1
   exact ⟨bK,bA _,by simp⟩
theorem RL.other {n m k:Nat} {B:Int} {H0 H:Hp} {ls:List Addr} {D1:Addr} {o:HO} (h:RL n m B H0 H ls (List.replicate k [])) (nd:D1 ∉ ls):RL n m B H0 (upd H D1 o) ls (List.replicate k []):=by
 refine ⟨h.len,h.nd,h.new,fun j l ds e1 e2=>?_⟩
 obtain ⟨a,b,_⟩:=h.at_ j l ds e1 e2
 have lj:=(aq.mp e2).1
 rw [aO] at lj
 rw [List.getElem?_replicate,if_pos lj] at e2
 cases e2
 exact ⟨(bL fun z=>by subst z; exact nd (aC e1)).trans a,b,by simp⟩
def dJ (a D1:Addr) (c:Int) (n:Nat) (sm:Bool) (ls:List Addr) (u5 u6:Option V) (H:Hp) (k:Nat) (σ:L2.St) (H':Hp):Prop:=∃ (u7 u8 u9:Option V) (dss:List (List Addr)),σ = [some (.ref a),some (.int c),some (.int n),some (.bl sm),some (.ref D1),u5,u6,u7,u8,u9]/\Same H H'/\H' D1 = some (.lst (ls.map V.ref))/\dss.length = n/\RL n (rN sm) (mB sm) H H' ls dss
theorem XJ (F:Fun K t_ t_ Az f fd) (T:Txt K mg D) (a:Addr) (ns:List Int) (qK:OkF P w K mg base 1 u_ vf (xP K a ns)) (dR:OkF P w K mg base 1 iB gY h_) (PX:OkF P w K mg base 4 wI xg Ao):cC P w K mg base CX0 5 f fd ux (BZ K a ns):=by
 refine F.ok oR (fun vs H Q E h=>?_) (fun cdv A outer s H vs Q E hr h=>?_)
 .obtain ⟨c,n,sm,rfl,_⟩:=h
  rfl
 .obtain ⟨c,n,sm,rfl,hs,n63,c0,n12,q⟩:=h
  refine ⟨_,(bM (Gy (bN Az) Hj Hj ["_law_k"] (jo (by rfl) T.nZ (bF (pv 2) bH).mono) (eG (i:=0)) dj (lY bH) (cH (i:=4) oR.nd rfl (Or.inl rfl)))
   (bM (cY (cQ GR (pv 2) bG (cN _))
    (bM (cA (i:=5) oR.nd rfl (Or.inl rfl) (bQ qK (hr.mono (by decide)) (by rfl) (bF (pv 0) (bF (pv 1) bH))))
    (bM (cA (i:=6) oR.nd rfl (Or.inl rfl) (bQ dR (hr.mono (by decide)) (by rfl) (bF (pv 5) (bF (bU mK (bU cR (bU O9 (pv 5) bG) bG) (bU cZ (bU cM bG (pv 2)) bG)) bH))))
    (bO (iV PassesOwn.never rfl (cX ((bU Px (pv 6) (nj Bc (pv 0) (jB (bU cZ (pv 1) bG)) (jB (bU cZ (pv 1) bG))))).mono) (cH (i:=7) oR.nd rfl (Or.inl rfl))
     (bM (DN (bQ PX (hr.mono (by decide)) (by rfl) (bF (pv 7) (bF (pv 2) (bF (pv 3) bH)))) (iD (n:=2) rfl (cD (cH (i:=8) oR.nd rfl (Or.inl rfl)) (cD (cH (i:=9) oR.nd rfl (Or.inl rfl)) gO))))
     (bO (cY (cQ zZ (b_ d_ (by rfl) T.kI PySem.boot_len (bF (bV bY (pv 4) (pv 8) (fun _ _=>rfl)) bH)) (bU um bG (oG uU (by rfl) T.GF boot_int (bF (pv 3) bH))) (cN _))
      (bO (dD (sU (bV bY (pv 4) (pv 8) (fun _ _=>rfl)) (bF (pv 9) bH))))
      cB)))))))
    cB)
   (bO (cu (pv 4))))),?_⟩
  unfold xP h_ Ao
  refine cj fun R1 hR1=>?_
  walk_at "rd"
  refine pN ?_
  walk_at "rd"
  refine ⟨n,rfl,by omega,fun D1 hD1=>⟨dJ0 n (rN sm) (mB sm) D1 H H,⟨[],rfl,.nil,Same.upd hD1,bK,by simp⟩,?_,?_⟩⟩
  .rintro k ys Hc hk ⟨ls,rfl,rl,S1,h1,nd⟩ hy
   refine ⟨bA _,fun l hl=>?_⟩
   have nD:D1 ≠ l:=bI h1 hl
   refine ⟨(bL nD).trans h1,ls ++ [l],by rw [bC]; rfl,(rl.more (Same.free S1 hl) hl).other ?_,fun b o e=>(bL (bI e hD1)).trans ((bL (bI (S1 _ _ e) hl)).trans (S1 _ _ e)),bK,?_⟩
   .simp only [List.mem_append,List.mem_singleton,not_or]
    exact ⟨nd,nD⟩
   .simp only [List.mem_append,List.mem_singleton,not_or]
    exact ⟨nd,nD⟩
  .rintro ys Hc ⟨ls,rfl,rl,S1,h1,nd⟩ hy
   subst hR1
   refine cj fun R2 hR2=>?_
   have fin:∀ (u5 u6 u7 u8 u9:Option V) (dss:List (List Addr)) (H9:Hp),Same H H9->H9 D1 = some (.lst (ls.map V.ref))->dss.length = n->RL n (rN sm) (mB sm) H H9 ls dss->R2 { nx:=fun _ H'=>Q .non H',rt:=Q } [some (.ref a),some (.int c),some (.int n),some (.bl sm),some (.ref D1),u5,u6,u7,u8,u9] H9:=by
    intro u5 u6 u7 u8 u9 dss H9 S9 h9 ld r9
    subst hR2
    refine ⟨_,rfl,q D1 _ dss H9 S9 hD1 h9 ld r9.rd fun ds hds=>?_⟩
    obtain ⟨k,hk⟩:=aX hds
    have lk:k < ls.length:=by rw [r9.len]; exact (aq.mp hk).1
    exact (r9.at_ k _ ds (aj lk) hk).2.1
   clear hR2
   walk_at "rd"
   refine ZW (fun hn=>?_) fun _=>fin none none none none none (List.replicate n []) Hc S1 h1 aO rl
   have hn:0 < (n:Int):=of_decide_eq_true hn
   have v0:0 <= cell ns c * 48271 % 104729 % (3 * (n:Int) + 1):=Int.emod_nonneg _ (by omega)
   have v1:cell ns c * 48271 % 104729 % (3 * (n:Int) + 1) < 3 * (n:Int) + 1:=Int.emod_lt_of_pos _ (by omega)
   refine ⟨Same.sql S1 hs,n63,c0,.inr (by constructor <;> decide),Bd.sm (by decide),Bd.sm (by omega),by omega,(cell ns c * 48271 % 104729 % (3 * (n:Int) + 1)).toNat,by rw [aY _ (by omega)]; omega,by omega,fun l xs H2 S2 fl hl2 _ _=>fY ?_⟩
   walk_at "rd"
   refine ⟨_,Same.sql (S1.trans S2) hs,fun p5 g5=>⟨_,(bL (bI hl2 g5)).trans hl2,?_,fun p6 g6=>⟨dJ a D1 c n sm ls (some (.int (cell ns c))) (some (.ref l)) H,?_,?_,?_⟩⟩⟩
   .have z9:1000 < sizeLine:=by decide
    have:(pA (ns.map V.int) (some (c + 1)) (some (c + 25))).length <= (ns.map V.int).length:=by
     unfold pA
     rw [bw,List.length_drop]
     omega
    rw [ao] at this ⊢
    omega
   .have T5:Same Hc (upd (upd H2 p5 (.lst (pA (ns.map V.int) (some (c + 1)) (some (c + 25))))) p6 (.lst (xs.map V.int ++ pA (ns.map V.int) (some (c + 1)) (some (c + 25))))):=S2.trans ((Same.upd g5).trans (Same.upd g6))
    exact ⟨none,none,none,List.replicate n [],rfl,S1.trans T5,T5 _ _ h1,aO,rl.same T5⟩
   .rintro k v σ' H' hk ⟨u7,u8,u9,dss,rfl,S9,h9,ld,r9⟩ hp6
    obtain ⟨i,rfl⟩ : ∃ i,v = V.int i:=by
     rcases List.mem_append.mp (aC hk) with z | z
     .obtain ⟨i,_,rfl⟩:=List.mem_map.mp z
      exact ⟨i,rfl⟩
     .obtain ⟨i,_,rfl⟩:=List.mem_map.mp (List.mem_of_mem_drop (List.mem_of_mem_take z))
      exact ⟨i,rfl⟩
    refine ⟨_,rfl,_,rfl,_,rfl,⟨_,rfl⟩,n,rfl,sm,rfl,by omega,n12,fun r d p lp room so x y S rs ws ps H3 S3 fr fd hr hroom hd hp y0 g hlp flp hpi hdr hy9 hS9=>?_⟩
    have kd:dss[room]? = some (dss[room]'(by omega)):=aj _
    have kl:ls[room]? = some (ls[room]'(by rw [r9.len]; omega)):=aj _
    generalize dss[room]'(by omega) = ds at kd
    generalize ls[room]'(by rw [r9.len]; omega) = lr at kl
    have r3:=r9.same S3
    have al:=r3.at_ room lr ds kl kd
    refine ⟨_,hr,rfl,_,_,rfl,_,_,rfl,rfl,_,rfl,_,rfl,D1,rfl,_,_,rfl,S3 _ _ h9,_,cg (j:=room) (by rw [au,kl]; rfl),lr,rfl,_,al.1,_,rfl,.inr ⟨sm,rfl,?_⟩⟩
    rw [ao]
    have em:3 - (if sm = true then (1:Int) else 0) = (rN sm:Nat):=by cases sm <;> decide
    rw [em]
    by_cases hm:ds.length < rN sm
    .rw [if_pos (decide_eq_true (by omega))]
     have lin:=aC kl
     have nD:D1 ≠ lr:=fun z=>nd (by rw [z]; exact lin)
     have n6:lr ≠ p6:=by
      obtain ⟨zs,hz⟩:=rl.lists lr lin
      exact bI (Same.upd g5 _ _ (S2 _ _ hz)) g6
     have nl:lp ∉ ls:=fun z=>by
      obtain ⟨zs,hz⟩:=r9.lists lp z
      rw [hz] at flp
      cases flp
     have dd:=DD.off r3.lists nl hd hp y0 g hlp hpi hdr (ael y0 hdr.pos hy9 hS9)
     have r4:=r3.put kl kd hm dd
     rw [bC] at r4
     have z9:1000 < sizeLine:=by decide
     have m3:rN sm <= 3:=by cases sm <;> decide
     refine ⟨_,rfl,_,rfl,D1,rfl,_,_,rfl,S3 _ _ h9,_,cg (j:=room) (by rw [au,kl]; rfl),lr,rfl,⟨_,al.1⟩,_,rfl,_,al.1,by rw [ao]; omega,(bL n6.symm).trans (S3 _ _ hp6),_,_,_,dss.set room (ds ++ [d]),rfl,fun b o e=>(bL (fun z=>?_)).trans (S3 _ _ (S9 _ _ e)),(bL nD).trans (S3 _ _ h9),by rw [List.length_set]; exact ld,r4⟩
     rw [z,r9.new lr lin] at e
     cases e
    .rw [if_neg (by simp; omega)]
     exact ⟨S3 _ _ hp6,_,_,_,dss,rfl,S9.trans S3,S3 _ _ h9,ld,r3⟩
   .rintro σ' H' ⟨u7,u8,u9,dss,rfl,S9,h9,ld,r9⟩ _
    exact fin _ _ _ _ _ dss H' S9 h9 ld r9
theorem WF.keys {H:Hp} : ∀ {xs:List V} {gs:List (Str × Int × Int)} {ws:List (Str × Addr)},WF K H xs gs ws->ws.map (·.1) = gs.map (·.1)
 | _,_,_,.nil=>rfl
 | _,_,_,.cons _ _ r=>by rw [List.map_cons,List.map_cons,r.keys]
theorem Uy {ns:List Str} {rs:List Nat} (h:∀ r ∈ rs,r < ns.length):∃ nms,xG ns rs nms:=by
 refine ⟨rs.map fun r=>(ns[r]?).getD Str.empty,ao ..,fun k r m e1 e2=>?_⟩
 rw [au,e1,Option.map_some,aj (h r (aC e1))] at e2
 cases e2
 exact aj _
structure xQ (K:Frag) (n:Nat) (B:Int) (ns:List Str) (H H':Hp) (d:Addr) (g:Dr):Prop where
 ex:∃ (p lp:Addr) (so x y S:Int) (rs:List Nat) (ws:List Int) (ps xs:List V) (nms:List Str),H d = some (.tup [.int so,.ref p,.ref lp])/\H p = some (.tup [.int x,.int y])/\0 < y/\aaI x y/\H lp = some (.lst ps)/\PI H ps rs ws S/\(qY n so rs ws S/\y * S <= B)/\xG ns rs nms/\g.p = p/\WF K H' xs (Ac.ways (nms.zip ws) S) g.ws
theorem xQ.on {n:Nat} {B:Int} {ns:List Str} {H H' H2:Hp} {d:Addr} {g:Dr} (S:Same H' H2) (h:xQ K n B ns H H' d g):xQ K n B ns H H2 d g:=by
 obtain ⟨p,lp,so,x,y,S',rs,ws,ps,xs,nms,a1,a2,a3,a4,a5,a6,a7,a8,a9,b⟩:=h.ex
 exact ⟨p,lp,so,x,y,S',rs,ws,ps,xs,nms,a1,a2,a3,a4,a5,a6,a7,a8,a9,b.same S⟩
theorem xQ.up {n:Nat} {B:Int} {ns:List Str} {H H' H2:Hp} {d:Addr} {g:Dr} (S:Same H H2) (h:xQ K n B ns H H' d g):xQ K n B ns H2 H' d g:=by
 obtain ⟨p,lp,so,x,y,S',rs,ws,ps,xs,nms,a1,a2,a3,a4,a5,a6,a7,a8,a9,b⟩:=h.ex
 exact ⟨p,lp,so,x,y,S',rs,ws,ps,xs,nms,S _ _ a1,S _ _ a2,a3,a4,S _ _ a5,a6.same S,a7,a8,a9,b⟩
theorem xQ.few {n:Nat} {B:Int} {ns:List Str} {H H':Hp} {d:Addr} {g:Dr} (h:xQ K n B ns H H' d g):g.ws.length <= 8/\∀ z ∈ g.ws,z.1 ∈ ns:=by
 obtain ⟨p,lp,so,x,y,S',rs,ws,ps,xs,nms,a1,a2,a3,a4,a5,a6,a7,a8,a9,b⟩:=h.ex
 have lo:∀ z ∈ nms.zip ws,0 <= z.2:=fun z hz=>a7.1.lo _ (List.of_mem_zip (a:=z.1) (b:=z.2) hz).2
 have k:=b.keys
 constructor
 .have e1:=congrArg List.length k
  rw [ao,ao] at e1
  have e2:=Ac.UL lo S'
  have e3:(nms.zip ws).length <= nms.length:=by rw [List.length_zip]; omega
  have:=a8.1
  have:=a7.1.l8
  omega
 .intro z hz
  have hz:=List.mem_map_of_mem (f:=(·.1)) hz
  rw [k] at hz
  obtain ⟨v,hv,e⟩:=List.mem_map.mp hz
  have hv:=Ac.Wm hv
  obtain ⟨u,hu,e'⟩:=List.mem_map.mp hv
  have hu:=(List.of_mem_zip (a:=u.1) (b:=u.2) hu).1
  rw [<- e,<- e']
  obtain ⟨j,hj⟩:=aX hu
  have lj:j < rs.length:=by rw [<- a8.1]; exact (aq.mp hj).1
  exact aC (a8.2 j _ _ (aj lj) hj)
structure uG (K:Frag) (n:Nat) (B:Int) (ns:List Str) (H H':Hp) (ds:List Addr) (gs:List Dr):Prop where
 len:gs.length = ds.length
 at_:∀ (j:Nat) (d:Addr) (g:Dr),ds[j]? = some d->gs[j]? = some g->xQ K n B ns H H' d g
theorem uG.on {n:Nat} {B:Int} {ns:List Str} {H H' H2:Hp} {ds:List Addr} {gs:List Dr} (S:Same H' H2) (h:uG K n B ns H H' ds gs):uG K n B ns H H2 ds gs:=⟨h.len,fun j d g e1 e2=>(h.at_ j d g e1 e2).on S⟩
theorem uG.up {n:Nat} {B:Int} {ns:List Str} {H H' H2:Hp} {ds:List Addr} {gs:List Dr} (S:Same H H2) (h:uG K n B ns H H' ds gs):uG K n B ns H2 H' ds gs:=⟨h.len,fun j d g e1 e2=>(h.at_ j d g e1 e2).up S⟩
theorem uG.mem {n:Nat} {B:Int} {ns:List Str} {H H':Hp} {ds:List Addr} {gs:List Dr} (h:uG K n B ns H H' ds gs) {g:Dr} (hg:g ∈ gs):∃ d,xQ K n B ns H H' d g:=by
 obtain ⟨j,hj⟩:=aX hg
 have lj:j < ds.length:=by rw [<- h.len]; exact (aq.mp hj).1
 exact ⟨_,h.at_ j _ g (aj lj) hj⟩
theorem uG.snoc {n:Nat} {B:Int} {ns:List Str} {H H':Hp} {ds:List Addr} {gs:List Dr} {d:Addr} {g:Dr} (h:uG K n B ns H H' ds gs) (hd:xQ K n B ns H H' d g):uG K n B ns H H' (ds ++ [d]) (gs ++ [g]):=by
 have l:=h.len
 refine ⟨by rw [aB,aB,l]; rfl,fun j d' g' e1 e2=>?_⟩
 rcases lB e1 with ⟨a,b⟩ | ⟨a,b⟩ <;> rcases lB e2 with ⟨c,e⟩ | ⟨c,e⟩
 .exact h.at_ j d' g' b e
 .omega
 .omega
 .subst b; subst e; exact hd
theorem vK.snoc {H:Hp} {xs:List V} {gs:List Dr} {s:Addr} {g:Dr} (h:vK D H xs gs) (hs:U9 D H s g):vK D H (xs ++ [.ref s]) (gs ++ [g]):=by
 have l:=h.len
 refine ⟨by rw [aB,aB,l]; rfl,fun k g' e=>?_⟩
 rcases lB e with ⟨a,b⟩ | ⟨a,b⟩
 .obtain ⟨s',c,d⟩:=h.at_ k g' b
  exact ⟨s',by rw [aF (by omega)]; exact c,d⟩
 .subst b
  exact ⟨s,by rw [aD (by omega),l,a,Nat.sub_self]; rfl,hs⟩
theorem mF.snoc {H:Hp} {xs ys:List V} {rms:List (Str × List Dr)} {t l:Addr} {g:Str × List Dr} (h:mF D H xs rms) (ht:H t = some (.tup [.str g.1,.ref l])) (hl:H l = some (.lst ys)) (hd:vK D H ys g.2):mF D H (xs ++ [.ref t]) (rms ++ [g]):=by
 have le:=h.len
 refine ⟨by rw [aB,aB,le]; rfl,fun k g' e=>?_⟩
 rcases lB e with ⟨a,b⟩ | ⟨a,b⟩
 .obtain ⟨t',l',ys',c,d⟩:=h.at_ k g' b
  exact ⟨t',l',ys',by rw [aF (by omega)]; exact c,d⟩
 .subst b
  exact ⟨t,l,ys,by rw [aD (by omega),le,a,Nat.sub_self]; rfl,ht,hl,hd⟩
structure Xe (K:Frag) (n:Nat) (B:Int) (H:Hp) (dss:List (List Addr)) (rms:List (Str × List Dr)):Prop where
 len:rms.length = dss.length
 at_:∀ (j:Nat) (ds:List Addr) (g:Str × List Dr),dss[j]? = some ds->rms[j]? = some g->uG K n B (rms.map (·.1)) H H ds g.2
theorem abx {so:Int} (s0:0 <= so) (s3:so <= 3):eU D (clsOf D so):=by
 unfold eU
 obtain rfl | rfl | rfl | rfl:so = 0\/so = 1\/so = 2\/so = 3:=by omega
 all_goals simp [clsOf]
theorem wY {as:List Addr} {H:Hp} (hls:∀ l ∈ as,∃ zs,H l = some (.lst zs)) {b:Addr} {u:HO} (nu:∀ zs,u ≠ .lst zs) (e:H b = some u):del as H b = some u:=iJ (fun z=>by
 obtain ⟨zs,hz⟩:=hls b z
 rw [hz] at e
 injection e with e
 exact nu zs e.symm) e
theorem WF.off {as:List Addr} {H:Hp} (hls:∀ l ∈ as,∃ zs,H l = some (.lst zs)) {xs:List V} {gs:List (Str × Int × Int)} {ws:List (Str × Addr)} (h:WF K H xs gs ws):WF K (del as H) xs gs ws:=by
 refine h.imp (fun t ys e=>wY hls (by intro z y; cases y) e) fun c xs e=>?_
 rcases e with (e | ⟨o,e⟩) | e
 .exact .inl (.inl (wY hls (by intro z y; cases y) e))
 .exact .inl (.inr ⟨o,wY hls (by intro z y; cases y) e⟩)
 .exact .inr e
def Jl (K:Frag) (D:Adr):Sp:=fun vs H Q _=>∃ (c x y:Int) (p r:Addr) (xs:List V) (dss:List (List Addr)) (n m:Nat) (B:Int),vs = [.int c,.ref p,.ref r]/\H p = some (.tup [.int x,.int y])/\0 <= x/\x < y/\y <= 100/\Int.gcd x y = 1/\H r = some (.lst xs)/\RD n B H xs dss/\dss.length = n/\n <= 12/\m <= 12/\(∀ ds ∈ dss,ds.length <= m) /\
 ∀ (o:Addr) (H':Hp) (rms:List (Str × List Dr)),Same H H'->H o = none->oX D H' o p rms->Ru rms->Xe K n B H' dss rms->Q (.ref o) H'
def hlJ (K:Frag) (D:Adr) (σ0:List (Option V)) (D1:Addr) (n:Nat) (B:Int) (ns:List Str) (dss:List (List Addr)) (H H1:Hp) (k:Nat) (σ:L2.St) (H':Hp):Prop:=∃ (u5 u6:Option V) (zs:List V) (rms:List (Str × List Dr)),σ = σ0 ++ [u5,u6]/\Same H1 H'/\H' D1 = some (.lst zs)/\mF D (del [D1] H') zs rms/\rms.map (·.1) = ns.take k/\(∀ g ∈ rms,(g.2.map (·.nm)).Nodup)/\∀ (j:Nat) (ds:List Addr) (g:Str × List Dr),dss[j]? = some ds->rms[j]? = some g->uG K n B ns H (del [D1] H') ds g.2
def dlJ (K:Frag) (D:Adr) (D1 D2:Addr) (n:Nat) (B:Int) (ns ts:List Str) (ds:List Addr) (H H1:Hp) (k:Nat) (zs:List V) (H':Hp):Prop:=∃ gs:List Dr,Same H1 H'/\H' D2 = some (.lst zs)/\vK D (del [D1,D2] H') zs gs/\gs.map (·.nm) = ts.take k/\uG K n B ns H (del [D1,D2] H') (ds.take k) gs
theorem aao (F:Fun K yx yx Ie f fd) (T:Txt K mg D) (Av:OkF P w K mg base 2 uI uE BP) (Je:OkF P w K mg base 8 sW tW (Dy K D)) (JF:OkI P w K mg base (CXO P w) 4 D.Hall_init kE (rE K D)):cC P w K mg base CX0 9 f fd xJ (Jl K D):=by
 refine F.ok yL (fun vs H Q E h=>?_) (fun cdv A outer s H vs Q E hr h=>?_)
 .obtain ⟨c,x,y,p,r,xs,dss,n,m,B,rfl,_⟩:=h
  rfl
 .obtain ⟨c,x,y,p,r,xs,dss,n,m,B,rfl,hp,x0,xy,y1,gx,hrm,rd,ln,n12,m12,hm,q⟩:=h
  refine ⟨_,(bM (cA (i:=3) yL.nd rfl (Or.inr rfl) (bQ Av (hr.mono (by decide)) (by rfl) (bF (pv 0) (bF (b_ d_ (by rfl) T.kI PySem.boot_len (bF (pv 2) bH)) bH))))
   (bM (cA (i:=4) yL.nd rfl (Or.inl rfl) (lY bH))
   (bM (iV PassesOwn.never rfl (jo (by rfl) T.nZ (bF (b_ d_ (by rfl) T.kI PySem.boot_len (bF (pv 2) bH)) bH).mono) (cH (i:=5) yL.nd rfl (Or.inl rfl))
    (bM (cA (i:=6) yL.nd rfl (Or.inl rfl) (bQ Av (hr.mono (by decide)) (by rfl) (bF (bU cZ (pv 0) (pv 5)) (bF (b_ d_ (by rfl) T.kI PySem.boot_len (bF (bV bY (pv 2) (pv 5) (fun _ _=>rfl)) bH)) bH))))
    (bO (dD (sU (pv 4) (bF (j6 (bF (bV bY (pv 3) (pv 5) (fun _ _=>rfl)) (bF (jM (bN Ie) OD OD ["_law_title", "_law_door_here"] (Pu (by rfl) T.Va (bF (pv 6) (bF (bV bY (pv 2) (pv 5) (fun _ _=>rfl)) bH)).mono) (iD (n:=2) rfl (cD (eG (i:=0)) (cD (eG (i:=1)) gO))) dj (bQ Je (hr.mono (by decide)) (by rfl) (bF (pv 0) (bF (pv 1) (bF (pv 5) bH))))) bH))) bH))))))
   (bO (cu (uH T.ZC JF (hr.mono (by decide)) (by rfl) T.abe yq (bF (pv 1) (bF (pv 4) bH)))))))),?_⟩
  have lx:xs.length = n:=by rw [rd.len,ln]
  have z9:100 < sizeLine:=by decide
  refine cI ⟨_,rfl,_,rfl,r,xs,rfl,hrm,c,n,by rw [lx],n12,fun l0 ns H1 S1 f0 hl0 lns wns nns=>cI ⟨bA _,fun D1 hD1=>dO (qt ?_)⟩⟩
  refine ⟨_,rfl,r,xs,rfl,(bL (bI (S1 _ _ hrm) hD1)).trans (S1 _ _ hrm),n,by rw [lx],by omega,hlJ K D [some (.int c),some (.ref p),some (.ref r),some (.ref l0),some (.ref D1)] D1 n B ns dss H H1,⟨none,none,[],[],rfl,Same.upd hD1,bK,⟨rfl,fun k g e=>by simp at e⟩,rfl,by simp,fun j ds g _ e=>by simp at e⟩,?_,?_⟩
  .rintro k σ' H' hk ⟨u5,u6,zs,rms,rfl,S2,hD,hR,hn,hd,hi⟩
   have ed:dss[k]? = some (dss[k]'(by omega)):=aj _
   have em:=aW (l:=dss) (n:=k) (by omega)
   have en:ns[k]? = some (ns[k]'(by omega)):=aj _
   generalize dss[k]'(by omega) = ds at ed em
   generalize ns[k]'(by omega) = nk at en
   have dm:=hm ds em
   obtain ⟨lk,ek,hlk,dd⟩:=rd.at_ k ds ed
   have SH:=S1.trans S2
   refine ⟨_,rfl,_,rfl,_,_,rfl,rfl,_,rfl,_,rfl,_,_,_,_,rfl,rfl,SH _ _ hrm,cg ek,lk,_,rfl,SH _ _ hlk,_,ds.length,by rw [ao],by omega,fun l1 ts H3 S3 f3 hl3 lts wts nts=>⟨_,rfl,D1,_,rfl,S3 _ _ hD,_,rfl,_,rfl,_,_,_,_,rfl,rfl,S3 _ _ (S2 _ _ hl0),cg (by rw [au,en]; rfl),MF (Cw ?_)⟩⟩
   have SH3:=SH.trans S3
   have S13:=S2.trans S3
   refine ⟨_,rfl,_,rfl,_,rfl,_,_,_,_,rfl,rfl,SH3 _ _ hrm,cg ek,l1,lk,_,_,rfl,hl3,SH3 _ _ hlk,by rw [ao,ao,lts],by rw [ao]; omega,fun D2 hD2=>⟨dlJ K D D1 D2 n B ns ts ds H H3,⟨[],Same.upd hD2,bK,⟨rfl,fun k g e=>by simp at e⟩,rfl,⟨rfl,fun j d g _ e=>by simp at e⟩⟩,?_,?_⟩⟩
   .rintro j xv yv zs2 Hc t hx hy ⟨gs,S5,h5,dr,gn,ri⟩ hz ht ha hb pre hpre
    obtain ⟨u1,u2,rfl⟩:=wG hpre
    rw [au] at hx hy
    have lj:j < ds.length:=by
     by_cases z:j < ds.length
     .exact z
     .rw [List.getElem?_eq_none (by omega)] at hy
      cases hy
    have e1:ts[j]? = some (ts[j]'(by omega)):=aj _
    have e2:ds[j]? = some ds[j]:=aj _
    rw [e1] at hx
    rw [e2] at hy
    cases hx
    cases hy
    generalize ts[j]'(by omega) = tj at e1 ⊢
    generalize ds[j] = d at e2 ⊢
    obtain ⟨p1,lp,so,x1,y2,S',rs,ws,ps,a1,a2,a3,a4,a5,a6,a7⟩:=(dd d (aC e2)).ex
    obtain ⟨nms,no⟩:=Uy (ns:=ns) (rs:=rs) fun r hr=>by rw [lns]; exact a7.1.lt r hr
    have SHc:Same H Hc:=SH3.trans S5
    have SU:=SHc.trans (Same.upd ht (o:=.tup [.str tj,.ref d]))
    have hl0c:=Same.upd ht (o:=.tup [.str tj,.ref d]) _ _ (S5 _ _ (S13 _ _ hl0))
    refine ⟨_,_,rfl,bK,rfl,⟨_,_,rfl,_,_,rfl,rfl,[_,_],rfl,rfl,⟨_,rfl,_,rfl,_,rfl,so,d,l0,lp,p1,tj,x1,y2,S',rs,ws,ps,ns,nms,rfl,SU _ _ a1,wts _ (aC e1),⟨.inl (.inl (SU _ _ a2)),a3,a4.gcd⟩,SU _ _ a5,a6.same SU,hl0c,no,a7.1.drawn no wns,fun H4 s ld ys us S6 fs fld d1=>?_⟩⟩⟩
    have S7:Same Hc H4:=(Same.upd ht).trans S6
    have hD4:H4 D1 = some (.lst zs):=S7 _ _ (S5 _ _ (S3 _ _ hD))
    have h54:=S7 _ _ h5
    have hls:∀ l ∈ [D1,D2],∃ zs,H4 l = some (.lst zs):=fun l hl=>by
     simp only [List.mem_cons,List.not_mem_nil,or_false] at hl
     rcases hl with rfl | rfl
     .exact ⟨_,hD4⟩
     .exact ⟨_,h54⟩
    have nw:∀ b,upd Hc t (.tup [.str tj,.ref d]) b = none->b ∉ [D1,D2]:=fun b hb z=>by
     simp only [List.mem_cons,List.not_mem_nil,or_false] at z
     rcases z with rfl | rfl
     .rw [Same.upd ht _ _ (S5 _ _ (S3 _ _ hD))] at hb
      cases hb
     .rw [Same.upd ht _ _ h5] at hb
      cases hb
    obtain ⟨dx,hs⟩:=d1.at_
    have wo:=d1.wf.off hls
    have st:Same (del [D1,D2] Hc) (del [D1,D2] H4):=ug fun b o _ e=>S7 _ _ e
    have di:xQ K n B ns H (del [D1,D2] H4) d ⟨tj,p1,us⟩:=⟨p1,lp,so,x1,y2,S',rs,ws,ps,ys,nms,a1,a2,a3,a4,a5,a6,a7,no,rfl,wo⟩
    refine ⟨h54,S7 _ _ ha,S7 _ _ hb,gs ++ [⟨tj,p1,us⟩],fun b u e=>(bL (bI e hD2)).trans (S7 _ _ (S5 _ _ e)),bK,?_,?_,?_⟩
    .rw [xT (by simp)]
     exact (dr.same st).snoc ⟨clsOf D so,dx,ld,ys,abx a7.1.s0 a7.1.s3,iJ (nw _ fs) hs,iJ (nw _ fld) d1.hl,wo.ways,aN di.few.1 (by decide)⟩
    .rw [bC,gn,cF e1]; rfl
    .rw [xT (by simp),cF e2]
     exact (ri.on st).snoc di
   .rintro zs2 Hc ⟨gs,S5,h5,dr,gn,ri⟩ hz
    rw [ao,aM (aG _)] at gn
    rw [ao,aM (by omega)] at ri
    have rk:rms.length = k:=by
     have:=congrArg List.length hn
     rw [ao,bw] at this
     omega
    have zl:=hR.len
    have hDc:Hc D1 = some (.lst zs):=S5 _ _ (S3 _ _ hD)
    have n12':D1 ≠ D2:=bI (S3 _ _ hD) hD2
    refine ⟨d8,fun t2 g2=>?_⟩
    have n1:D1 ≠ t2:=bI hDc g2
    have st:Same (del [D1] H') (del [D1] (upd Hc t2 (.tup [.str nk,.ref D2]))):=ug fun b o _ e=>Same.upd g2 _ _ (S5 _ _ (S3 _ _ e))
    have s2:Same (del [D1,D2] Hc) (del [D1] (upd Hc t2 (.tup [.str nk,.ref D2]))):=fun b o e=>by
     obtain ⟨a,e⟩:=pO e
     exact iJ (by simp at a ⊢; exact a.1) (Same.upd g2 _ _ e)
    refine ⟨_,zs,rfl,(bL n1).trans hDc,by omega,some (.int k),some (.ref l1),zs ++ [.ref t2],rms ++ [(nk,gs)],rfl,fun b u e=>(bL (bI e hD1)).trans (Same.upd g2 _ _ (S5 _ _ (S13 _ _ e))),bK,?_,?_,?_,?_⟩
    .rw [xT (by simp)]
     exact (hR.same st).snoc (iJ (by simp; exact n1.symm) bK) (iJ (by simp; exact n12'.symm) ((bL (bI h5 g2)).trans h5)) (dr.same s2)
    .rw [bC,hn,cF en]; rfl
    .intro g hg
     rcases List.mem_append.mp hg with hg | hg
     .exact hd g hg
     .rw [List.mem_singleton.mp hg,gn]; exact nts
    .intro j ds' g h1 h2
     rw [xT (by simp)]
     rcases lB h2 with ⟨_,b⟩ | ⟨a,rfl⟩
     .exact (hi j ds' g h1 b).on st
     .rw [a,rk,ed] at h1
      cases h1
      exact ri.on s2
  .rintro σ' H' ⟨u5,u6,zs,rms,rfl,S2,hD,hR,hn,hd,hi⟩
   refine ⟨_,rfl,_,rfl,fun o dx g1 g2 g3=>?_⟩
   have SM:Same H' (upd (upd H' dx (.own o)) o (.ins D.Hall dx [])):=fun b u e=>by rw [bL (bI e g1),bL (bI e g2)]; exact e
   have SH:=S1.trans S2
   rw [aM (by omega)] at hn
   have rl:rms.length = n:=by rw [<- lns,<- hn,ao]
   have ri:∀ g ∈ rms,∃ ds ∈ dss,uG K n B ns H (del [D1] H') ds g.2:=fun g hg=>by
    obtain ⟨j,hj⟩:=aX hg
    have lj:j < dss.length:=by have:=(aq.mp hj).1; omega
    exact ⟨_,aW lj,hi j _ g (aj lj) hj⟩
   have ok:Ru rms:=by
    refine ⟨by omega,by rw [hn]; exact nns,fun g hg=>wns _ (by rw [<- hn]; exact List.mem_map_of_mem hg),fun g hg=>?_,hd,fun g hg d hd' z hz=>?_⟩
    .obtain ⟨ds,h1,h2⟩:=ri g hg
     have:=hm ds h1
     have:=h2.len
     omega
    .obtain ⟨ds,h1,h2⟩:=ri g hg
     obtain ⟨_,h3⟩:=h2.mem hd'
     rw [hn]
     exact h3.few.2 z hz
   refine ⟨o,dx,p,D1,x,y,zs,rms,rfl,bK,⟨.inl (.inl (SM _ _ (SH _ _ hp))),by omega,gx⟩,x0,xy,Bd.sm (by omega),Bd.sm (by omega),SM _ _ hD,(hR.same tL).same SM,ok,fun H5 kp hh=>⟨rfl,?_⟩⟩
   have SS:Same H' H5:=fun b u e=>kp b u (bI e g1) (SM b u e)
   refine q o H5 rms (SH.trans SS) (Same.free SH g1) hh ok ⟨by rw [rl,ln],fun j ds g h1 h2=>?_⟩
   rw [hn]
   exact ((hi j ds g h1 h2).on (tL.trans SS)).up (SH.trans SS)
def wsum (gs:List (Str × Int)) (h:Str->Rat):Rat:=(gs.map fun g=>(g.2:Rat) * h g.1).sum
theorem mq {g:Str × Int} {gs:List (Str × Int)} {h:Str->Rat} : wsum (g :: gs) h = (g.2:Rat) * h g.1 + wsum gs h:=rfl
theorem ace {a:Str × Int} {as:List (Str × Int)} {r:Str} {y:Int} (n:a.1 ≠ r):Ac.put (a :: as) r y = a :: Ac.put as r y:=by
 unfold Ac.put
 rw [List.any_cons,decide_eq_false n,Bool.false_or]
 split
 .rw [List.map_cons,if_neg n]
 .rfl
theorem abr {a:Str × Int} {as:List (Str × Int)} {r:Str} {y:Int} (e:a.1 = r) (n:r ∉ as.map (·.1)):Ac.put (a :: as) r y = (a.1,y) :: as:=by
 unfold Ac.put
 rw [List.any_cons,decide_eq_true e,Bool.true_or,if_pos rfl,List.map_cons,if_pos e]
 congr 1
 have:as.map (fun g=>if g.1 = r then (g.1,y) else g) = as.map id:=List.map_congr_left fun g hg=>if_neg fun (z:g.1 = r)=>n (List.mem_map.mpr ⟨g,hg,z⟩)
 rw [this,List.map_id]
theorem ZD {a:Str × Int} {as:List (Str × Int)} {r:Str} (n:a.1 ≠ r):Ac.look (a :: as) r = Ac.look as r:=by
 unfold Ac.look
 rw [List.find?_cons,decide_eq_false n]
theorem aas {a:Str × Int} {as:List (Str × Int)} {r:Str} (e:a.1 = r):Ac.look (a :: as) r = a.2:=by
 unfold Ac.look
 rw [List.find?_cons,decide_eq_true e]; rfl
theorem KR {h:Str->Rat} {r:Str} {y:Int} : ∀ {as:List (Str × Int)},(as.map (·.1)).Nodup->wsum (Ac.put as r y) h = wsum as h + ((y:Rat) - (Ac.look as r:Rat)) * h r
 | [],_=>by
  show (y:Rat) * h r + 0 = 0 + ((y:Rat) - ((0:Int):Rat)) * h r
  rw [Rat.intCast_zero]
  grind
 | a :: as,nd=>by
  rw [List.map_cons,List.nodup_cons] at nd
  by_cases e:a.1 = r
  .rw [abr e (e ▸ nd.1),aas e,mq,mq,e]
   grind
  .rw [ace e,ZD e,mq,mq,KR nd.2]
   grind
theorem Gs {h:Str->Rat} : ∀ {gs acc:List (Str × Int)},(acc.map (·.1)).Nodup->wsum (gs.foldl (fun a g=>Ac.put a g.1 (Ac.look a g.1 + g.2)) acc) h = wsum acc h + wsum gs h
 | [],acc,_=>by
  show wsum acc h = wsum acc h + 0
  rw [Rat.add_zero]
 | g :: gs,acc,nd=>by
  rw [List.foldl_cons,Gs (Ac.XS nd _ _),KR nd,mq,Rat.intCast_add]
  grind
theorem TV {h:Str->Rat} {gs:List (Str × Int)} : wsum (Ac.iW gs) h = wsum gs h:=by
 have:=Gs (h:=h) (gs:=gs) (acc:=[]) List.nodup_nil
 have z:wsum [] h = 0:=rfl
 rw [z,Rat.zero_add] at this
 exact this
theorem aaY {t b:Int} (hb:0 < b):vl (Ac.lw t b) = (t:Rat) / (b:Rat):=Yc (y:=(t,b)) (Ac.jD hb) hb (Ac.xr hb)
def qe (ns:List Str) (gs:List (Str × Int)) (S:Int):List (Nat × Int × Int):=(Ac.ways gs S).map fun g=>(ns.idxOf g.1,g.2)
theorem Mj {ns:List Str} {S:Int} (hS:0 < S) {G:Nat->Rat} : ∀ {acc:List (Str × Int)},(∀ g ∈ acc,0 <= g.2)->j4 (((acc.filter fun g=>decide (0 < g.2)).map fun g=>(g.1,Ac.lw g.2 S)).map fun g=>(ns.idxOf g.1,g.2)) G = wsum acc (fun n=>G (ns.idxOf n)) / (S:Rat)
 | [],_=>by
  show (0:Rat) = 0 / (S:Rat)
  grind
 | a :: acc,h=>by
  have ih:=Mj (ns:=ns) hS (G:=G) (acc:=acc) fun g hg=>h g (aJ _ hg)
  have a0:=h a aP
  have:=eV hS
  rw [mq,List.filter_cons]
  by_cases e:0 < a.2
  .rw [if_pos (decide_eq_true e),List.map_cons,List.map_cons]
   show vl (Ac.lw a.2 S) * G (ns.idxOf a.1) + j4 _ G = _
   rw [ih,aaY hS]
   grind
  .rw [if_neg (by simp [e]),ih]
   have z:a.2 = 0:=by omega
   rw [z,Rat.intCast_zero]
   grind
theorem U7 {ns:List Str} {gs:List (Str × Int)} {S:Int} (hS:0 < S) (lo:∀ g ∈ gs,0 <= g.2) {G:Nat->Rat} : j4 (qe ns gs S) G = wsum gs (fun n=>G (ns.idxOf n)) / (S:Rat):=by
 unfold qe Ac.ways
 rw [Mj hS fun g hg=>((Ac.tH gs lo).2.2 g hg).1,TV]
def zT (rs:List Nat) (ws:List Int) (S:Int):List (Nat × Int × Int):=List.zipWith (fun r x=>(r,Ac.lw x S)) rs ws
theorem acB {ns:List Str} (nd:ns.Nodup) {r:Nat} {m:Str} (h:ns[r]? = some m):ns.idxOf m = r:=by
 have lm:ns.idxOf m < ns.length:=List.idxOf_lt_length_of_mem (aC h)
 have e:ns[ns.idxOf m]? = some m:=by rw [aj lm,List.getElem_idxOf lm]
 exact qm nd e h
theorem K9 {ns:List Str} (nd:ns.Nodup) {S:Int} (hS:0 < S) {G:Nat->Rat} : ∀ {rs:List Nat} {nms:List Str} {ws:List Int},xG ns rs nms->j4 (zT rs ws S) G = wsum (nms.zip ws) (fun n=>G (ns.idxOf n)) / (S:Rat)
 | [],nms,ws,h=>by
  have e:nms = []:=List.eq_nil_of_length_eq_zero h.1
  subst e
  show (0:Rat) = 0 / (S:Rat)
  grind
 | r :: rs,[],_,h=>by cases h.1
 | r :: rs,m :: nms,[],h=>by
  show (0:Rat) = 0 / (S:Rat)
  grind
 | r :: rs,m :: nms,x :: ws,h=>by
  have ih:=K9 nd hS (G:=G) (rs:=rs) (nms:=nms) (ws:=ws) ⟨Nat.succ.inj h.1,fun k r' m' e1 e2=>h.2 (k + 1) r' m' e1 e2⟩
  have e0:=acB nd (h.2 0 r m rfl rfl)
  show vl (Ac.lw x S) * G r + j4 (zT rs ws S) G = _
  rw [ih,aaY hS,List.zip_cons_cons,mq,e0]
  have:=eV hS
  grind
structure z8 (n:Nat) (H:Hp) (d:Addr) (fc:(Int × Int) × List (Nat × Int × Int)):Prop where
 ex:∃ (p lp:Addr) (so S:Int) (rs:List Nat) (ws:List Int) (ps:List V),H d = some (.tup [.int so,.ref p,.ref lp])/\H p = some (.tup [.int fc.1.1,.int fc.1.2])/\H lp = some (.lst ps)/\PI H ps rs ws S/\qY n so rs ws S/\∀ G,j4 fc.2 G = j4 (zT rs ws S) G
theorem z8.same {n:Nat} {H H':Hp} {d:Addr} {fc:(Int × Int) × List (Nat × Int × Int)} (h:z8 n H d fc) (S:Same H H'):z8 n H' d fc:=by
 obtain ⟨p,lp,so,S',rs,ws,ps,a,b,c,e,f,g⟩:=h.ex
 exact ⟨p,lp,so,S',rs,ws,ps,S _ _ a,S _ _ b,S _ _ c,e.same S,f,g⟩
theorem WF.get {H:Hp} : ∀ {xs:List V} {gs:List (Str × Int × Int)} {ws:List (Str × Addr)} {k:Nat} {g:Str × Addr},WF K H xs gs ws->ws[k]? = some g->∃ x,gs[k]? = some (g.1,x)/\SqT K H g.2 [.int x.1,.int x.2]
 | _,_,_,_,_,.nil,e=>by simp at e
 | _,_,_,0,_,.cons (x:=x) (y:=y) h1 h2 r,e=>by
  rw [List.getElem?_cons_zero] at e
  cases e
  exact ⟨(x,y),rfl,h2⟩
 | _,_,_,k + 1,_,.cons h1 h2 r,e=>by
  rw [List.getElem?_cons_succ] at e ⊢
  exact r.get e
theorem WF.len2 {H:Hp} : ∀ {xs:List V} {gs:List (Str × Int × Int)} {ws:List (Str × Addr)},WF K H xs gs ws->ws.length = gs.length
 | _,_,_,.nil=>rfl
 | _,_,_,.cons _ _ r=>congrArg (· + 1) r.len2
structure DQ (B:Int) (fc:(Int × Int) × List (Nat × Int × Int)):Prop where
 f0:0 < fc.1.2
 big:fc.1.1.natAbs <= 10 ^ 30
 few:fc.2.length <= 41
 ex:∃ M:Nat,0 < M/\(M:Int) <= B/\fc.1.2 ∣ (M:Int)/\∀ c ∈ fc.2,0 < c.2.2/\c.2.2 ∣ (M:Int)/\0 <= c.2.1/\c.2.1 <= c.2.2
theorem adx {u S:Int} (hS:0 < S) (u0:0 <= u) (u1:u <= S):0 <= (Ac.lw u S).1/\(Ac.lw u S).1 <= (Ac.lw u S).2:=by
 have p:=Ac.jD (t:=u) hS
 have e:=Ac.xr (t:=u) hS
 generalize (Ac.lw u S).1 = x at *
 generalize (Ac.lw u S).2 = y at *
 constructor
 .refine Int.not_lt.mp fun z=>?_
  have h1:x * S < 0:=Int.mul_neg_of_neg_of_pos z hS
  have h2:0 <= u * y:=Int.mul_nonneg u0 (by omega)
  omega
 .refine Int.not_lt.mp fun z=>?_
  have h1:y * S < x * S:=Int.mul_lt_mul_of_pos_right z hS
  have h2:u * y <= S * y:=Int.mul_le_mul_of_nonneg_right u1 (by omega)
  have h3:S * y = y * S:=Int.mul_comm ..
  omega
theorem xQ.fc {n:Nat} {B:Int} {ns:List Str} {H:Hp} {d:Addr} {g:Dr} (h:xQ K n B ns H H d g) (nd:ns.Nodup) (ln:ns.length = n):∃ fc:(Int × Int) × List (Nat × Int × Int),DrN K H ns g fc.1 fc.2/\zY n fc.1 fc.2/\z8 n H d fc/\DQ B fc:=by
 have few:=h.few
 obtain ⟨p,lp,so,x,y,S,rs,ws,ps,xs,nms,a1,a2,a3,a4,a5,a6,⟨a7,hyS⟩,a8,a9,b⟩:=h.ex
 have lo:∀ z ∈ nms.zip ws,0 <= z.2:=fun z hz=>a7.lo _ (List.of_mem_zip (a:=z.1) (b:=z.2) hz).2
 have sa:=a4.sa
 have sb:=a4.sb
 have S0:=a7.pos
 have S1:=a7.le
 have wl:=b.len2
 have key:∀ z ∈ Ac.ways (nms.zip ws) S,z.1 ∈ ns:=fun z hz=>by
  have hm:z.1 ∈ g.ws.map (·.1):=by rw [b.keys]; exact List.mem_map_of_mem hz
  obtain ⟨u,hu,e⟩:=List.mem_map.mp hm
  rw [<- e]
  exact few.2 u hu
 have fr:∀ z ∈ Ac.ways (nms.zip ws) S,Fq z.2/\z.2.2 ∣ S/\0 <= z.2.1/\z.2.1 <= z.2.2:=fun z hz=>by
  unfold Ac.ways at hz
  obtain ⟨u,hu,rfl⟩:=List.mem_map.mp hz
  obtain ⟨hu1,hu2⟩:=List.mem_filter.mp hu
  have q:=(Ac.tH _ lo).2.2 u hu1
  have sm:((nms.zip ws).map (·.2)).sum = S:=by
   have:(nms.zip ws).map (·.2) = ws:=List.map_snd_zip (by have:=a8.1; have:=a7.len; omega)
   rw [this]; exact a7.sum
  rw [sm] at q
  have b1:=Ac.BL u.2 S
  have b2:=Ac.zQ u.2 S
  exact ⟨⟨Ac.jD S0,Ac.wA S0,by show (Ac.lw u.2 S).1.natAbs <= _; omega,by show (Ac.lw u.2 S).2.natAbs <= _; omega⟩,Int.ediv_dvd_of_dvd (Int.gcd_dvd_right u.2 S),adx S0 q.1 q.2⟩
 refine ⟨((x,y),qe ns (nms.zip ws) S),⟨by rw [a9]; exact a2,by unfold qe; rw [ao,wl],fun k u c e1 e2=>?_⟩,⟨⟨a3,aN sa (by decide),?_⟩,?_,fun c hc=>?_,?_⟩,⟨p,lp,so,S,rs,ws,ps,a1,a2,a5,a6,a7,fun G=>?_⟩,⟨a3,sa,?_,(y * S).toNat,?_,?_,?_,fun c hc=>?_⟩⟩
 .obtain ⟨z,ez,hz⟩:=b.get e1
  unfold qe at e2
  rw [au,ez] at e2
  cases e2
  have lm:ns.idxOf u.1 < ns.length:=List.idxOf_lt_length_of_mem (few.2 u (aC e1))
  exact ⟨by rw [aj lm,List.getElem_idxOf lm],hz⟩
 .unfold Bn
  have:(10:Nat) ^ 40 = 10 ^ 3 * 10 ^ 37:=by decide
  show y.natAbs <= _
  omega
 .unfold qe
  rw [ao,<- wl]
  have:=few.1
  omega
 .unfold qe at hc
  obtain ⟨z,hz,rfl⟩:=List.mem_map.mp hc
  exact ⟨by rw [<- ln]; exact List.idxOf_lt_length_of_mem (key z hz),(fr z hz).1⟩
 .have dv:lvB (chF (qe ns (nms.zip ws) S)) ∣ S.natAbs:=Lv.yN.mpr fun c hc=>by
   unfold TF chF qe at hc
   obtain ⟨f,hf,rfl⟩:=List.mem_map.mp hc
   obtain ⟨c2,hc2,rfl⟩:=List.mem_map.mp hf
   obtain ⟨z,hz,rfl⟩:=List.mem_map.mp hc2
   exact Int.natAbs_dvd_natAbs.mpr (fr z hz).2.1
  have le:=Nat.le_of_dvd (by omega) dv
  unfold Bn
  rw [Int.natAbs_natCast]
  show lvB (chF (qe ns (nms.zip ws) S)) <= _
  have:(10:Nat) ^ 20 <= 10 ^ 60:=by decide
  omega
 .show j4 (qe ns (nms.zip ws) S) G = _
  rw [U7 S0 lo,K9 nd S0 a8]
 .unfold qe
  rw [ao,<- wl]
  have:=few.1
  omega
 .have:=Int.mul_pos a3 S0
  omega
 .have:=Int.mul_pos a3 S0
  rw [Int.toNat_of_nonneg (by omega)]; exact hyS
 .have:=Int.mul_pos a3 S0
  rw [Int.toNat_of_nonneg (by omega)]; exact Int.dvd_mul_right _ _
 .have:=Int.mul_pos a3 S0
  rw [Int.toNat_of_nonneg (by omega)]
  unfold qe at hc
  obtain ⟨z,hz,rfl⟩:=List.mem_map.mp hc
  obtain ⟨q1,q2,q3,q4⟩:=fr z hz
  exact ⟨q1.pos,Int.dvd_trans q2 (Int.dvd_mul_left _ _),q3,q4⟩
theorem uM {α β:Type} : ∀ {l:List α} {P:Nat->α->β->Prop},(∀ k a,l[k]? = some a->∃ b,P k a b)->∃ m:List β,m.length = l.length/\∀ k a b,l[k]? = some a->m[k]? = some b->P k a b
 | [],_,_=>⟨[],rfl,fun k a b e=>by simp at e⟩
 | a :: l,P,h=>by
  obtain ⟨b,hb⟩:=h 0 a rfl
  obtain ⟨m,lm,hm⟩:=uM (l:=l) (P:=fun k=>P (k + 1)) fun k a e=>h (k + 1) a e
  refine ⟨b :: m,congrArg (· + 1) lm,fun k a' b' e1 e2=>?_⟩
  cases k with
  | zero =>
   cases e1
   cases e2
   exact hb
  | succ k=>exact hm k a' b' e1 e2
theorem uG.fcs {n:Nat} {B:Int} {ns:List Str} {H:Hp} {ds:List Addr} {gs:List Dr} (h:uG K n B ns H H ds gs) (nd:ns.Nodup) (ln:ns.length = n):∃ fcs:List ((Int × Int) × List (Nat × Int × Int)),RZ K H ns n gs fcs/\fcs.length = ds.length/\∀ (k:Nat) d fc,ds[k]? = some d->fcs[k]? = some fc->z8 n H d fc/\DQ B fc:=by
 obtain ⟨m,lm,hm⟩:=uM (l:=ds) (P:=fun k d (fc:(Int × Int) × List (Nat × Int × Int))=>∀ g,gs[k]? = some g->DrN K H ns g fc.1 fc.2/\zY n fc.1 fc.2/\z8 n H d fc/\DQ B fc) fun k d e=>by
  have lk:k < gs.length:=by rw [h.len]; exact (aq.mp e).1
  obtain ⟨fc,p⟩:=(h.at_ k d _ e (aj lk)).fc nd ln
  exact ⟨fc,fun g eg=>by rw [aj lk] at eg; cases eg; exact p⟩
 refine ⟨m,⟨by rw [h.len,lm],fun k d fc e1 e2=>?_⟩,lm,fun k d fc e1 e2=>?_⟩
 .have lk:k < ds.length:=by rw [<- lm]; exact (aq.mp e2).1
  obtain ⟨a,b,_⟩:=hm k _ fc (aj lk) e2 d e1
  exact ⟨a,b⟩
 .have lk:k < gs.length:=by rw [h.len]; exact (aq.mp e1).1
  exact (hm k d fc e1 e2 _ (aj lk)).2.2
structure aaS (n:Nat) (H:Hp) (ds:List Addr) (fcs:List ((Int × Int) × List (Nat × Int × Int))):Prop where
 len:fcs.length = ds.length
 at_:∀ (j:Nat) d fc,ds[j]? = some d->fcs[j]? = some fc->z8 n H d fc
structure Ek (H:Hp) (r:Addr) (fcss:List (List ((Int × Int) × List (Nat × Int × Int)))):Prop where
 ex:∃ xs,H r = some (.lst xs)/\xs.length = fcss.length/\∀ (k:Nat) fcs,fcss[k]? = some fcs->∃ l ds,xs[k]? = some (.ref l)/\H l = some (.lst (ds.map V.ref))/\ds.length <= 64/\aaS fcss.length H ds fcs
theorem Ek.same {H H':Hp} {r:Addr} {fcss:List (List ((Int × Int) × List (Nat × Int × Int)))} (S:Same H H') (h:Ek H r fcss):Ek H' r fcss:=by
 obtain ⟨xs,a,b,c⟩:=h.ex
 refine ⟨xs,S _ _ a,b,fun k fcs e=>?_⟩
 obtain ⟨l,ds,d1,d2,d3,d4⟩:=c k fcs e
 exact ⟨l,ds,d1,S _ _ d2,d3,d4.len,fun j d fc e1 e2=>(d4.at_ j d fc e1 e2).same S⟩
theorem VN {n m:Nat} {B:Int} {H:Hp} {o p r:Addr} {x y:Int} {xs:List V} {dss:List (List Addr)} {rms:List (Str × List Dr)} (hh:oX D H o p rms) (ok:Ru rms) (hi:Xe K n B H dss rms) (hp:H p = some (.tup [.int x,.int y])) (x0:0 <= x) (xy:x < y) (y1:y <= 100) (hr:H r = some (.lst xs)) (rd:RD n B H xs dss) (ld:dss.length = n) (n12:n <= 12) (dm:∀ ds ∈ dss,ds.length <= m) (m3:m <= 3) :
  ∃ fcss,fcss.length = n/\yO K D H o (x,y) fcss/\Ek H r fcss/\∀ fcs ∈ fcss,fcs.length <= m/\∀ fc ∈ fcs,DQ B fc:=by
 have rl:rms.length = n:=by rw [hi.len,ld]
 have b:∀ z:Int,0 <= z->z <= 100->Bn 40 z:=fun z h1 h2=>by unfold Bn; omega
 have fw:∀ g ∈ rms,∀ d ∈ g.2,d.ws.length <= 100:=fun g hg d hd=>by
  obtain ⟨j,hj⟩:=aX hg
  have lj:j < dss.length:=by rw [<- hi.len]; exact (aq.mp hj).1
  obtain ⟨_,z⟩:=(hi.at_ j _ g (aj lj) hj).mem hd
  exact aN z.few.1 (by decide)
 obtain ⟨fcss,fl,hf⟩:=uM (l:=rms) (P:=fun k g (fcs:List ((Int × Int) × List (Nat × Int × Int)))=>RZ K H (rms.map (·.1)) n g.2 fcs/\(∃ l ds,xs[k]? = some (.ref l)/\H l = some (.lst (ds.map V.ref))/\ds.length <= 64/\aaS n H ds fcs)/\fcs.length <= m/\∀ fc ∈ fcs,DQ B fc) fun k g eg=>by
  have lk:k < n:=by rw [<- rl]; exact (aq.mp eg).1
  have ed:dss[k]? = some (dss[k]'(by omega)):=aj _
  have ri:=hi.at_ k _ _ ed eg
  obtain ⟨l,a1,a2,_⟩:=rd.at_ k _ ed
  obtain ⟨fcs,d1,d2,d3⟩:=ri.fcs ok.nd (by rw [ao,rl])
  have dl:=dm _ (aC ed)
  refine ⟨fcs,d1,⟨l,_,a1,a2,by omega,d2,fun j d fc e1 e2=>(d3 j d fc e1 e2).1⟩,by omega,fun fc hfc=>?_⟩
  obtain ⟨j,ej⟩:=aX hfc
  have lj:j < (dss[k]'(by omega)).length:=by rw [<- d2]; exact (aq.mp ej).1
  exact (d3 j _ fc (aj lj) ej).2
 have fn:fcss.length = n:=by rw [fl,rl]
 refine ⟨fcss,fn,⟨⟨p,rms,hh,⟨ok.len,ok.few,fw⟩,ok.nd,hp,by rw [fl],fun k g fcs e1 e2=>by rw [fn]; exact (hf k g fcs e1 e2).1⟩,by show 0 < y; omega,b _ x0 (by show x <= 100; omega),b _ (by show 0 <= y; omega) y1,by omega⟩,⟨xs,hr,by rw [rd.len,ld,fn],fun k fcs e=>?_⟩,fun fcs hfc=>?_⟩
 .have lk:k < rms.length:=by rw [<- fl]; exact (aq.mp e).1
  rw [fn]
  exact (hf k _ fcs (aj lk) e).2.1
 .obtain ⟨k,e⟩:=aX hfc
  have lk:k < rms.length:=by rw [<- fl]; exact (aq.mp e).1
  exact (hf k _ fcs (aj lk) e).2.2
theorem Qa {B:Int} : ∀ (l:List ((Int × Int) × List (Nat × Int × Int))),(∀ fc ∈ l,DQ B fc)->∃ M:Nat,0 < M/\(M:Int) <= B ^ l.length/\∀ fc ∈ l,fc.1.2 ∣ (M:Int)/\∀ c ∈ fc.2,c.2.2 ∣ (M:Int)
 | [],_=>⟨1,by decide,by simp,by simp⟩
 | fc :: l,h=>by
  obtain ⟨M,m0,m1,hm⟩:=Qa l fun z hz=>h z (aJ _ hz)
  obtain ⟨N,n0,n1,d,c⟩:=(h fc aP).ex
  refine ⟨M * N,Nat.mul_pos m0 n0,?_,fun z hz=>?_⟩
  .rw [Int.natCast_mul,List.length_cons,Int.pow_succ]
   exact Int.mul_le_mul m1 n1 (by omega) (by omega)
  .rw [Int.natCast_mul]
   rcases List.mem_cons.mp hz with rfl | hz
   .exact ⟨Int.dvd_trans d (Int.dvd_mul_left _ _),fun x hx=>Int.dvd_trans (c x hx).2.1 (Int.dvd_mul_left _ _)⟩
   .exact ⟨Int.dvd_trans (hm z hz).1 (Int.dvd_mul_right _ _),fun x hx=>Int.dvd_trans ((hm z hz).2 x hx) (Int.dvd_mul_right _ _)⟩
theorem Ma {α:Type} {m:Nat} : ∀ {l:List (List α)},(∀ x ∈ l,x.length <= m)->l.flatten.length <= m * l.length
 | [],_=>by simp
 | x :: l,h=>by
  have h1:=Ma (l:=l) fun y hy=>h y (aJ _ hy)
  have h2:=h x aP
  rw [List.flatten_cons,aB,List.length_cons,Nat.mul_add,Nat.mul_one]
  omega
theorem abV {n m:Nat} {sm:Bool} {x y:Int} {fcss:List (List ((Int × Int) × List (Nat × Int × Int)))} (sz:V6 n m sm) (fn:fcss.length = n) (x0:0 <= x) (xy:x < y) (y1:y <= hB sm) (h:∀ fcs ∈ fcss,fcs.length <= rN sm/\∀ fc ∈ fcs,DQ (mB sm) fc):∃ L,Xb (x,y) fcss L/\L ^ m <= 10 ^ 480:=by
 obtain ⟨M,m0,m1,hm⟩:=Qa (B:=mB sm) fcss.flatten fun fc hf=>by
  obtain ⟨fcs,a,b⟩:=List.mem_flatten.mp hf
  exact (h fcs a).2 fc b
 obtain ⟨z,rfl⟩ : ∃ z:Nat,y = z:=⟨y.toNat,by omega⟩
 refine ⟨z * M,⟨x0,by show x <= (z:Int); omega,by show 0 < (z:Int); omega,Nat.mul_pos (by omega) m0,fun fcs a fc b=>?_⟩,?_⟩
 .have dm:=(h fcs a).2 fc b
  obtain ⟨d1,d2⟩:=hm fc (List.mem_flatten.mpr ⟨fcs,a,b⟩)
  obtain ⟨N,_,_,_,c⟩:=dm.ex
  refine ⟨dm.f0,?_,dm.big,dm.few,fun k hk=>⟨(c k hk).1,?_,(c k hk).2.2⟩⟩
  .rw [Int.natCast_mul]; exact Int.dvd_trans d1 (Int.dvd_mul_left _ _)
  .rw [Int.natCast_mul]; exact Int.mul_dvd_mul (Int.dvd_refl _) (d2 k hk)
 .have fl:=Ma (m:=rN sm) fun fcs a=>(h fcs a).1
  rw [fn] at fl
  have lim:∀ (A b:Nat),(z:Int) <= (A:Int)->(mB sm = (b:Int))->0 < b->(z * M) ^ m <= (A * b ^ (rN sm * n)) ^ m:=fun A b h1 h2 h3=>by
   refine Nat.pow_le_pow_left (Nat.mul_le_mul (by omega) ?_) _
   rw [h2,<- Int.natCast_pow] at m1
   exact aN (Int.ofNat_le.mp m1) (Nat.pow_le_pow_right h3 fl)
  have up:∀ {a b c:Nat} {X:Nat},0 < a->a ^ b <= X->c <= b->a ^ c <= X:=fun h0 h1 h2=>aN (Nat.pow_le_pow_right h0 h2) h1
  have m40:=sz.m40
  rcases sz.ok with ⟨rfl,c⟩ | ⟨rfl,c⟩
  .refine aN (lim 4 12 y1 rfl (by decide)) ?_
   show (4 * 12 ^ (2 * n)) ^ m <= _
   rcases c with ⟨c1,c2⟩ | c1
   .have:4 * 12 ^ (2 * n) <= 4 * 12 ^ 4:=Nat.mul_le_mul_left _ (Nat.pow_le_pow_right (by decide) (by omega))
    exact aN (Nat.pow_le_pow_left this m) (up (b:=14) (by decide) (by decide +kernel) c2)
   .have:4 * 12 ^ (2 * n) <= 4 * 12 ^ 2:=Nat.mul_le_mul_left _ (Nat.pow_le_pow_right (by decide) (by omega))
    exact aN (Nat.pow_le_pow_left this m) (up (b:=40) (by decide) (by decide +kernel) m40)
  .refine aN (lim 100 4004000 y1 rfl (by decide)) ?_
   show (100 * 4004000 ^ (3 * n)) ^ m <= _
   have n12:=sz.n12
   rcases c with c1 | c1 | ⟨c1,c2⟩
   .subst c1
    exact up (b:=40) (by decide) (by decide +kernel) m40
   .have:100 * 4004000 ^ (3 * n) <= 100 * 4004000 ^ 36:=Nat.mul_le_mul_left _ (Nat.pow_le_pow_right (by decide) (by omega))
    exact aN (Nat.pow_le_pow_left this m) (up (b:=2) (by decide +kernel) (by decide +kernel) c1)
   .have:100 * 4004000 ^ (3 * n) <= 100 * 4004000 ^ 12:=Nat.mul_le_mul_left _ (Nat.pow_le_pow_right (by decide) (by omega))
    exact aN (Nat.pow_le_pow_left this m) (up (b:=5) (by decide +kernel) (by decide +kernel) c2)
theorem Tv {K:Frag} {tl te:TE} {σ:L2.St} {H:Hp} {Q:VK} (vs:List V) (h:tl σ H fun x H1=>∃ a xs,x = .ref a/\H1 a = some (.lst xs)/\xs.length = vs.length/\vs.length <= sizeLine/\(∀ (k:Nat) x y Hc (R:VK),xs[k]? = some x->vs[k]? = some y->Same H1 Hc->(∀ H2,Same Hc H2->R y H2)->te (some x :: σ) Hc R) /\
  ∀ D Hc,Same H1 Hc->H1 D = none->Hc D = some (.lst vs)->Q (.ref D) Hc) (mono:∀ {σ H} {R R':VK},(∀ v H,R v H->R' v H)->tl σ H R->tl σ H R'):lX (Dp K (tM tl)) 1 (tMG (cU 0)) (tMT Lw) (tM te) σ H Q:=by
 refine dH (mono (fun x H1 ⟨a,xs,e,ha,l,sz,hb,q⟩=>⟨a,xs,e,ha,by omega,fun D hD=>⟨vJ D H1 vs,⟨Same.upd hD,bK,rfl⟩,fun k x ys Hc hk j hy hc=>?_,fun ys Hc ⟨S1,h1,ey⟩ hy=>?_⟩⟩) h)
 .have lk:k < vs.length:=by rw [<- l]; exact (aq.mp hk).1
  exact hb k x _ Hc _ hk (aj lk) j.1 fun H2 S=>⟨S _ _ j.2.1,S _ _ hc,j.next hD S (aj lk)⟩
 .rw [l,aQ] at ey
  subst ey
  exact q D Hc S1 hD h1
theorem Wa {i:Nat} {σ:L2.St} {H:Hp} {R R':VK} (h:∀ v H,R v H->R' v H):FZ i σ H R->FZ i σ H R':=fun ⟨v,a,b⟩=>⟨v,a,h _ _ b⟩
theorem sV {K:Frag} {i:Nat} {te:TE} {σ:L2.St} {H:Hp} {Q:VK} {a:Addr} {xs:List V} (vs:List V) (hσ:σ[i]? = some (some (.ref a))) (ha:H a = some (.lst xs)) (l:xs.length = vs.length) (sz:vs.length <= sizeLine) (hb:∀ (k:Nat) x y Hc (R:VK),xs[k]? = some x->vs[k]? = some y->Same H Hc->(∀ H2,Same Hc H2->R y H2)->te (some x :: σ) Hc R)
  (q:∀ D Hc,Same H Hc->H D = none->Hc D = some (.lst vs)->Q (.ref D) Hc):lX (Dp K (tM (FZ i))) 1 (tMG (cU 0)) (tMT Lw) (tM te) σ H Q:=Tv vs ⟨_,hσ,a,xs,rfl,ha,l,sz,hb,q⟩ Wa
theorem SN {K:Frag} {tl:TE} {g:TG} {tb:TS} {D:Ends} {σ:L2.St} {H:Hp} (h:tl σ H fun x H1=>∃ a xs,x = .ref a/\SqT K H1 a xs/\∃ J:Nat->L2.St->Hp->Prop,J 0 σ H1/\(∀ k σ' H',J k σ' H'->SqT K H' a xs) /\
   (∀ k x σ' H',xs[k]? = some x->J k σ' H'->g x σ' H' fun σ2 H2=>tb { D with nx:=J (k + 1),ct:=J (k + 1),bk:=D.nx } σ2 H2) /\
   ∀ σ' H',J xs.length σ' H'->D.nx σ' H'):Nv (afF K (tM tl)) g tb D σ H:=by
 refine ⟨_,h,?_⟩
 rintro x H1 ⟨a,xs,rfl,hx,J,j0,jx,step,fin⟩
 refine ⟨a,rfl,⟨xs,hx⟩,fun k m σ' H'=>k <= xs.length/\m = xs.length - k/\J k σ' H',⟨_,bA _,rfl,j0⟩,?_⟩
 rintro k m σ' H' ⟨hk,rfl,j⟩
 by_cases e:k = xs.length
 .subst e
  exact .inl ⟨⟨xs,jx _ _ _ j,aG _⟩,fin σ' H' j⟩
 .have hlt:k < xs.length:=by omega
  have e1:xs[k]? = some xs[k]:=aj hlt
  refine .inr ⟨⟨xs,_,jx _ _ _ j,e1⟩,J (k + 1),fun σ3 H3 z=>⟨xs.length - (k + 1),by omega,by omega,rfl,z⟩,?_⟩
  rintro x H'' ⟨rfl,y⟩
  exact step k x σ' H'' (y xs (jx _ _ _ j)) j
def Pg (K:Frag):Sp:=fun vs H Q _=>∃ (p:Addr) (a b:Int),vs = [.ref p]/\SqT K H p [.int a,.int b]/\0 < b/\Int.gcd a b = 1/\Q (.bl true) H
theorem Jq (F:Fun K lM lM sI f fd) (T:Txt K mg D) (Gr:OkF P w K mg base 1 zy zx CT):cC P w K mg base CX0 2 f fd kj (Pg K):=by
 refine F.ok w6 (fun vs H Q E h=>?_) (fun cdv A outer s H vs Q E hr h=>?_)
 .obtain ⟨p,a,b,rfl,_⟩:=h
  rfl
 .obtain ⟨p,a,b,rfl,hp,b0,g1,q⟩:=h
  refine ⟨_,(bM (cY (PW.pt (pw_or (d9 (dz (b_ (lV.or pH) (by rfl) T.cG boot_isinstance (bF (pv 0) (bF (mY (v:=.ty "tuple") (by rfl) T.Qz boot_tuple rfl) bH))) (fun _=>rfl))) (pw_or1 (cQ Gq (b_ Gv (by rfl) T.kI PySem.boot_len (bF (pv 0) bH)) bG (cN _)))))
    (bO (cu iC))
    cB)
   (bM (iV PassesOwn.never rfl (abq ((pv 0)).mono) (cH (i:=1) w6.nd rfl (Or.inl rfl))
    (bO (cY (PW.pt (pw_or (d9 (dz (b_ (lV.or pH) (by rfl) T.cG boot_isinstance (bF (pv 1) (bF (mY (v:=.ty "int") (by rfl) T.GF boot_int rfl) bH))) (fun _=>rfl))) (pw_or1 (dz (b_ (lV.or pH) (by rfl) T.cG boot_isinstance (bF (pv 1) (bF (mY (v:=.ty "bool") (by rfl) T.W9 boot_bool rfl) bH))) (fun _=>rfl)))))
     (bO (cu iC))
     cB)))
   (bO (cu (Bs (mQ GR (bV cJ (pv 0) bG (fun _ _=>rfl)) bG (cN _)) (Hv (mQ nR (bQ Gr (hr.mono (by decide)) (by rfl) (bF (bV cJ (pv 0) bG (fun _ _=>rfl)) (bF (bV cJ (pv 0) bG (fun _ _=>rfl)) bH))) bG (cN _)))))))),?_⟩
  refine cj fun R1 hR1=>?_
  refine dO ⟨_,rfl,.inr ⟨p,_,_,rfl,by simp,hp,true,rfl,_,rfl,p,_,rfl,hp,rfl,false,rfl,?_⟩⟩
  show R1 _ _ _
  subst hR1
  refine dO (SN ⟨_,rfl,p,_,rfl,hp,fun _ σ H'=>(∃ u,σ = [some (.ref p),u])/\H' = H,⟨⟨none,rfl⟩,rfl⟩,(fun k σ' H' ⟨_,e⟩=>e ▸ hp),?_,?_⟩)
  .rintro k x σ' H' hk ⟨⟨u,rfl⟩,rfl⟩
   obtain ⟨i,rfl⟩ : ∃ i,x = .int i:=by
    match k with
    | 0=>cases hk; exact ⟨_,rfl⟩
    | 1=>cases hk; exact ⟨_,rfl⟩
    | k + 2=>simp at hk
   exact ⟨_,rfl,.inl ⟨_,_,_,rfl,by simp,rfl,true,rfl,_,rfl,.inl ⟨_,_,_,rfl,by simp,rfl,false,rfl,⟨_,rfl⟩,rfl⟩⟩⟩
  .rintro σ' H' ⟨⟨u,rfl⟩,rfl⟩
   dsimp only
   refine eY ⟨_,rfl,p,_,1,_,rfl,rfl,hp,cV,b,0,rfl,rfl,true,congrArg V.bl (decide_eq_true b0),?_⟩
   rw [if_pos rfl]
   refine ⟨_,rfl,p,_,0,_,rfl,rfl,hp,dB,_,rfl,p,_,1,_,rfl,rfl,hp,cV,a,b,rfl,rfl,?_⟩
   rw [g1]
   exact q
def Nj (K:Frag):Sp:=fun vs H Q _=>∃ (l:Addr) (zs:List V) (fs:List (Int × Int)) (n:Nat),vs = [.ref l,.int n]/\H l = some (.lst zs)/\FLK K H zs fs/\fs.length = n/\n <= 100/\(∀ f ∈ fs,0 < f.2/\Int.gcd f.1 f.2 = 1)/\∀ H',Same H H'->Q (.bl true) H'
theorem Gg (F:Fun K jN jN nW f fd) (T:Txt K mg D) (rW:OkF P w K mg base 2 lM kj (Pg K)):cC P w K mg base CX0 3 f fd jV (Nj K):=by
 refine F.ok Eu (fun vs H Q E h=>?_) (fun cdv A outer s H vs Q E hr h=>?_)
 .obtain ⟨l,zs,fs,n,rfl,_⟩:=h
  rfl
 .obtain ⟨l,zs,fs,n,rfl,hl,fl,fn,n100,al,q⟩:=h
  have z9:100 < sizeLine:=by decide
  have zl:zs.length = n:=by rw [fl.length,fn]
  refine ⟨_,(bM (cY (PW.pt (pw_or (d9 (dz (b_ lV (by rfl) T.cG boot_isinstance (bF (pv 0) (bF (mY (v:=.ty "list") (by rfl) T.JW boot_list rfl) bH))) (fun _=>rfl))) (pw_or1 (cQ Gq (b_ d_ (by rfl) T.kI PySem.boot_len (bF (pv 0) bH)) (pv 1) (cN _)))))
    (bO (cu iC))
    cB)
   (bO (cu (b_ (zP rfl) (by rfl) T.Xz boot_all (bF (jM (bN nW) qQ qQ ["_law_one"] (cX ((pv 0)).mono) (eG (i:=0)) dj (bQ rW (hr.mono (by decide)) (by rfl) (bF (pv 0) bH))) bH))))),?_⟩
  refine cj fun R1 hR1=>?_
  refine dO ⟨_,rfl,_,_,_,rfl,by simp,Ri hl,true,rfl,_,rfl,l,_,rfl,hl,_,rfl,rfl,false,congrArg (fun b=>V.bl (!b)) (decide_eq_true (by rw [zl])),?_⟩
  show R1 _ _ _
  subst hR1
  refine eY (NP (sV (List.replicate n (.bl true)) rfl hl (by rw [aO,zl]) (by rw [aO]; omega) ?_ fun l2 H2 S2 f2 h2=>?_))
  .intro k x y Hc R hk hy Sc r
   obtain ⟨t,f,rfl,ef,ht⟩:=fl.get hk
   obtain ⟨b0,g1⟩:=al f (aC ef)
   rw [List.getElem?_replicate] at hy
   have ey:y = .bl true:=by
    split at hy
    .exact (Option.some.inj hy).symm
    .cases hy
   subst ey
   exact ⟨_,rfl,t,_,_,rfl,Sc.tup ht,b0,g1,r Hc fun _ _ z=>z⟩
  .refine ⟨l2,List.replicate n true,rfl,by rw [h2,List.map_replicate],?_⟩
   have e:(List.replicate n true).all id = true:=List.all_eq_true.mpr fun x hx=>(List.mem_replicate.mp hx).2
   rw [e]
   exact q H2 S2
def JH (K:Frag):Sp:=fun vs H Q _=>∃ (p q:Addr) (f g:Int × Int),vs = [.ref p,.ref q]/\SqT K H p [.int f.1,.int f.2]/\SqT K H q [.int g.1,.int g.2]/\Fb f/\Fb g/\∀ b:Bool,(b = true ↔ vl f = vl g)->Q (.bl b) H
theorem YC (F:Fun K xO xO s_same f fd) (T:Txt K mg D):cC P w K mg base CX0 1 f fd wU (JH K):=by
 refine F.ok Y4 (fun vs H Q E h=>?_) (fun cdv A outer s H vs Q E hr h=>?_)
 .obtain ⟨p,q,f,g,rfl,_⟩:=h
  rfl
 .obtain ⟨p,q,f,g,rfl,hp,hq,bf,bg,k⟩:=h
  refine ⟨_,(bO (cu (mQ nR (bU cM (bV cJ (pv 0) bG (fun _ _=>rfl)) (bV cJ (pv 1) bG (fun _ _=>rfl))) (bU cM (bV cJ (pv 1) bG (fun _ _=>rfl)) (bV cJ (pv 0) bG (fun _ _=>rfl))) (cN _)))),?_⟩
  refine eY ⟨_,rfl,p,_,0,_,rfl,rfl,hp,dB,_,rfl,q,_,1,_,rfl,rfl,hq,cV,_,_,rfl,rfl,⟨bf.bx,bg.b_y⟩,_,rfl,q,_,0,_,rfl,rfl,hq,dB,_,rfl,p,_,1,_,rfl,rfl,hp,cV,_,_,rfl,rfl,⟨bg.bx,bf.b_y⟩,rfl,k _ ?_⟩
  rw [decide_eq_true_iff]
  exact ⟨fun z=>Yc bf.pos bg.pos (by injection z),fun z=>congrArg V.int (Uu bf.pos bg.pos z)⟩
def Cu (K:Frag):Sp:=fun vs H Q _=>∃ (p q:Addr) (f g:Int × Int),vs = [.ref p,.ref q]/\SqT K H p [.int f.1,.int f.2]/\SqT K H q [.int g.1,.int g.2]/\Fb f/\Fb g/\∀ b:Bool,(b = true ↔ vl f < vl g)->Q (.bl b) H
theorem Wq (F:Fun K uf uf Kl f fd) (T:Txt K mg D):cC P w K mg base CX0 1 f fd tQ (Cu K):=by
 refine F.ok Xa (fun vs H Q E h=>?_) (fun cdv A outer s H vs Q E hr h=>?_)
 .obtain ⟨p,q,f,g,rfl,_⟩:=h
  rfl
 .obtain ⟨p,q,f,g,rfl,hp,hq,bf,bg,k⟩:=h
  refine ⟨_,(bO (cu (mQ zZ (bU cM (bV cJ (pv 0) bG (fun _ _=>rfl)) (bV cJ (pv 1) bG (fun _ _=>rfl))) (bU cM (bV cJ (pv 1) bG (fun _ _=>rfl)) (bV cJ (pv 0) bG (fun _ _=>rfl))) (cN _)))),?_⟩
  exact eY ⟨_,rfl,p,_,0,_,rfl,rfl,hp,dB,_,rfl,q,_,1,_,rfl,rfl,hq,cV,_,_,rfl,rfl,⟨bf.bx,bg.b_y⟩,_,rfl,q,_,0,_,rfl,rfl,hq,dB,_,rfl,p,_,1,_,rfl,rfl,hp,cV,_,_,rfl,rfl,⟨bg.bx,bf.b_y⟩,_,_,rfl,rfl,k _ ((decide_eq_true_iff (p:=f.1 * g.2 < g.1 * f.2)).trans (aaZ bf.pos bg.pos).symm)⟩
theorem V9 {cs:List (Nat × Int × Int)} {c:Nat × Int × Int} {G:Nat->Rat} : j4 (cs ++ [c]) G = j4 cs G + vl c.2 * G c.1:=by
 induction cs with
 | nil =>
  show vl c.2 * G c.1 + 0 = 0 + vl c.2 * G c.1
  rw [Rat.add_zero,Rat.zero_add]
 | cons a cs ih =>
  show vl a.2 * G a.1 + j4 (cs ++ [c]) G = vl a.2 * G a.1 + j4 cs G + vl c.2 * G c.1
  rw [ih,Rat.add_assoc]
theorem Q7:∀ {l:List Int},(∀ x ∈ l,0 <= x)->0 <= l.sum/\∀ x ∈ l,x <= l.sum
 | [],_=>⟨Int.le_refl _,by simp⟩
 | a :: l,h=>by
  obtain ⟨h1,h2⟩:=Q7 (l:=l) fun x hx=>h x (aJ _ hx)
  have h0:=h a aP
  rw [List.sum_cons]
  refine ⟨by omega,fun x hx=>?_⟩
  rcases List.mem_cons.mp hx with rfl | hx
  .omega
  .have:=h2 x hx
   omega
theorem aeW {n:Nat} {so:Int} {rs:List Nat} {ws:List Int} {S x:Int} (h:qY n so rs ws S) (hx:x ∈ ws):Bn 20 (Ac.lw x S).1/\Bn 20 (Ac.lw x S).2:=by
 have h1:=(Q7 h.lo).2 x hx
 rw [h.sum] at h1
 have h2:=h.lo x hx
 have h3:=h.le
 have h4:=h.pos
 have b1:=Ac.BL x S
 have b2:=Ac.zQ x S
 constructor <;> unfold Bn <;> omega
def Wb (fs:List (Int × Int)):Prop:=∀ f ∈ fs,0 < f.2/\Bn 576 f.1/\Bn 480 f.2
def Jh (K:Frag):Sp:=fun vs H Q _=>∃ (p d l:Addr) (s:Int × Int) (n:Nat) (fc:(Int × Int) × List (Nat × Int × Int)) (xs:List V) (fs:List (Int × Int)),vs = [.ref p,.ref d,.ref l]/\H p = some (.tup [.int s.1,.int s.2])/\0 < s.2/\Bn 40 s.1/\Bn 40 s.2/\z8 n H d fc/\0 < fc.1.2/\Bn 40 fc.1.1/\Bn 40 fc.1.2/\H l = some (.lst xs)/\FLK K H xs fs/\Wb fs/\fs.length = n /\
 ∀ r z y H',Same H H'->H' r = some (.tup [.int z,.int y])->0 < y->Bd z->Bd y->vl (z,y) = nU s fc.1 fc.2 fs->Q (.ref r) H'
theorem aaJ (F:Fun K wQ wQ Ou f fd) (T:Txt K mg D):cC P w K mg base CX0 1 f fd yw (Jh K):=by
 refine F.ok mJ (fun vs H Q E h=>?_) (fun cdv A outer s H vs Q E hr h=>?_)
 .obtain ⟨p,d,l,s,n,fc,xs,fs,rfl,_⟩:=h
  rfl
 .obtain ⟨p,d,l,sh,n,fc,xs,fs,rfl,hp,s0,b1,b2,ld,f0,f1,f2,hl,fl,fq,fn,q⟩:=h
  obtain ⟨pp,lp,so,S,rs,ws,ps,hd,hpp,hlp,pi,dr,be⟩:=ld.ex
  refine ⟨_,(bM (cA (i:=3) mJ.nd rfl (Or.inl rfl) bG)
   (bM (cA (i:=4) mJ.nd rfl (Or.inl rfl) bG)
   (bM (iV PassesOwn.never rfl (cX ((bV cJ (pv 1) bG (fun _ _=>rfl))).mono) (iD (n:=2) rfl (cD (cH (i:=5) mJ.nd rfl (Or.inl rfl)) (cD (cH (i:=6) mJ.nd rfl (Or.inl rfl)) gO)))
    (bM (cA (i:=7) mJ.nd rfl (Or.inl rfl) (bU cM (bV cJ (pv 6) bG (fun _ _=>rfl)) (bV cJ (bV bY (pv 2) (pv 5) (fun _ _=>rfl)) bG (fun _ _=>rfl))))
    (bM (cA (i:=3) mJ.nd rfl (Or.inl rfl) (bU cZ (bU cM (pv 3) (pv 7)) (bU cM (bU cM (bV cJ (pv 6) bG (fun _ _=>rfl)) (bV cJ (bV bY (pv 2) (pv 5) (fun _ _=>rfl)) bG (fun _ _=>rfl))) (pv 4))))
    (bO (cA (i:=4) mJ.nd rfl (Or.inl rfl) (bU cM (pv 4) (pv 7)))))))
   (bM (cA (i:=3) mJ.nd rfl (Or.inl rfl) (bU cM (pv 3) (bV cJ (pv 0) bG (fun _ _=>rfl))))
   (bM (cA (i:=4) mJ.nd rfl (Or.inl rfl) (bU cM (pv 4) (bV cJ (pv 0) bG (fun _ _=>rfl))))
   (bO (cu (dG (bF (bU cZ (bU cM (bV cJ (bV cJ (pv 1) bG (fun _ _=>rfl)) bG (fun _ _=>rfl)) (pv 4)) (bU cM (pv 3) (bV cJ (bV cJ (pv 1) bG (fun _ _=>rfl)) bG (fun _ _=>rfl)))) (bF (bU cM (pv 4) (bV cJ (bV cJ (pv 1) bG (fun _ _=>rfl)) bG (fun _ _=>rfl))) bH)))))))))),?_⟩
  refine cI ?_
  refine cI ?_
  have pl:(zT rs ws S).length = rs.length:=by unfold zT; rw [List.length_zipWith,dr.len,Nat.min_self]
  refine cj fun R1 hR1=>?_
  refine dO (fY ⟨_,rfl,d,_,2,_,rfl,rfl,.of hd,cg (j:=2) rfl,lp,ps,rfl,hlp,fun k σ H'=>∃ (t b:Int) (u5 u6 u7:Option V),σ = [some (.ref p),some (.ref d),some (.ref l),some (.int t),some (.int b),u5,u6,u7]/\H' = H/\0 < b/\Bn (501 * k + 96) t/\Bn (500 * k) b/\vl (t,b) = j4 ((zT rs ws S).take k) (wq fs),⟨0,1,none,none,none,rfl,rfl,by decide,bA _,aG _,?_⟩,?_,?_⟩)
  .show ((0:Int):Rat) / ((1:Int):Rat) = 0
   rw [Rat.intCast_zero]
   grind
  .rintro k x σ' H' hk ⟨t,b,u5,u6,u7,rfl,rfl,b0,bt,bb,v⟩ hx
   have lk:k < rs.length:=by rw [<- pi.len]; exact (aq.mp hk).1
   have k8:=dr.l8
   have er:rs[k]? = some rs[k]:=aj lk
   have ew:ws[k]? = some (ws[k]'(by rw [<- dr.len]; exact lk)):=aj _
   obtain ⟨tt,c,e1,e2,e3⟩:=pi.at_ k _ _ er ew
   rw [hk] at e1
   cases e1
   have lr:=dr.lt _ (aW lk)
   obtain ⟨c1,c2⟩:=aeW dr (aC ew)
   have c0:=Ac.jD (t:=ws[k]'(by rw [<- dr.len]; exact lk)) dr.pos
   have ep:(zT rs ws S)[k]? = some (rs[k],Ac.lw (ws[k]'(by rw [<- dr.len]; exact lk)) S):=by unfold zT; rw [List.getElem?_zipWith,er,ew]
   generalize ws[k]'(by rw [<- dr.len]; exact lk) = wk at *
   generalize rs[k] = r at *
   have xl:r < xs.length:=by rw [fl.length,fn]; exact lr
   have ex:xs[r]? = some xs[r]:=aj xl
   obtain ⟨wp,g,eg,ef,hw⟩:=fl.get ex
   rw [eg] at ex
   obtain ⟨g0,g1,g2⟩:=fq g (aC ef)
   have eq:wq fs r = vl g:=by unfold wq; rw [aA,ef]; rfl
   generalize Ac.lw wk S = C at *
   have bp:Bn 500 (C.2 * g.2):=Bn.mul c2 g2
   have bd:∀ {a:Nat} {z:Int},Bn a z->a <= 2400->Bd z:=fun h l=>h.bd l
   refine ⟨tt,_,rfl,e2,rfl,_,_,rfl,_,_,rfl,rfl,?_⟩
   dsimp only [cU,List.set_cons_succ,List.set_cons_zero]
   refine cI ⟨_,rfl,c,_,1,_,rfl,rfl,.of e3,cV,_,rfl,_,rfl,l,xs,_,_,rfl,rfl,hl,cg ex,wp,_,1,_,rfl,rfl,hw,cV,_,_,rfl,rfl,⟨bd c2 (by decide),bd g2 (by decide)⟩,?_⟩
   dsimp only [cU,List.set_cons_succ,List.set_cons_zero]
   refine cI ⟨_,rfl,_,rfl,_,_,rfl,rfl,⟨bd bt (by omega),bd bp (by decide)⟩,_,rfl,c,_,0,_,rfl,rfl,.of e3,dB,_,rfl,_,rfl,l,xs,_,_,rfl,rfl,hl,cg ex,wp,_,0,_,rfl,rfl,hw,dB,_,_,rfl,rfl,⟨bd c1 (by decide),bd g1 (by decide)⟩,_,rfl,_,_,rfl,rfl,⟨bd (Bn.mul c1 g1) (by decide),bd bb (by omega)⟩,_,_,rfl,rfl,?_⟩
   dsimp only [cU,List.set_cons_succ,List.set_cons_zero]
   refine ⟨_,rfl,_,rfl,_,_,rfl,rfl,⟨bd bb (by omega),bd bp (by decide)⟩,hlp,_,_,_,_,_,rfl,rfl,Int.mul_pos b0 (Int.mul_pos c0 g0),?_,?_,?_⟩
   .have:=Bn.add (a:=501 * k + 596) ((Bn.mul bt bp).up (by omega)) ((Bn.mul (Bn.mul c1 g1) bb).up (by omega))
    exact this.up (by omega)
   .exact (Bn.mul bb bp).up (by omega)
   .rw [cF ep,V9,<- v]
    have e1:=Ol (x:=t) (y:=b) (u:=C.1 * g.1) (v:=C.2 * g.2) b0 (Int.mul_pos c0 g0)
    have e2:=Dc (x:=C.1) (y:=C.2) (u:=g.1) (v:=g.2) c0 g0
    rw [e2] at e1
    show vl (t * (C.2 * g.2) + C.1 * g.1 * b,b * (C.2 * g.2)) = vl (t,b) + vl C * wq fs r
    rw [eq]
    exact e1
  .rintro σ' H' ⟨t,b,u5,u6,u7,rfl,rfl,b0,bt,bb,v⟩ hx
   rw [pi.len,<- pl,aQ,<- be] at v
   have k8:=dr.l8
   rw [pi.len] at bt bb
   have bt:Bn 2100 t:=bt.up (by omega)
   have bb:Bn 2000 b:=bb.up (by omega)
   subst hR1
   dsimp only
   refine cI ⟨_,rfl,_,rfl,p,_,0,_,rfl,rfl,.of hp,dB,_,_,rfl,rfl,⟨bt.bd (by decide),b1.bd (by decide)⟩,?_⟩
   dsimp only [cU,List.set_cons_succ,List.set_cons_zero]
   refine cI ⟨_,rfl,_,rfl,p,_,1,_,rfl,rfl,.of hp,cV,_,_,rfl,rfl,⟨bb.bd (by decide),b2.bd (by decide)⟩,?_⟩
   dsimp only [cU,List.set_cons_succ,List.set_cons_zero]
   have bt2:=Bn.mul bt b1
   have bb2:=Bn.mul bb b2
   refine eY ⟨_,rfl,d,_,1,_,rfl,rfl,.of hd,cV,pp,_,0,_,rfl,rfl,.of hpp,dB,_,rfl,_,_,rfl,rfl,⟨f1.bd (by decide),bb2.bd (by decide)⟩,_,rfl,_,rfl,d,_,1,_,rfl,rfl,.of hd,cV,pp,_,1,_,rfl,rfl,.of hpp,cV,_,_,rfl,rfl,⟨bt2.bd (by decide),f2.bd (by decide)⟩,_,_,rfl,rfl,_,rfl,_,rfl,d,_,1,_,rfl,rfl,.of hd,cV,pp,_,1,_,rfl,rfl,.of hpp,cV,_,_,rfl,rfl,⟨bb2.bd (by decide),f2.bd (by decide)⟩,d8,fun r H2 S2 _ h2=>q r _ _ H2 S2 h2 (Int.mul_pos (Int.mul_pos b0 s0) f0) ?_ ?_ ?_⟩
   .exact (Bn.add (a:=2180) ((Bn.mul f1 bb2).up (by decide)) (Bn.mul bt2 f2)).bd (by decide)
   .exact (Bn.mul bb2 f2).bd (by decide)
   .have e1:=Ol (x:=fc.1.1) (y:=fc.1.2) (u:=t * sh.1) (v:=b * sh.2) f0 (Int.mul_pos b0 s0)
    have e2:=Dc (x:=t) (y:=b) (u:=sh.1) (v:=sh.2) b0 s0
    rw [e2,v] at e1
    unfold nU
    rw [show vl sh * j4 fc.2 (wq fs) = j4 fc.2 (wq fs) * vl sh from Rat.mul_comm _ _,Int.mul_comm (b * sh.2) fc.1.2]
    exact e1
theorem WQ {te:TE} {g:TG} {D:Ends} {σ:L2.St} {H:Hp} (h:te σ H fun x H1=>g x σ H1 D.nx):Ft te g D σ H:=h
theorem N_ {sp:Sp} {te:TE} {t:TA} {σ:L2.St} {H:Hp} {Q:Bool->Hp->Prop} (h:te σ H fun x H1=>t σ H1 fun xs H2=>sp (x :: xs) H2 (fun y H3=>∃ k,Ku y = some k/\Q (!k) H3) E0):RB (Ph (zF sp (sE te t))) σ H Q:=h
theorem aan {r:List V->Hp->VK->Prop} {te:TE} {σ:L2.St} {H:Hp} {Q:Bool->Hp->Prop} (h:te σ H fun x H1=>r [x] H1 fun y H2=>∃ k,Ku y = some k/\Q (!k) H2):RB (Ph (tCB r (sE te Bq))) σ H Q:=h
def Np (K:Frag):Sp:=fun vs H Q _=>∃ (t:Addr) (ls:List Addr) (fss:List (List (Int × Int))) (many n:Nat),vs = [.ref t,.int many,.int n]/\H t = some (.lst (ls.map V.ref))/\Rds K H ls fss/\fss.length = many + 1/\many <= 40/\n <= 100/\(∀ fs ∈ fss,fs.length = n/\∀ f ∈ fs,0 < f.2/\Int.gcd f.1 f.2 = 1)/\∀ H',Same H H'->Q (.bl true) H'
theorem FP (F:Fun K jO jO n8 f fd) (T:Txt K mg D) (rA:OkF P w K mg base 3 jN jV (Nj K)):cC P w K mg base CX0 4 f fd jH (Np K):=by
 refine F.ok Gf (fun vs H Q E h=>?_) (fun cdv A outer s H vs Q E hr h=>?_)
 .obtain ⟨t,ls,fss,many,n,rfl,_⟩:=h
  rfl
 .obtain ⟨t,ls,fss,many,n,rfl,ht,rd,fl,m40,n100,al,q⟩:=h
  have z9:100 < sizeLine:=by decide
  have ll:=rd.len
  have zl:(ls.map V.ref).length = many + 1:=by rw [ao,ll,fl]
  refine ⟨_,(bM (cY (PW.pt (pw_or (d9 (dz (b_ lV (by rfl) T.cG boot_isinstance (bF (pv 0) (bF (mY (v:=.ty "list") (by rfl) T.JW boot_list rfl) bH))) (fun _=>rfl))) (pw_or1 (cQ Gq (b_ d_ (by rfl) T.kI PySem.boot_len (bF (pv 0) bH)) (bU cZ (pv 1) bG) (cN _)))))
    (bO (cu iC))
    cB)
   (bO (cu (b_ (zP rfl) (by rfl) T.Xz boot_all (bF (jM (bN n8) qR qR ["_law_one"] (cX ((pv 0)).mono) (eG (i:=0)) dj (bQ rA (hr.mono (by decide)) (by rfl) (bF (pv 0) (bF (pv 3) bH)))) bH))))),?_⟩
  refine cj fun R1 hR1=>?_
  refine dO ⟨_,rfl,_,_,_,rfl,by simp,Ri ht,true,rfl,_,rfl,t,_,rfl,ht,_,rfl,_,_,rfl,rfl,rfl,false,congrArg (fun b=>V.bl (!b)) (decide_eq_true (by rw [zl]; rfl)),?_⟩
  show R1 _ _ _
  subst hR1
  refine eY (NP (sV (List.replicate (many + 1) (.bl true)) rfl ht (by rw [aO,zl]) (by rw [aO]; omega) ?_ fun l2 H2 S2 f2 h2=>?_))
  .intro k x y Hc R hk hy Sc r
   rw [au] at hk
   cases el:ls[k]? with
   | none=>rw [el] at hk; cases hk
   | some l =>
    rw [el] at hk
    cases hk
    have lk:k < fss.length:=by rw [<- ll]; exact (aq.mp el).1
    have ef:=aj lk
    obtain ⟨zs,a,b⟩:=rd.at_ k l _ el ef
    obtain ⟨c,d⟩:=al _ (aW lk)
    rw [List.getElem?_replicate,if_pos (by omega)] at hy
    cases hy
    exact ⟨_,rfl,_,rfl,l,zs,_,n,rfl,Sc _ _ a,b.same Sc,c,n100,d,fun H' S'=>r H' S'⟩
  .refine ⟨l2,List.replicate (many + 1) true,rfl,by rw [h2,List.map_replicate],?_⟩
   have e:(List.replicate (many + 1) true).all id = true:=List.all_eq_true.mpr fun x hx=>(List.mem_replicate.mp hx).2
   rw [e]
   exact q H2 S2
theorem FT.wb {L k m:Nat} {fs:List (Int × Int)} (h:FT L k fs) (L0:0 < L) (hk:k <= m) (m40:m <= 40) (hm:L ^ m <= 10 ^ 480):Wb fs:=fun f hf=>by
 obtain ⟨a,b,c,d⟩:=h f hf
 have le:L ^ k <= 10 ^ 480:=aN (Nat.pow_le_pow_right L0 hk) hm
 have c':f.2.natAbs ∣ L ^ k:=by
  have:=Int.natAbs_dvd_natAbs.mpr c
  rwa [Int.natAbs_natCast] at this
 have e:f.2.natAbs <= 10 ^ 480:=aN (Nat.le_of_dvd (Nat.pow_pos L0) c') le
 have f42:42 ^ k <= 10 ^ 66:=aN (Nat.pow_le_pow_right (by decide) (aN hk m40)) (by decide +kernel)
 refine ⟨a,aN d ?_,e⟩
 have h1:(10:Nat) ^ 30 * 42 ^ k <= 10 ^ 30 * 10 ^ 66:=Nat.mul_le_mul_left _ f42
 rw [<- Nat.pow_add] at h1
 have h2:=Nat.mul_le_mul h1 e
 rw [<- Nat.pow_add] at h2
 exact h2
theorem yO.pays {H:Hp} {o:Addr} {s:Int × Int} {fcss:List (List ((Int × Int) × List (Nat × Int × Int)))} (h:yO K D H o s fcss):∀ fcs ∈ fcss,∀ fc ∈ fcs,0 < fc.1.2/\Bn 40 fc.1.1/\Bn 40 fc.1.2:=fun fcs a fc b=>by
 obtain ⟨p,rms,_,_,_,_,fl,dn⟩:=h.ex
 obtain ⟨k,ek⟩:=aX a
 have lk:k < rms.length:=by rw [<- fl]; exact (aq.mp ek).1
 have d:=dn k _ fcs (aj lk) ek
 obtain ⟨j,ej⟩:=aX b
 have lj:j < (rms[k]).2.length:=by rw [d.len]; exact (aq.mp ej).1
 exact (d.at_ j _ fc (aj lj) ej).2.pay
theorem Wb.fb {fs:List (Int × Int)} (h:Wb fs) {f:Int × Int} (hf:f ∈ fs):Fb f:=⟨(h f hf).1,(h f hf).2.1.bd (by decide),(h f hf).2.2.bd (by decide)⟩
structure ac0 (K:Frag) (D:Adr) (H:Hp) (p r:Addr) (many:Nat) (ls:List Addr) (s:Int × Int) (fcss:List (List ((Int × Int) × List (Nat × Int × Int)))) (L:Nat) (fss:List (List (Int × Int))):Prop where
 rd:Rds K H ls fss
 len:fss.length = many + 1
 m40:many <= 40
 ro:Rounds s fcss L fss
 L0:0 < L
 hm:L ^ many <= 10 ^ 480
 n12:fcss.length <= 12
 share:H p = some (.tup [.int s.1,.int s.2])
 s0:0 < s.2
 b1:Bn 40 s.1
 b2:Bn 40 s.2
 rooms:Ek H r fcss
 pays:∀ fcs ∈ fcss,∀ fc ∈ fcs,0 < fc.1.2/\Bn 40 fc.1.1/\Bn 40 fc.1.2
def CV (K:Frag) (D:Adr):Sp:=fun vs H Q _=>∃ (t p r:Addr) (many L:Nat) (ls:List Addr) (s:Int × Int) (fcss:List (List ((Int × Int) × List (Nat × Int × Int)))) (fss:List (List (Int × Int))),vs = [.ref t,.int many,.ref p,.ref r]/\H t = some (.lst (ls.map V.ref))/\ac0 K D H p r many ls s fcss L fss/\∀ H',Same H H'->Q (.bl true) H'
theorem Wf (F:Fun K uO uO uZ f fd) (T:Txt K mg D) (rm:OkF P w K mg base 4 jO jH (Np K)) (Pz:OkF P w K mg base 1 wQ yw (Jh K)) (Ig:OkF P w K mg base 1 uf tQ (Cu K)) (Ox:OkF P w K mg base 1 xO wU (JH K)):cC P w K mg base CX0 5 f fd tU (CV K D):=by
 refine F.ok uJ (fun vs H Q E h=>?_) (fun cdv A outer s H vs Q E hr h=>?_)
 .obtain ⟨t,p,r,many,L,ls,s,fcss,fss,rfl,_⟩:=h
  rfl
 .obtain ⟨t,p,r,many,L,ls,sh,fcss,fss,rfl,ht,rl,q⟩:=h
  have z9:101 < sizeLine:=by decide
  obtain ⟨xs,hr',xl,xa⟩:=rl.rooms.ex
  have n12:=rl.n12
  have m40:=rl.m40
  have ll:=rl.rd.len
  have fl:=rl.len
  refine ⟨_,(bM (cY (d9 (dz (bQ rm (hr.mono (by decide)) (by rfl) (bF (pv 0) (bF (pv 1) (bF (b_ d_ (by rfl) T.kI PySem.boot_len (bF (pv 3) bH)) bH)))) (fun _=>rfl)))
    (bO (cu iC))
    cB)
   (bM (iV PassesOwn.never rfl (jo (by rfl) T.nZ (bF (bU cZ (pv 1) bG) bH).mono) (cH (i:=4) uJ.nd rfl (Or.inr rfl))
    (bO (iV PassesOwn.never rfl (jo (by rfl) T.nZ (bF (b_ d_ (by rfl) T.kI PySem.boot_len (bF (pv 3) bH)) bH).mono) (cH (i:=5) uJ.nd rfl (Or.inr rfl))
     (bM (cA (i:=6) uJ.nd rfl (Or.inl rfl) (jA (bF (dG (bF bG (bF bG bH))) bH)))
     (bM (cY (PW.pt (pw_and (cQ GR (pv 4) bG (cN _)) (pw_and1 (cQ GR (b_ d_ (by rfl) T.kI PySem.boot_len (bF (bV bY (pv 3) (pv 5) (fun _ _=>rfl)) bH)) bG (cN _)))))
      (bO (Gy (bN uZ) rC rC ["_law_door_here"] (cX ((bV bY (pv 3) (pv 5) (fun _ _=>rfl))).mono) (eG (i:=0)) dj (bQ Pz (hr.mono (by decide)) (by rfl) (bF (pv 3) (bF (pv 0) (bF (bV bY (pv 1) (bU um (pv 5) bG) (fun _ _=>rfl)) bH)))) (cH (i:=6) uJ.nd rfl (Or.inl rfl))))
      cB)
     (bM (cY (dz (b_ (zH rfl) (by rfl) T.W7 boot_any (bF (jM (bN uZ) rC rC ["_law_one"] (cX ((pv 6)).mono) (eG (i:=0)) dj (bQ Ig (hr.mono (by decide)) (by rfl) (bF (bV bY (bV bY (pv 1) (pv 5) (fun _ _=>rfl)) (pv 6) (fun _ _=>rfl)) (bF (pv 0) bH)))) bH)) (fun _=>rfl))
      (bO (cu iC))
      cB)
     (bO (cY (d9 (dz (b_ (zH rfl) (by rfl) T.W7 boot_any (bF (jM (bN uZ) rC rC ["_law_one"] (cX ((pv 6)).mono) (eG (i:=0)) dj (bQ Ox (hr.mono (by decide)) (by rfl) (bF (bV bY (bV bY (pv 1) (pv 5) (fun _ _=>rfl)) (pv 6) (fun _ _=>rfl)) (bF (pv 0) bH)))) bH)) (fun _=>rfl)))
      (bO (cu iC))
      cB))))))))
   (bO (cu iC)))),?_⟩
  refine cj fun R1 hR1=>?_
  refine dO (N_ ⟨_,rfl,_,rfl,_,rfl,r,_,rfl,hr',t,ls,fss,many,fcss.length,by rw [xl],ht,rl.rd,fl,m40,by omega,fun fs hf=>?_,fun H1 S1=>⟨true,rfl,?_⟩⟩)
  .obtain ⟨k,ek⟩:=aX hf
   obtain ⟨a,b⟩:=rl.ro.ok k fs ek
   exact ⟨b,fun f hf=>⟨(a f hf).1,(a f hf).2.1⟩⟩
  show R1 _ _ _
  subst hR1
  refine cj fun R1 hR1=>?_
  refine dO (qt ⟨_,rfl,_,_,rfl,rfl,many + 1,rfl,by omega,fun _ σ H'=>(∃ u4 u5 u6,σ = [some (.ref t),some (.int many),some (.ref p),some (.ref r),u4,u5,u6])/\Same H1 H',⟨⟨none,none,none,rfl⟩,fun _ _ z=>z⟩,?_,?_⟩)
  .rintro k σ' H2 hk ⟨⟨u4,u5,u6,rfl⟩,S2⟩
   have S12:=S1.trans S2
   have ek:fss[k]? = some (fss[k]'(by omega)):=aj _
   have elk:ls[k]? = some (ls[k]'(by omega)):=aj _
   obtain ⟨zk,hzk,flk⟩:=rl.rd.at_ k _ _ elk ek
   obtain ⟨rok,rln⟩:=rl.ro.ok k _ ek
   have wbk:=rok.wb rl.L0 (m:=many) (by omega) m40 rl.hm
   generalize ls[k]'(by omega) = lk at *
   generalize efs:fss[k]'(by omega) = fs at *
   dsimp only [cU,List.set_cons_succ,List.set_cons_zero]
   refine qt ⟨_,rfl,r,_,rfl,S12 _ _ hr',fcss.length,by rw [xl],by omega,fun _ σ H'=>(∃ u5 u6,σ = [some (.ref t),some (.int many),some (.ref p),some (.ref r),some (.int (k:Nat)),u5,u6])/\Same H1 H',⟨⟨_,_,rfl⟩,S2⟩,?_,?_⟩
   .rintro j σ' H3 hj ⟨⟨u5,u6,rfl⟩,S3⟩
    have S13:=S1.trans S3
    have ej:fcss[j]? = some fcss[j]:=aj hj
    have mj:=aW hj
    obtain ⟨dl,ds,exj,hdl,d64,rml⟩:=xa j _ ej
    have ef:fs[j]? = some (fs[j]'(by omega)):=aj _
    have nxk:0 < k->∃ gs,fss[k - 1]? = some gs/\Cp sh fcss gs fs:=fun k0=>by
     have e1:fss[k - 1]? = some (fss[k - 1]'(by omega)):=aj _
     exact ⟨_,e1,rl.ro.next (k - 1) _ fs e1 (by rw [Nat.sub_add_cancel k0]; exact ek)⟩
    have f0:k = 0->fs[j]'(by omega) = (0,1):=fun k0=>by
     subst k0
     have:=rl.ro.first
     rw [ek] at this
     cases this
     rw [List.getElem_replicate]
    have fx:=wbk.fb (aW (l:=fs) (n:=j) (by omega))
    generalize fs[j]'(by omega) = g at *
    generalize fcss[j] = fcs at *
    have exg:∃ pg,zk[j]? = some (.ref pg)/\SqT K H pg [.int g.1,.int g.2]:=by
     have lz:j < zk.length:=by rw [flk.length]; exact (aq.mp ef).1
     obtain ⟨pg,g',e1,e2,e3⟩:=flk.get (aj lz)
     rw [ef] at e2
     cases e2
     exact ⟨pg,by rw [aj lz,e1],e3⟩
    obtain ⟨pg,ezg,hpg⟩:=exg
    dsimp only [cU,List.set_cons_succ,List.set_cons_zero]
    refine cj fun R2 hR2=>?_
    refine cI ⟨d8,fun a0 H4 S4 f4 h4=>⟨QV,fun l1 H5 S5 f5 h5=>?_⟩⟩
    dsimp only [cU,List.set_cons_succ,List.set_cons_zero]
    subst hR2
    refine cj fun R2 hR2=>?_
    have rest:∀ (bk:L2.St->Hp->Prop) (l3:Addr) (ys:List V) (gs:List (Int × Int)) (H6:Hp),Same H3 H6->H6 l3 = some (.lst ys)->FLK K H6 ys gs->gs.length <= 64->(∀ x ∈ gs,Fb x/\vl x <= vl g)->(∃ x ∈ gs,vl x = vl g)->R2 { nx:=fun σ H'=>(∃ u5 u6,σ = [some (.ref t),some (.int many),some (.ref p),some (.ref r),some (.int (k:Nat)),u5,u6])/\Same H1 H',rt:=Q,bk:=bk,ct:=fun σ H'=>(∃ u5 u6,σ = [some (.ref t),some (.int many),some (.ref p),some (.ref r),some (.int (k:Nat)),u5,u6])/\Same H1 H' } [some (.ref t),some (.int many),some (.ref p),some (.ref r),some (.int (k:Nat)),some (.int (j:Nat)),some (.ref l3)] H6:=by
     intro bk l3 ys gs H6 S6 h6 fl6 l64 al ex
     subst hR2
     have yl:=fl6.length
     have S16:=S13.trans S6
     have S36:=S3.trans S6
     have ak:atI (ls.map V.ref) (k:Nat) = some (.ref lk):=cg (by rw [au,elk]; rfl)
     refine cj fun R4 hR4=>?_
     refine dO (QW (sV (List.replicate gs.length (.bl false)) rfl h6 (by rw [aO,yl]) (by rw [aO]; omega) ?_ fun l7 H7 S7 f7 h7=>?_))
     .intro i x y Hc R hi hy Sc r'
      obtain ⟨px,gx,rfl,ex,hx⟩:=fl6.get hi
      have li:=(aq.mp ex).1
      obtain ⟨bx,le⟩:=al gx (aC ex)
      rw [List.getElem?_replicate,if_pos li] at hy
      cases hy
      have SS:=S16.trans Sc
      refine ⟨_,rfl,_,rfl,t,_,_,_,rfl,rfl,SS _ _ ht,ak,_,rfl,lk,zk,_,_,rfl,rfl,SS _ _ hzk,cg ezg,_,rfl,pg,px,g,gx,rfl,SS.tup hpg,Sc.tup hx,fx,bx,fun b hb=>?_⟩
      have e:b = false:=Bool.eq_false_iff.mpr fun z=>Rat.not_lt.mpr le (hb.mp z)
      rw [e]
      exact r' Hc fun _ _ z=>z
     refine ⟨l7,List.replicate gs.length false,rfl,by rw [h7,List.map_replicate],false,?_,?_⟩
     .have e:(List.replicate gs.length false).any id = false:=by
       rw [List.any_eq_false]
       intro x hx
       rw [(List.mem_replicate.mp hx).2]
       decide
      rw [e]; rfl
     show R4 _ _ _
     subst hR4
     refine Yd (aan (sV (gs.map fun x=>.bl (decide (vl g = vl x))) rfl (S7 _ _ h6) (by rw [ao,yl]) (by rw [ao]; omega) ?_ fun l8 H8 S8 f8 h8=>?_))
     .intro i x y Hc R hi hy Sc r'
      obtain ⟨px,gx,rfl,ex,hx⟩:=fl6.get hi
      obtain ⟨bx,le⟩:=al gx (aC ex)
      rw [au,ex] at hy
      cases hy
      have SS:=S16.trans (S7.trans Sc)
      refine ⟨_,rfl,_,rfl,t,_,_,_,rfl,rfl,SS _ _ ht,ak,_,rfl,lk,zk,_,_,rfl,rfl,SS _ _ hzk,cg ezg,_,rfl,pg,px,g,gx,rfl,SS.tup hpg,(S7.trans Sc).tup hx,fx,bx,fun b hb=>?_⟩
      have e:b = decide (vl g = vl gx):=by
       rw [Bool.eq_iff_iff,decide_eq_true_iff]
       exact hb
      rw [e]
      exact r' Hc fun _ _ z=>z
     refine ⟨l8,gs.map fun x=>decide (vl g = vl x),rfl,by rw [h8,List.map_map]; rfl,true,?_,⟨_,_,rfl⟩,S36.trans (S7.trans S8)⟩
     obtain ⟨x,hx,e⟩:=ex
     have:(gs.map fun x=>decide (vl g = vl x)).any id = true:=List.any_eq_true.mpr ⟨true,List.mem_map.mpr ⟨x,hx,decide_eq_true e.symm⟩,rfl⟩
     rw [this]; rfl
    have S35:=S4.trans S5
    refine dO ⟨_,rfl,_,_,rfl,rfl,decide (0 < (k:Int)),rfl,?_⟩
    have zero:g = (0,1)->R2 { nx:=fun σ H'=>(∃ u5 u6,σ = [some (.ref t),some (.int many),some (.ref p),some (.ref r),some (.int (k:Nat)),u5,u6])/\Same H1 H',rt:=Q,bk:=fun σ H'=>(∃ u4 u5 u6,σ = [some (.ref t),some (.int many),some (.ref p),some (.ref r),u4,u5,u6])/\Same H1 H',ct:=fun σ H'=>(∃ u5 u6,σ = [some (.ref t),some (.int many),some (.ref p),some (.ref r),some (.int (k:Nat)),u5,u6])/\Same H1 H' } [some (.ref t),some (.int many),some (.ref p),some (.ref r),some (.int (k:Nat)),some (.int (j:Nat)),some (.ref l1)] H5:=fun e=>rest _ l1 [.ref a0] [(0,1)] H5 S35 h5 (.cons (f:=(0,1)) (.of (S5 _ _ h4)) .nil) (by simp) (fun x hx=>by rw [List.mem_singleton.mp hx,e]; exact ⟨⟨by decide,Bd.sm (by decide),Bd.sm (by decide)⟩,Rat.le_refl⟩) ⟨(0,1),List.mem_singleton.mpr rfl,by rw [e]⟩
    by_cases k0:0 < k
    .rw [decide_eq_true (by omega)]
     have S15:=S13.trans S35
     refine ⟨_,rfl,_,rfl,r,_,_,_,rfl,rfl,S15 _ _ hr',cg exj,dl,_,rfl,S15 _ _ hdl,_,_,rfl,rfl,decide (0 < ds.length),congrArg V.bl (decide_eq_decide.mpr (by rw [ao]; omega)),?_⟩
     obtain ⟨gs,egs,nx⟩:=nxk k0
     obtain ⟨g0,g1,gz,gn,gl⟩:=nx.2 j fcs g ej ef
     have fds:=rml.len
     by_cases d0:0 < ds.length
     .rw [decide_eq_true d0]
      have elp:ls[k - 1]? = some (ls[k - 1]'(by omega)):=aj _
      obtain ⟨zp,hzp,flp⟩:=rl.rd.at_ (k - 1) _ _ elp egs
      obtain ⟨rop,rlp⟩:=rl.ro.ok (k - 1) _ egs
      have wbp:=rop.wb rl.L0 (m:=many) (by omega) m40 rl.hm
      generalize ls[k - 1]'(by omega) = lp at *
      have ap:atI (ls.map V.ref) ((k:Int) - 1) = some (.ref lp):=by
       rw [show (k:Int) - 1 = ((k - 1:Nat):Int) by omega]
       exact cg (by rw [au,elp]; rfl)
      refine WQ (dH ⟨_,rfl,_,rfl,r,_,_,_,rfl,rfl,S15 _ _ hr',cg exj,dl,_,rfl,S15 _ _ hdl,by rw [ao]; omega,fun D3 g3=>⟨fun i ys Hc=>Same H5 Hc/\Hc D3 = some (.lst ys)/\∃ ws,FLK K Hc ys ws/\ws.length = i/\(∀ f ∈ ws,Fb f)/\ws.map vl = (nQ sh gs fcs).take i,⟨Same.upd g3,bK,[],.nil,rfl,by simp,rfl⟩,?_,?_⟩⟩)
      .rintro i y ys Hc hi ⟨S7,h7,ws,fl7,ln7,fb7,v7⟩ _ ha
       have li:i < ds.length:=by have:=(aq.mp hi).1; rw [ao] at this; exact this
       have ed:ds[i]? = some ds[i]:=aj li
       have ec:fcs[i]? = some (fcs[i]'(by omega)):=aj _
       have mc:=aW (l:=fcs) (n:=i) (by omega)
       rw [au,ed] at hi
       cases hi
       have lD:=rml.at_ i _ _ ed ec
       generalize ds[i] = dd at *
       generalize fcs[i]'(by omega) = fc at *
       have SS:=S15.trans S7
       obtain ⟨p1,p2,p3⟩:=rl.pays fcs mj fc mc
       refine ⟨_,rfl,_,rfl,_,rfl,_,rfl,_,_,rfl,rfl,t,_,_,_,rfl,rfl,SS _ _ ht,ap,p,dd,lp,sh,fcss.length,fc,zp,gs,rfl,SS _ _ rl.share,rl.s0,rl.b1,rl.b2,lD.same SS,p1,p2,p3,SS _ _ hzp,flp.same SS,wbp,rlp,fun t2 z y H8 S8 h8 y0 bz b_y v=>?_⟩
       have h78:=S8 _ _ h7
       refine ⟨h78,S8 _ _ ha,fun b u e=>(bL (bI e g3)).trans (S8 _ _ (S7 _ _ e)),bK,ws ++ [(z,y)],?_,by rw [aB,ln7]; rfl,fun f hf=>?_,?_⟩
       .exact ((fl7.same S8).append (.cons (f:=(z,y)) (.of h8) .nil)).updL h78
       .rcases List.mem_append.mp hf with hf | hf
        .exact fb7 f hf
        .rw [List.mem_singleton.mp hf]
         exact ⟨y0,bz,b_y⟩
       .have eq:(nQ sh gs fcs)[i]? = some (nU sh fc.1 fc.2 gs):=by unfold nQ; rw [au,ec]; rfl
        rw [cF eq,bC,v7,<- v]; rfl
      .rintro ys Hc ⟨S7,h7,ws,fl7,ln7,fb7,v7⟩ hy
       rw [ao] at ln7 v7
       have lq:(nQ sh gs fcs).length = ds.length:=by unfold nQ; rw [ao,fds]
       rw [<- lq,aQ] at v7
       refine rest _ D3 ys ws Hc (S35.trans S7) h7 fl7 (by omega) (fun x hx=>⟨fb7 x hx,?_⟩) ?_
       .have:vl x ∈ nQ sh gs fcs:=by rw [<- v7]; exact List.mem_map.mpr ⟨x,hx,rfl⟩
        obtain ⟨fc,hf,e⟩:=List.mem_map.mp this
        rw [<- e]; exact gl fc hf
       .obtain ⟨fc,hf,e⟩:=gn (fun z=>by rw [z] at fds; simp at fds; omega)
        have:vl g ∈ ws.map vl:=by rw [v7,e]; exact List.mem_map.mpr ⟨fc,hf,rfl⟩
        obtain ⟨x,hx,e'⟩:=List.mem_map.mp this
        exact ⟨x,hx,e'⟩
     .rw [decide_eq_false d0]
      exact zero (gz (List.eq_nil_of_length_eq_zero (by omega)))
    .rw [decide_eq_false (by omega)]
     exact zero (f0 (by omega))
   .rintro σ' H3 ⟨⟨u5,u6,rfl⟩,S3⟩
    exact ⟨⟨_,_,_,rfl⟩,S3⟩
  .rintro σ' H2 ⟨⟨u4,u5,u6,rfl⟩,S2⟩
   subst hR1
   exact q H2 (S1.trans S2)
def Nk:Sp:=fun vs H Q _=>∃ (o:Addr) (v:V),vs = [.ref o,v]/\Odd H v/\¬ tZ v/\∀ H',Same H H'->Q (.bl true) H'
theorem Pn (F:Fun K oV oV yR f fd) (T:Txt K mg D) (lR:OkX P w K mg base 8 eZ gB (qX K D)):cC P w K mg base CX0 9 f fd o_ Nk:=by
 refine F.ok qM (fun vs H Q E h=>?_) (fun cdv A outer s H vs Q E hr h=>?_)
 .obtain ⟨o,v,rfl,_⟩:=h
  rfl
 .obtain ⟨o,v,rfl,ov,nv,q⟩:=h
  refine ⟨_,(bM (Vy (i:=2) qM.nd rfl rfl (by rfl) T.KD T.KJ T.L_ rfl rfl rfl (fun _ _ _ HF=>(bO (dD (gG lR (hr.mono (by decide)) (by rfl) HF (bF (pv 0) (bF (pv 1) bH))))))
    (fun _ _=>(bM (cA (i:=3) qM.nd rfl (Or.inl rfl) (jA (bF (b_ (fW (K':=K) rfl) (by rfl) T.cG boot_isinstance (bF (pv 2) (bF (qU (by rfl) T.Vz) bH))) (bF (b_ (fW (K':=K) rfl) (by rfl) T.cG boot_isinstance (bF (pv 2) (bF (qU (by rfl) T.Dz) bH))) (bF (b_ (fW (K':=K) rfl) (by rfl) T.cG boot_isinstance (bF (pv 2) (bF (qU (by rfl) T.wj) bH))) (bF (b_ (fW (K':=K) rfl) (by rfl) T.cG boot_isinstance (bF (pv 2) (bF (qU (by rfl) T.Tp) bH))) bH))))))
    (bM (cA (i:=3) qM.nd rfl (Or.inl rfl) (bU Yy (pv 3) (jA (bF (b_ (fW (K':=K) rfl) (by rfl) T.cG boot_isinstance (bF (pv 2) (bF (qU (by rfl) T.Xq) bH))) (bF (b_ (fW (K':=K) rfl) (by rfl) T.cG boot_isinstance (bF (pv 2) (bF (qU (by rfl) T.Zu) bH))) (bF (b_ (fW (K':=K) rfl) (by rfl) T.cG boot_isinstance (bF (pv 2) (bF (qU (by rfl) T.Yh) bH))) (bF (b_ (fW (K':=K) rfl) (by rfl) T.cG boot_isinstance (bF (pv 2) (bF (qU (by rfl) T.W2) bH))) bH)))))))
    (bO (cu (Bs (b_ (fW (K':=K) rfl) (by rfl) T.cG boot_isinstance (bF (pv 2) (bF (qU (by rfl) T.wF) bH))) (Bs (b_ (fW (K':=K) rfl) (by rfl) T.cG boot_isinstance (bF (pv 2) (bF (mY (v:=.ty "ValueError") (by rfl) T.Iu z_ rfl) bH))) (Hv (mQ (show OpR _ _ (rIn K true) from Jk) iC (pv 3) rfl))))))))))
   (bO (cu iC))),?_⟩
  refine cj fun R1 hR1=>?_
  refine dO ⟨fun C d σ H'=>C = .ref D.NoNumber/\d = none/\σ = [some (.ref o),some v,none,none]/\H' = H,?_,?_⟩
  .exact ⟨_,rfl,_,rfl,o,v,rfl,ov,fun _=>⟨rfl,rfl,rfl,rfl⟩,fun z=>absurd z nv⟩
  .rintro _ _ σ' H' ⟨rfl,rfl,rfl,rfl⟩
   refine ⟨D.NoNumber,rfl,T.O5,fun a ha=>?_⟩
   have S1:Same H' (upd H' a (XO a D.NoNumber none)):=Same.upd ha
   have hX:upd H' a (XO a D.NoNumber none) a = some (XO a D.NoNumber none):=bK
   generalize upd H' a (XO a D.NoNumber none) = H1 at S1 hX ⊢
   have l4:4 <= sizeLine:=by decide
   refine cI ⟨_,rfl,a,D.NoNumber,none,_,_,false,rfl,hX,.inr ⟨_,rfl,rfl⟩,T.fU,T.Vs,_,rfl,a,D.NoNumber,none,_,_,false,rfl,hX,.inr ⟨_,rfl,rfl⟩,T.fU,T.Wk,_,rfl,a,D.NoNumber,none,_,_,false,rfl,hX,.inr ⟨_,rfl,rfl⟩,T.fU,T.Od,_,rfl,a,D.NoNumber,none,_,_,false,rfl,hX,.inr ⟨_,rfl,rfl⟩,T.fU,T.R_,l4,fun p1 H2 S2 f2 h2=>?_⟩
   have hX:=S2 _ _ hX
   refine cI ⟨_,rfl,_,rfl,a,D.NoNumber,none,_,_,false,rfl,hX,.inr ⟨_,rfl,rfl⟩,T.fU,T.Xo,_,rfl,a,D.NoNumber,none,_,_,false,rfl,hX,.inr ⟨_,rfl,rfl⟩,T.fU,T.YQ,_,rfl,a,D.NoNumber,none,_,_,false,rfl,hX,.inr ⟨_,rfl,rfl⟩,T.fU,T.Xn,_,rfl,a,D.NoNumber,none,_,_,false,rfl,hX,.inr ⟨_,rfl,rfl⟩,T.fU,T.Wc,l4,fun p2 H3 S3 f3 h3=>⟨p1,p2,_,_,rfl,rfl,S3 _ _ h2,h3,(show 8 <= sizeLine by decide),fun p3 H4 S4 f4 h4=>?_⟩⟩
   have hX:=S4 _ _ (S3 _ _ hX)
   have SS:=S1.trans (S2.trans (S3.trans S4))
   refine eY ⟨_,rfl,a,D.NoNumber,none,_,_,true,rfl,hX,.inr ⟨_,rfl,rfl⟩,T.fU,T.N5,true,rfl,?_⟩
   rw [if_pos rfl]
   refine ⟨_,rfl,a,D.NoNumber,none,_,_,true,rfl,hX,.inl ⟨_,rfl,rfl⟩,T.fU,T.Il,true,rfl,?_⟩
   rw [if_pos rfl]
   exact ⟨_,rfl,p3,_,rfl,.inl (.of h4),rfl,rfl,q _ SS⟩
theorem Rds.wo {H:Hp} {as ls:List Addr} {fss:List (List (Int × Int))} (h:Rds K H ls fss) (n:∀ l ∈ ls,l ∉ as) (hl:∀ a ∈ as,∃ zs,H a = some (.lst zs)):Rds K (L2.wo as H) ls fss:=⟨h.len,h.nd,fun k l fs e1 e2=>by
 obtain ⟨zs,a,b⟩:=h.at_ k l fs e1 e2
 refine ⟨zs,(j8 (n l (aC e1))).trans a,b.imp fun p x y e=>?_⟩
 have t:∀ u,(∀ zs,u ≠ HO.lst zs)->H p = some u->L2.wo as H p = some u:=fun u nu e=>(j8 fun z=>by
  obtain ⟨zs,hz⟩:=hl p z
  rw [hz] at e
  injection e with e
  exact nu zs e.symm).trans e
 rcases e with (e | ⟨o,e⟩) | e
 .exact .inl (.inl (t _ (fun _ z=>by cases z) e))
 .exact .inl (.inr ⟨o,t _ (fun _ z=>by cases z) e⟩)
 .exact .inr e⟩
def K6 (K:Frag) (D:Adr):Sp:=fun vs H Q _=>qX K D vs H Q fun _ _ _=>False
theorem QJ {G:Hp} {a:Addr} {o:HO} (g:G a = none):L2.wo [a] (upd G a o) = G:=by
 funext b
 by_cases z:b = a
 .rw [z,yJ (by simp),g]
 .rw [j8 (by simpa using z),bL z]
theorem X6 {as:List Addr} {H H':Hp} (S:Same H H'):Same (L2.wo as H) (L2.wo as H'):=fun b u e=>by
 obtain ⟨a,c⟩:=qL e
 rw [j8 a]; exact S _ _ c
theorem abt (F:Fun K Iz Iz K4 f fd) (T:Txt K mg D) (Zx:∀ a ns,OkF P w K mg base 1 u_ vf (xP K a ns)) (VG:OkF P w K mg base 2 tX uF Cy) (UJ:OkF P w K mg base 3 uy rY D_) (WX:∀ a ns,OkF P w K mg base 5 t_ ux (BZ K a ns)) (aaO:OkF P w K mg base 9 yx xJ (Jl K D)) (R7:OkF P w K mg base 1 iB gY h_) (pU:OkF P w K mg base 8 eZ gB (K6 K D)) (zf:OkF P w K mg base 9 oV o_ Nk) (Ay:OkF P w K mg base 5 uO tU (CV K D)):cC P w K mg base CX0 10 f fd N6 (Hw K D.T_best_rounds):=by
 refine F.okB kJ (fun vs H Q E h=>?_) (fun cdv A outer s H vs Q E hr h=>?_)
 .obtain ⟨a,ns,rfl,_⟩:=h
  rfl
 .obtain ⟨a,ns,rfl,hs,hl,_,hT,hQ⟩:=h
  have qK:=Zx a ns
  have HX:=(WX a ns).frame D.T_best_rounds
  have JG:=VG.frame D.T_best_rounds
  have Jp:=UJ.frame D.T_best_rounds
  have NZ:=aaO.frame D.T_best_rounds
  have dR:=R7.frame D.T_best_rounds
  obtain ⟨G0,g0,rfl,hs0⟩ : ∃ G0:Hp,G0 D.T_best_rounds = none/\H = upd G0 D.T_best_rounds (.tbl #[])/\SqL K G0 a (ns.map V.int):=by
   refine ⟨L2.wo [D.T_best_rounds] H,yJ (by simp),?_,?_⟩
   .funext b
    by_cases z:b = D.T_best_rounds
    .rw [z,bK]; exact hT
    .rw [bL z,j8 (by simpa using z)]
   .rcases hs with (e | ⟨o,e⟩) | e
    .exact .inl (.inl ((j8 (by simp; intro z; rw [z,hT] at e; cases e)).trans e))
    .exact .inl (.inr ⟨o,(j8 (by simp; intro z; rw [z,hT] at e; cases e)).trans e⟩)
    .exact .inr e
  have up:∀ {G:Hp} {b:Addr} {u:HO},G D.T_best_rounds = none->G b = some u->upd G D.T_best_rounds (.tbl #[]) b = some u:=fun g e=>Same.upd g _ _ e
  refine ⟨_,(cT (PSB.mk (DN (bQ JG (hr.mono (by decide)) (by rfl) (bF (bQ qK (hr.mono (by decide)) (by rfl) (bF (pv 0) (bF bG bH))) bH)) (iD (n:=3) rfl (cD (cH (i:=8) kJ.nd rfl (Or.inr rfl)) (cD (cH (i:=9) kJ.nd rfl (Or.inl rfl)) (cD (cH (i:=10) kJ.nd rfl (Or.inl rfl)) gO))))))
   (cT (PSB.mk (cA (i:=1) kJ.nd rfl (Or.inl rfl) (bQ Jp (hr.mono (by decide)) (by rfl) (bF (bQ qK (hr.mono (by decide)) (by rfl) (bF (pv 0) (bF bG bH))) (bF (pv 10) bH)))))
   (cT (PSB.mk (cA (i:=2) kJ.nd rfl (Or.inl rfl) (bQ HX (hr.mono (by decide)) (by rfl) (bF (pv 0) (bF bG (bF (pv 8) (bF (pv 10) bH)))))))
   (cT (PSB.mk (cA (i:=3) kJ.nd rfl (Or.inl rfl) (bQ NZ (hr.mono (by decide)) (by rfl) (bF (bQ qK (hr.mono (by decide)) (by rfl) (bF (pv 0) (bF bG bH))) (bF (pv 1) (bF (pv 2) bH))))))
   (cT (PSB.mk (cA (i:=4) kJ.nd rfl (Or.inl rfl) (bQ dR (hr.mono (by decide)) (by rfl) (bF (bQ qK (hr.mono (by decide)) (by rfl) (bF (pv 0) (bF bG bH))) (bF bG bH)))))
   (cT (PSB.mk (cA (i:=5) kJ.nd rfl (Or.inl rfl) (bU mK (bV bY (pv 4) bG (fun _ _=>rfl)) (bU cZ (pv 9) bG))))
   (cT (PSB.mk (cA (i:=6) kJ.nd rfl (Or.inl rfl) (jA (bF (bQ pU (hr.mono (by decide)) (by rfl) (bF (pv 3) (bF (pv 9) bH))) (bF (bQ pU (hr.mono (by decide)) (by rfl) (bF (pv 3) (bF (pv 5) bH))) bH)))))
   (cT (PSB.mk (cA (i:=7) kJ.nd rfl (Or.inl rfl) (bV bY (jA (bF (K7 BX bG) (bF bG (bF iC (bF iC (bF Iv (bF oH (bF (dG (bF bG (bF bG bH))) (bF (bU IW bG bG) bH))))))))) (bU cR (bV bY (pv 4) bG (fun _ _=>rfl)) bG) (fun _ _=>rfl))))
   (cT (PSB.mk (cY (d9 (dz (bQ zf (hr.mono (by decide)) (by rfl) (bF (pv 3) (bF (pv 7) bH))) (fun _=>rfl)))
    (bO (cu iC))
    cB))
   (cT (PSB.mk (iV PassesOwn.never rfl (Pu (by rfl) T.Va (bF (pv 6) (bF (jA (bF (pv 9) (bF (pv 5) bH))) bH)).mono) (iD (n:=2) rfl (cD (cH (i:=11) kJ.nd rfl (Or.inl rfl)) (cD (cH (i:=12) kJ.nd rfl (Or.inl rfl)) gO)))
    (bM (cY (d9 (dz (bQ Ay (hr.mono (by decide)) (by rfl) (bF (pv 11) (bF (pv 12) (bF (pv 1) (bF (pv 2) bH))))) (fun _=>rfl)))
     (bO (cu iC))
     cB)
    (bM (iV PassesOwn.never rfl (cX ((pv 11)).mono) (cH (i:=13) kJ.nd rfl (Or.inl rfl))
     (bO (dD (sU (pv 13) (bF (dG (bF bG (bF bG bH))) bH)))))
    (bM (cY (dz (b_ (zH rfl) (by rfl) T.W7 boot_any (bF (jM (bN K4) aa4 ["_law_script", "_law_share_here", "_law_rooms", "_law_hall_here", "_law_xs", "_law_fewer", "_law_held", "_law_odd", "_law_size", "_law_many", "_law_small", "_law_found", "_law_due", "?_law_one"] ["_law_one"] (cX ((pv 11)).mono) (eG (i:=0)) dj (mQ Gq (b_ d_ (by rfl) T.kI PySem.boot_len (bF (pv 0) bH)) (bU cZ (pv 9) bG) (cN _))) bH)) (fun _=>rfl))
     (bO (cu iC))
     cB)
    (bO (dD (ach (pv 11)))))))))
   (Bl (PSB.mk (cu (bQ Ay (hr.mono (by decide)) (by rfl) (bF (bQ pU (hr.mono (by decide)) (by rfl) (bF (pv 3) (bF (pv 9) bH))) (bF (pv 9) (bF (pv 1) (bF (pv 2) bH)))))))))))))))))),?_⟩
  have z9:101 < sizeLine:=by decide
  refine cj fun R1 hR1=>?_
  refine dO (WQ ⟨_,rfl,0,rfl,hs,hl,by decide,G0,_,g0,rfl,_,rfl,fun n m sm r1 G1 sz S1 h1 g1=>⟨r1,_,rfl,up g1 h1,rfl,_,_,rfl,_,_,rfl,_,_,rfl,rfl,?_⟩⟩)
  have n12:=sz.n12
  have m40:=sz.m40
  subst hR1
  dsimp only [cU,L2.start,List.set_cons_succ,List.set_cons_zero]
  refine cj fun R1 hR1=>?_
  refine cI ⟨_,rfl,2,rfl,Same.sql (S1.trans (Same.upd g1)) hs0,hl,by decide,_,rfl,G1,_,g1,rfl,_,sm,rfl,fun ps x y G2 S2 h2 x0 xy y1 gx g2=>?_⟩
  have y100:y <= 100:=Int.le_trans y1 (by cases sm <;> decide)
  have S02:=S1.trans S2
  subst hR1
  dsimp only [cU,List.set_cons_succ,List.set_cons_zero]
  refine cj fun R1 hR1=>?_
  refine cI ⟨_,rfl,_,rfl,_,rfl,G2,_,g2,rfl,5,n,sm,rfl,Same.sql S02 hs0,hl,by decide,n12,fun r xs dss G3 S3 fr hr3 ld rd dm g3=>?_⟩
  have m3:rN sm <= 3:=by cases sm <;> decide
  have S03:=S02.trans S3
  subst hR1
  dsimp only [cU,List.set_cons_succ,List.set_cons_zero]
  refine cj fun R1 hR1=>?_
  refine cI ⟨_,rfl,1,rfl,Same.sql (S03.trans (Same.upd g3)) hs0,hl,by decide,_,rfl,_,rfl,G3,_,g3,rfl,_,x,y,ps,r,xs,dss,n,rN sm,mB sm,rfl,S3 _ _ h2,x0,xy,y100,gx,hr3,rd,ld,n12,by omega,dm,fun o G4 rms S4 fo hh ok hi g4=>?_⟩
  obtain ⟨fcss,fn,hn,rml,dmm⟩:=VN hh ok hi (S4 _ _ (S3 _ _ h2)) x0 xy y100 (S4 _ _ hr3) (rd.same S4) ld n12 dm m3
  obtain ⟨L,hL,hm⟩:=abV sz fn x0 xy y1 dmm
  have hps:=S4 _ _ (S3 _ _ h2)
  have S04:=S03.trans S4
  clear hi hh ok rd hr3 dm fo fr
  subst hR1
  dsimp only [cU,List.set_cons_succ,List.set_cons_zero]
  refine cj fun R1 hR1=>?_
  refine cI ⟨_,rfl,3,rfl,Same.sql (S04.trans (Same.upd g4)) hs0,hl,by decide,G4,_,g4,rfl,_,2,rfl,by decide,fun lx us G5 S5 f5 h5 ln hx g5=>?_⟩
  obtain ⟨u,v,rfl⟩:=Zz ln
  have hn:=hn.same S5
  have rml:=rml.same S5
  have hps:=S5 _ _ hps
  obtain ⟨fw,efw,fwm⟩ : ∃ fw:Nat,u.fmod ((m:Int) + 1) = fw/\fw <= m:=by
   have m0:0 <= u % ((m:Int) + 1):=Int.emod_nonneg _ (by omega)
   have m1:u % ((m:Int) + 1) < (m:Int) + 1:=Int.emod_lt_of_pos _ (by omega)
   exact ⟨(u % ((m:Int) + 1)).toNat,by rw [aY _ (by omega)]; omega,by omega⟩
  subst hR1
  dsimp only [cU,List.set_cons_succ,List.set_cons_zero]
  refine cj fun R1 hR1=>?_
  refine cI ⟨_,rfl,lx,_,0,_,rfl,rfl,up g5 h5,dB,_,rfl,_,_,rfl,rfl,u,_,rfl,rfl,by omega,?_⟩
  subst hR1
  dsimp only [cU,List.set_cons_succ,List.set_cons_zero]
  rw [efw]
  have hfw:L ^ fw <= 10 ^ 480:=aN (Nat.pow_le_pow_right hL.L0 fwm) hm
  have mno:∀ k:Nat,k <= 40->tZ (.int (k:Nat)):=fun k h=>⟨by omega,by omega⟩
  refine cj fun R1 hR1=>?_
  refine cI ⟨_,rfl,_,rfl,o,.int m,rfl,⟨_,rfl⟩,(fun z=>absurd (mno m m40) z),fun _=>⟨m,L,(x,y),fcss,none,rfl,bK,by rw [show D.T_best_rounds :: (none:Option Addr).toList = [D.T_best_rounds] from rfl,QJ g5]; exact hn,hL,hm,fun t1 ls1 fss1 HA c SA laA _ ft1 fls1 nt1 ht1 rd1 ln1 ro1=>?_⟩⟩
  rw [show D.T_best_rounds :: (none:Option Addr).toList = [D.T_best_rounds] from rfl,QJ g5] at SA
  have S5A:Same G5 HA:=SA.trans jr
  refine ⟨_,rfl,_,rfl,o,.int fw,rfl,⟨_,rfl⟩,(fun z=>absurd (mno fw (by omega)) z),fun _=>⟨fw,L,(x,y),fcss,some c,rfl,laA,hn.same SA,hL,hfw,fun t2 ls2 fss2 HB c' SB laB ec ft2 fls2 nt2 ht2 rd2 ln2 ro2=>?_⟩⟩
  obtain rfl:c' = c:=ec c rfl
  have SB:Same (L2.wo [D.T_best_rounds,c'] HA) (L2.wo [D.T_best_rounds,c'] HB):=SB
  refine ⟨d8,fun hd HC SC fC hC=>?_⟩
  have SG:Same G5 (L2.wo [D.T_best_rounds,c'] HC):=SA.trans (SB.trans (X6 SC))
  have S5C:Same G5 HC:=SG.trans jr
  have laC:vO D.T_best_rounds lamP Ih HC (some c'):=⟨SC _ _ laB.1,SC _ _ laB.2⟩
  have inA:L2.wo [D.T_best_rounds,c'] HA t1 = some (.lst (ls1.map V.ref)):=(j8 (by
   simp only [List.mem_cons,List.not_mem_nil,or_false,not_or]
   exact ⟨f9 ht1 laA.1 (by intro z; cases z),f9 ht1 laA.2 (by intro z; cases z)⟩)).trans ht1
  have htC1:HC t1 = some (.lst (ls1.map V.ref)):=SC _ _ (jr _ _ (SB _ _ inA))
  have rdC1:Rds K HC ls1 fss1:=(rd1.same SB).same (jr.trans SC)
  have htC2:HC t2 = some (.lst (ls2.map V.ref)):=SC _ _ ht2
  have rdC2:Rds K HC ls2 fss2:=rd2.same (jr.trans SC)
  have old1:∀ l ∈ t1 :: ls1,∃ zs,HA l = some (.lst zs):=fun l hl'=>by
   rcases List.mem_cons.mp hl' with rfl | hl'
   .exact ⟨_,ht1⟩
   .obtain ⟨k,hk⟩:=aX hl'
    have lk:k < fss1.length:=by rw [<- rd1.len]; exact (aq.mp hk).1
    obtain ⟨zs,z,_⟩:=rd1.at_ k l _ hk (aj lk)
    exact ⟨zs,jr _ _ z⟩
  have dis:∀ l ∈ t2 :: ls2,l ∉ t1 :: ls1:=fun l h2' h1'=>by
   obtain ⟨zs,z⟩:=old1 l h1'
   have:HA l = none:=by
    rcases List.mem_cons.mp h2' with rfl | h
    .exact ft2
    .exact fls2 l h
   rw [this] at z; cases z
  have fG1:∀ l ∈ t1 :: ls1,G5 l = none:=fun l h=>by
   rcases List.mem_cons.mp h with rfl | h
   .exact Same.free (Same.upd g5) ft1
   .exact Same.free (Same.upd g5) (fls1 l h)
  have fG2:∀ l ∈ t2 :: ls2,G5 l = none:=fun l h=>by
   rcases List.mem_cons.mp h with rfl | h
   .exact Same.free S5A ft2
   .exact Same.free S5A (fls2 l h)
  have nhd:∀ l,l ∈ t1 :: ls1\/l ∈ t2 :: ls2->l ≠ hd:=fun l h z=>by
   have hB':∃ u,HB l = some u:=by
    rcases h with h | h
    .obtain ⟨zs,e⟩:=old1 l h
     refine ⟨_,jr _ _ (SB _ _ ((j8 ?_).trans e))⟩
     simp only [List.mem_cons,List.not_mem_nil,or_false,not_or]
     exact ⟨f9 e laA.1 (by intro z; cases z),f9 e laA.2 (by intro z; cases z)⟩
    .rcases List.mem_cons.mp h with rfl | h
     .exact ⟨_,ht2⟩
     .obtain ⟨k,hk⟩:=aX h
      have lk:k < fss2.length:=by rw [<- rd2.len]; exact (aq.mp hk).1
      obtain ⟨zs,e,_⟩:=rd2.at_ k l _ hk (aj lk)
      exact ⟨_,jr _ _ e⟩
   obtain ⟨u,e⟩:=hB'
   rw [z,fC] at e; cases e
  have inC:∀ l,l ∈ t1 :: ls1\/l ∈ t2 :: ls2->∃ zs,HC l = some (.lst zs):=fun l h=>by
   have at_:∀ (t:Addr) (ls:List Addr) (fss:List (List (Int × Int))),HC t = some (.lst (ls.map V.ref))->Rds K HC ls fss->l ∈ t :: ls->∃ zs,HC l = some (.lst zs):=fun t ls fss ht rd h=>by
    rcases List.mem_cons.mp h with rfl | h
    .exact ⟨_,ht⟩
    .obtain ⟨k,hk⟩:=aX h
     have lk:k < fss.length:=by rw [<- rd.len]; exact (aq.mp hk).1
     obtain ⟨zs,z,_⟩:=rd.at_ k l _ hk (aj lk)
     exact ⟨zs,z⟩
   rcases h with h | h
   .exact at_ t1 ls1 fss1 htC1 rdC1 h
   .exact at_ t2 ls2 fss2 htC2 rdC2 h
  have gc:G5 c' = none:=by
   cases z:G5 c' with
   | none=>rfl
   | some u=>have:=SG _ _ z; rw [yJ (by simp)] at this; cases this
  have mk:∀ (H9:Hp) (mi:Nat) (ls:List Addr) (fss:List (List (Int × Int))),Same G5 H9->Rds K H9 ls fss->fss.length = mi + 1->mi <= 40->Rounds (x,y) fcss L fss->L ^ mi <= 10 ^ 480->ac0 K D H9 ps r mi ls (x,y) fcss L fss:=fun H9 mi ls fss S rd ln mi40 ro hmi=>⟨rd,ln,mi40,ro,hL.L0,hmi,by omega,S _ _ hps,hn.s0,hn.b1,hn.b2,rml.same S,hn.pays⟩
  have h5C:=S5C _ _ h5
  clear rd1 rd2 ht1 ht2 inA SA SB SC laA laB S5A old1 fC ft1 ft2 fls1 fls2
  subst hR1
  dsimp only [cU,List.set_cons_succ,List.set_cons_zero]
  refine cj fun R1 hR1=>?_
  refine cI ⟨1,rfl,d8,fun p1 H1 S1 f1 e1=>⟨10,30,rfl,rfl,abI (by decide) (by decide),(show 8 <= sizeLine by decide),fun p3 HD SD fD hD=>⟨_,rfl,lx,_,1,_,rfl,rfl,SD _ _ (S1 _ _ h5C),cV,v,8,rfl,rfl,(show (0:Int) < 8 by decide),?_⟩⟩⟩
  have SCD:=S1.trans SD
  have kt:=SD _ _ e1
  obtain ⟨ow,aw,oo,no⟩ : ∃ ow,atI [V.int (-1),.int 41,.bl true,.bl false,.non,.str "3",.ref p1,.int (10 ^ (30:Int).toNat)] (v % 8) = some ow/\Odd HD ow/\¬ tZ ow:=by
   obtain ⟨j,ej,lj⟩ : ∃ j:Nat,v % 8 = j/\j < 8:=⟨(v % 8).toNat,by omega,by omega⟩
   rw [ej]
   match j,lj with
   | 0,_=>exact ⟨_,cg (j:=0) rfl,⟨_,rfl⟩,fun z=>absurd z.1 (by decide)⟩
   | 1,_=>exact ⟨_,cg (j:=1) rfl,⟨_,rfl⟩,fun z=>absurd z.2 (by decide)⟩
   | 2,_=>exact ⟨_,cg (j:=2) rfl,⟨_,rfl⟩,fun z=>z⟩
   | 3,_=>exact ⟨_,cg (j:=3) rfl,⟨_,rfl⟩,fun z=>z⟩
   | 4,_=>exact ⟨_,cg (j:=4) rfl,⟨_,rfl⟩,fun z=>z⟩
   | 5,_=>exact ⟨_,cg (j:=5) rfl,⟨_,rfl⟩,fun z=>z⟩
   | 6,_=>exact ⟨_,cg (j:=6) rfl,⟨_,YL kt⟩,fun z=>z⟩
   | 7,_=>exact ⟨_,cg (j:=7) rfl,⟨_,rfl⟩,fun z=>absurd z.2 (by decide)⟩
   | j + 8,lj=>omega
  refine ⟨p3,_,_,_,rfl,rfl,hD,aw,?_⟩
  subst hR1
  dsimp only [cU,List.set_cons_succ,List.set_cons_zero]
  refine cj fun R1 hR1=>?_
  refine dO (N_ ⟨_,rfl,_,rfl,o,ow,rfl,oo,no,fun HE SE=>⟨true,rfl,?_⟩⟩)
  have SCE:=SCD.trans SE
  show R1 _ _ _
  subst hR1
  refine cj fun R1 hR1=>?_
  refine dO (R5 ⟨_,rfl,_,rfl,_,rfl,d8,fun zl HF SF fF hF=>⟨hd,zl,_,_,rfl,SF _ _ (SCE _ _ hC),hF,rfl,fun k σ H'=>(∃ u11 u12 u13,σ = [some (.ref a),some (.ref ps),some (.ref r),some (.ref o),some (.ref lx),some (.int fw),some (.ref hd),some ow,some (.int n),some (.int m),some (.bl sm),u11,u12,u13])/\Same G5 H'/\vO D.T_best_rounds lamP Ih H' (some c')/\(k < 1->H' t1 = some (.lst (ls1.map V.ref))/\Rds K H' ls1 fss1)/\(k < 2->H' t2 = some (.lst (ls2.map V.ref))/\Rds K H' ls2 fss2),?_,?_,?_⟩⟩)
  .have S:=SCE.trans SF
   exact ⟨⟨_,_,_,rfl⟩,S5C.trans S,⟨S _ _ laC.1,S _ _ laC.2⟩,fun _=>⟨S _ _ htC1,rdC1.same S⟩,fun _=>⟨S _ _ htC2,rdC2.same S⟩⟩
  .rintro k vx vy σ' H' tq hkx hky ⟨⟨u11,u12,u13,rfl⟩,SG',la',j1,j2⟩ hhd hzl ftq
   have Sq:Same H' (upd H' tq (.tup [vx,vy])):=Same.upd ftq
   have eq:upd H' tq (.tup [vx,vy]) tq = some (.tup [vx,vy]):=bK
   generalize upd H' tq (.tup [vx,vy]) = H2 at Sq eq ⊢
   have k2:k < 2:=(aq.mp hkx).1
   obtain ⟨t,ls,fss,mi,rfl,rfl,ht,rd,nt,ln,mi40,hmi,ro,fG,nh,oth⟩ : ∃ (t:Addr) (ls:List Addr) (fss:List (List (Int × Int))) (mi:Nat),vx = .ref t/\vy = .int (mi:Nat)/\H2 t = some (.lst (ls.map V.ref))/\Rds K H2 ls fss/\t ∉ ls/\fss.length = mi + 1/\mi <= 40/\L ^ mi <= 10 ^ 480/\Rounds (x,y) fcss L fss/\(∀ l ∈ t :: ls,G5 l = none)/\(∀ l ∈ t :: ls,l ≠ hd/\l ≠ zl)/\(k + 1 < 2->∀ l ∈ t2 :: ls2,l ∉ t :: ls):=by
    have nz:∀ l,l ∈ t1 :: ls1\/l ∈ t2 :: ls2->l ≠ hd/\l ≠ zl:=fun l h=>⟨nhd l h,fun z=>by
     obtain ⟨zs,e⟩:=inC l h
     have:=SCE _ _ e
     rw [z,fF] at this; cases this⟩
    by_cases k0:k = 0
    .subst k0
     cases hkx
     cases hky
     obtain ⟨a1,a2⟩:=j1 (by decide)
     exact ⟨t1,ls1,fss1,m,rfl,rfl,Sq _ _ a1,a2.same Sq,nt1,ln1,m40,hm,ro1,fG1,fun l h=>nz l (.inl h),fun _=>dis⟩
    .obtain rfl:k = 1:=by omega
     cases hkx
     cases hky
     obtain ⟨a1,a2⟩:=j2 (by decide)
     exact ⟨t2,ls2,fss2,fw,rfl,rfl,Sq _ _ a1,a2.same Sq,nt2,ln2,by omega,hfw,ro2,fG2,fun l h=>nz l (.inr h),fun z=>absurd z (by decide)⟩
   have SG2:=SG'.trans Sq
   have ll:=rd.len
   refine ⟨tq,_,rfl,eq,rfl,_,_,rfl,_,_,rfl,rfl,?_⟩
   dsimp only [cU,List.set_cons_succ,List.set_cons_zero]
   refine cj fun R2 hR2=>?_
   refine dO (N_ ⟨_,rfl,_,rfl,_,rfl,_,rfl,t,ps,r,mi,L,ls,(x,y),fcss,fss,rfl,ht,mk H2 mi ls fss SG2 rd ln mi40 ro hmi,fun H3 S3=>⟨true,rfl,?_⟩⟩)
   show R2 _ _ _
   subst hR2
   have ht3:=S3 _ _ ht
   refine cj fun R2 hR2=>?_
   refine dO (fY ⟨_,rfl,t,_,rfl,ht3,fun i σ H'=>(∃ u13,σ = [some (.ref a),some (.ref ps),some (.ref r),some (.ref o),some (.ref lx),some (.int fw),some (.ref hd),some ow,some (.int n),some (.int m),some (.bl sm),some (.ref t),some (.int mi),u13])/\Same (L2.wo ls H3) H'/\∀ (j:Nat) l,ls[j]? = some l->∃ zs,H' l = some (.lst zs)/\zs.length = n + (if j < i then 1 else 0),⟨⟨_,rfl⟩,jr,fun j l e=>?_⟩,?_,?_⟩)
   .have lj:j < fss.length:=by rw [<- ll]; exact (aq.mp e).1
    obtain ⟨zs,z1,z2⟩:=rd.at_ j l _ e (aj lj)
    exact ⟨zs,S3 _ _ z1,by rw [z2.length,(ro.ok j _ (aj lj)).2,fn]; rfl⟩
   .rintro i vx σ' H4 hi ⟨⟨u,rfl⟩,S4,al⟩ ht4
    rw [au] at hi
    cases el:ls[i]? with
    | none=>rw [el] at hi; cases hi
    | some l =>
     rw [el] at hi
     cases hi
     obtain ⟨zs,hz,lz⟩:=al i l el
     rw [if_neg (Nat.lt_irrefl _)] at lz
     have ntl:t ≠ l:=fun z=>nt (by rw [z]; exact aC el)
     refine ⟨_,rfl,l,zs,rfl,hz,d8,fun p4 H5 S5 f5 h5=>⟨_,_,rfl,S5 _ _ hz,by omega,(bL ntl).trans (S5 _ _ ht4),⟨_,rfl⟩,fun b u e=>?_,fun j l2 e2=>?_⟩⟩
     .obtain ⟨nb,_⟩:=qL e
      exact (bL fun z=>nb (by rw [z]; exact aC el)).trans (S5 _ _ (S4 _ _ e))
     .by_cases ej:j = i
      .subst ej
       rw [el] at e2
       cases e2
       exact ⟨_,bK,by rw [aB,lz,if_pos (Nat.lt_succ_self _)]; rfl⟩
      .obtain ⟨zs2,hz2,lz2⟩:=al j l2 e2
       have nl:l2 ≠ l:=fun z=>by
        subst z
        exact ej ((List.getElem?_inj (aq.mp e2).1 rd.nd).mp (e2.trans el.symm))
       refine ⟨zs2,(bL nl).trans (S5 _ _ hz2),?_⟩
       rw [lz2]
       congr 1
       by_cases q1:j < i
       .rw [if_pos q1,if_pos (by omega)]
       .rw [if_neg q1,if_neg (by omega)]
   .rintro σ' H4 ⟨⟨u,rfl⟩,S4,al⟩ ht4
    rw [ao] at al
    show R2 _ _ _
    subst hR2
    refine cj fun R2 hR2=>?_
    refine dO (Yd (QW (sV (List.replicate ls.length (.bl false)) rfl ht4 (by rw [aO,ao]) (by rw [aO,ll]; omega) ?_ fun l7 H7 S7 f7 h7=>?_)))
    .intro i vx vy Hc R hi hy Sc r'
     rw [au] at hi
     cases el:ls[i]? with
     | none=>rw [el] at hi; cases hi
     | some l =>
      rw [el] at hi
      cases hi
      have li:=(aq.mp el).1
      obtain ⟨zs,hz,lz⟩:=al i l el
      rw [if_pos li] at lz
      rw [List.getElem?_replicate,if_pos li] at hy
      cases hy
      refine ⟨_,rfl,l,zs,rfl,Sc _ _ hz,_,rfl,_,_,rfl,rfl,rfl,?_⟩
      rw [lz,decide_eq_true (by rfl)]
      exact r' Hc fun _ _ z=>z
    refine ⟨l7,List.replicate ls.length false,rfl,by rw [h7,List.map_replicate],false,?_,?_⟩
    .have e:(List.replicate ls.length false).any id = false:=by
      rw [List.any_eq_false]
      intro x hx
      rw [(List.mem_replicate.mp hx).2]
      decide
     rw [e]; rfl
    show R2 _ _ _
    subst hR2
    have ht7:=S7 _ _ ht4
    have lst2:∀ l ∈ t :: ls,∃ zs,H2 l = some (.lst zs):=fun l h=>by
     rcases List.mem_cons.mp h with rfl | h
     .exact ⟨_,ht⟩
     .obtain ⟨j,hj⟩:=aX h
      have lj:j < fss.length:=by rw [<- ll]; exact (aq.mp hj).1
      obtain ⟨zs,z,_⟩:=rd.at_ j l _ hj (aj lj)
      exact ⟨zs,z⟩
    have fin:∀ H9,H9 = upd H7 t (.lst (ls.map V.ref).reverse)->H9 hd = some (.lst [.ref t1,.ref t2])/\H9 zl = some (.lst [.int m,.int fw])/\(∃ u11 u12 u13,[some (V.ref a),some (.ref ps),some (.ref r),some (.ref o),some (.ref lx),some (.int fw),some (.ref hd),some ow,some (.int n),some (.int m),some (.bl sm),some (.ref t),some (.int mi),u] = [some (.ref a),some (.ref ps),some (.ref r),some (.ref o),some (.ref lx),some (.int fw),some (.ref hd),some ow,some (.int n),some (.int m),some (.bl sm),u11,u12,u13])/\Same G5 H9/\vO D.T_best_rounds lamP Ih H9 (some c')/\(k + 1 < 1->H9 t1 = some (.lst (ls1.map V.ref))/\Rds K H9 ls1 fss1)/\(k + 1 < 2->H9 t2 = some (.lst (ls2.map V.ref))/\Rds K H9 ls2 fss2):=by
     rintro H9 rfl
     have S9:Same (L2.wo (t :: ls) H2) (upd H7 t (.lst (ls.map V.ref).reverse)):=fun b u e=>by
      obtain ⟨nb,e'⟩:=qL e
      exact (bL fun z=>nb (by rw [z]; exact aP)).trans (S7 _ _ (S4 _ _ ((j8 fun z=>nb (aJ _ z)).trans (S3 _ _ e'))))
     have out:∀ {b:Addr} {u:HO},H2 b = some u->b ∉ t :: ls->upd H7 t (.lst (ls.map V.ref).reverse) b = some u:=fun e n=>S9 _ _ ((j8 n).trans e)
     have nl:∀ {b:Addr} {u:HO},H2 b = some u->(∀ zs,u ≠ .lst zs)->b ∉ t :: ls:=fun e n z=>by
      obtain ⟨zs,hz⟩:=lst2 _ z
      rw [hz] at e
      injection e with e
      exact n zs e.symm
     have l1:=Sq _ _ la'.1
     have l2:=Sq _ _ la'.2
     refine ⟨out (Sq _ _ hhd) fun z=>(nh _ z).1 rfl,out (Sq _ _ hzl) fun z=>(nh _ z).2 rfl,⟨_,_,_,rfl⟩,(fun b u e=>out (SG2 _ _ e) fun z=>by rw [fG _ z] at e; cases e),⟨out l1 (nl l1 fun _ z=>by cases z),out l2 (nl l2 fun _ z=>by cases z)⟩,fun z=>absurd z (by omega),fun z=>?_⟩
     obtain ⟨a1,a2⟩:=j2 (by omega)
     have o2:=oth z
     exact ⟨out (Sq _ _ a1) (o2 _ aP),((a2.same Sq).wo (fun l h=>o2 l (aJ _ h)) lst2).same S9⟩
    exact ⟨_,rfl,t,_,rfl,ht7,fin _ rfl⟩
  .rintro σ' H' ⟨⟨u11,u12,u13,rfl⟩,SG',la',_,_⟩ _ _
   subst hR1
   dsimp only
   have SGw:Same G5 (L2.wo [D.T_best_rounds,c'] H'):=fun b u e=>by
    rw [j8 (by
     simp only [List.mem_cons,List.not_mem_nil,or_false,not_or]
     exact ⟨(fun z=>by rw [z,g5] at e; cases e),(fun z=>by rw [z,gc] at e; cases e)⟩)]
    exact SG' _ _ e
   refine eY ⟨_,rfl,_,rfl,o,.int m,rfl,⟨_,rfl⟩,(fun z=>absurd (mno m m40) z),fun _=>⟨m,L,(x,y),fcss,some c',rfl,la',hn.same SGw,hL,hm,fun t3 ls3 fss3 HG c3 S3 la3 ec ft fls nt ht rd ln ro=>?_⟩⟩
   exact ⟨_,rfl,_,rfl,_,rfl,t3,ps,r,m,L,ls3,(x,y),fcss,fss3,rfl,ht,mk HG m ls3 fss3 (SGw.trans (S3.trans jr)) (rd.same jr) ln m40 ro hm,fun H'' _=>hQ H''⟩
end
theorem law_fn {l:PySem.W.OpenLaw} {w:World} {K:Frag} {mg:Str->Option Value} {Pt:Addr} (T0:∃ D:Adr,D.T_best_rounds = Pt/\Txt K mg D) (base:Heap) (hB:base.BuiltinsAt mg Pt) (f:Addr) (fd:FuncData) (F:Fun K Iz Iz K4 f fd) :
  cC l.prog w K mg base CX0 10 f fd N6 (Hw K Pt):=by
 obtain ⟨D,rfl,T⟩:=T0
 have kO:∀ base:Heap,OkF l.prog w K mg base 5 iu iz (qg K D):=fun base=>by
  have dh:OkF l.prog w K mg base 1 fM fK jh:=T.Cm.ok fun _ _ F=>zX F T
  have dI:OkF l.prog w K mg base 1 gR gM fZ:=T.G7.ok fun _ _ F=>Bu F T
  have eF:OkF l.prog w K mg base 2 ji iK gU:=T.Rf.ok fun _ _ F=>Lr F T dh dI
  have jY:OkF l.prog w K mg base 1 m_ mZ (m9 (K:=K)):=T.QL.ok fun _ _ F=>KN F
  have Bj:OkF l.prog w K mg base 3 rD rH (p8 (K:=K) fun a b=>a + b):=T.XM.ok fun _ _ F=>QH F eF
  have Aq:OkF l.prog w K mg base 3 tK sY Dv:=T.YG.ok fun _ _ F=>Vk F eF
  have OJ:OkF l.prog w K mg base 3 xq wX Jx:=T.ab8.ok fun _ _ F=>aad F eF
  have KC:OkF l.prog w K mg base 2 gW je (ql K):=T.Aw.ok fun _ _ F=>zE F dI
  have oh:OkF l.prog w K mg base 2 gW je (zc K):=T.Aw.ok fun _ _ F=>Gn F dI
  have qb:OkF l.prog w K mg base 3 i_ jc (zO K):=T.Fe.ok fun _ _ F=>CW F T KC eF
  have pY:OkF l.prog w K mg base 4 jd iQ (yX K D):=T.FN.ok fun _ _ F=>Ca F T qb Aq Bj
  have vZ:OkF l.prog w K mg base 2 m6 ni Ce:=T.O7.ok fun _ _ F=>Ly F T jY
  have zj:OkF l.prog w K mg base 4 oW oZ (Ot D):=T.RK.ok fun _ _ F=>Pb F T OJ
  have eX:OkI l.prog w K mg base CX0 1 D.Hall_size fQ (gP D):=T.yF.ok fun _ F=>wJ F T
  have lE:OkI l.prog w K mg base CX0 2 D.Hall_check_room fu (mU D):=T.vU.ok fun _ F=>wC F T dh eX
  have pP:OkI l.prog w K mg base CX0 3 D.Hall_offers iU (o9 D):=T.CZ.ok fun _ F=>Bw F T lE
  exact T.G9.ok fun _ _ F=>EY F T oh pY vZ zj eX pP
 have qK:∀ a ns,OkF l.prog w K mg base 1 u_ vf (xP K a ns):=fun a ns=>T.abG.ok fun _ _ F=>aaK F a ns
 have dh:OkF l.prog w K mg base 1 fM fK jh:=T.Cm.ok fun _ _ F=>zX F T
 have Gr:OkF l.prog w K mg base 1 zy zx CT:=T.ae1.ok fun _ _ F=>acv F T
 have dI:OkF l.prog w K mg base 1 gR gM fZ:=T.G7.ok fun _ _ F=>Bu F T
 have iM:OkF l.prog w K mg base 2 mG mz qw:=T.W5.ok fun _ _ F=>Rz F Gr
 have eF:OkF l.prog w K mg base 2 ji iK gU:=T.Rf.ok fun _ _ F=>Lr F T dh dI
 have jY:OkF l.prog w K mg base 1 m_ mZ (m9 (K:=K)):=T.QL.ok fun _ _ F=>KN F
 have Bj:OkF l.prog w K mg base 3 rD rH (p8 (K:=K) fun a b=>a + b):=T.XM.ok fun _ _ F=>QH F eF
 have Z5:OkF l.prog w K mg base 3 sy sZ (p8 (K:=K) fun a b=>a - b):=T.aaF.ok fun _ _ F=>W_ F eF
 have jw:OkF l.prog w K mg base 1 j7 jZ uN:=T.T_.ok fun _ _ F=>Pj F T
 have gQ:OkF l.prog w K mg base 2 iG iR (gK (K:=K)):=T.Oq.ok fun _ _ F=>Le F T dh dI
 have ig:OkX l.prog w K mg base 3 iw gZ (g_ (K:=K)):=T.JC.okX fun _ _ F=>Fj F T jw gQ
 have yt:OkX l.prog w K mg base 2 dX dY ju:=T.yj.okX fun _ _ F=>vX F T jw
 have Gw:OkX l.prog w K mg base 3 fB fH (oE (K:=K)):=T.Bk.okX fun _ _ F=>Am F T gQ jY
 have jt:OkI l.prog w K mg base (CXO l.prog w) 4 D.Door_init jm (jy (K:=K) D):=T.Ip.ok fun _ F=>J2 F T ig
 have qO:OkI l.prog w K mg base (CXO l.prog w) 5 D.Sure_init lF (q_ (K:=K) D):=T.Km.ok fun _ F=>Jz F T jt yt
 have sG:OkI l.prog w K mg base CX0 1 D.Door_ways kh (ou D):=T.IK.ok fun _ F=>Ij F T
 have KC:OkF l.prog w K mg base 2 gW je (ql K):=T.Aw.ok fun _ _ F=>zE F dI
 have oh:OkF l.prog w K mg base 2 gW je xV:=T.Aw.ok fun _ _ F=>(zE F dI).imp fun _ _ _ _ h=>Wy h
 have Zc:OkF l.prog w K mg base 3 tO uo wW:=T.f_total.ok fun _ _ F=>Xd F T oh eF
 have Xw:OkX l.prog w K mg base 4 iH iI kW:=T.Fo.okX fun _ _ F=>Cg F T yt Gw Zc.wild
 have Tz:OkX l.prog w K mg base 4 iT jf (uX K):=T.Em.okX fun _ _ F=>CQ F T Bj.wild
 have d7:OkI l.prog w K mg base (CXO l.prog w) 5 D.Mixed_init fV (fX K D):=T.Ey.ok fun _ F=>Fp F T jt Xw Tz
 have rF:OkI l.prog w K mg base (CXO l.prog w) 6 D.Toss_init lO (rM K D):=T.Kg.ok fun _ F=>Jj F T ig Gw Z5.wild d7
 have qC:OkI l.prog w K mg base (CXO l.prog w) 6 D.Even_init lW (rB K D):=T.Kf.ok fun _ F=>Ko F T d7
 have pW:OkF l.prog w K mg base 3 jk iZ (lu (K:=K)):=T.Ga.ok fun _ _ F=>Di F T gQ jY
 have rG:OkF l.prog w K mg base 2 jT jU mV:=T.JR.ok fun _ _ F=>Eo F T jw
 have nF:OkF l.prog w K mg base 2 gH gF (jq D):=T.Ah.ok fun _ _ F=>zB F T sG
 have rZ:OkF l.prog w K mg base 3 lQ lG (oA D):=T.MP.ok fun _ _ F=>JM F T nF
 have Lq:OkI l.prog w K mg base CX0 4 D.Hall_init kE (rE K D):=T.J3.ok fun _ F=>Jf F T pW rG rZ
 have eX:OkI l.prog w K mg base CX0 1 D.Hall_size fQ (gP D):=T.yF.ok fun _ F=>wJ F T
 have dR:OkF l.prog w K mg base 1 iB gY h_:=T.Vu.ok fun _ _ F=>RQ F T
 have Av:OkF l.prog w K mg base 2 uI uE BP:=T.Y0.ok fun _ _ F=>Vi F T dR
 have Je:OkF l.prog w K mg base 8 sW tW (Dy K D):=T.Z4.ok fun _ _ F=>Wx F T qO d7 rF qC
 have NZ:OkF l.prog w K mg base 9 yx xJ (Jl K D):=T.abk.ok fun _ _ F=>aao F T Av Je Lq.wild
 have Xj:OkF l.prog w K mg base 3 Dt BK NK:=T.aeo.ok fun _ _ F=>ab0 F T iM
 have Jp:OkF l.prog w K mg base 3 uy rY D_:=T.aaQ.ok fun _ _ F=>VD F T dR iM
 have PX:OkF l.prog w K mg base 4 wI xg Ao:=T.abD.ok fun _ _ F=>YJ F T dR iM Xj
 have HX:∀ a ns,OkF l.prog w K mg base 5 t_ ux (BZ K a ns):=fun a ns=>T.aay.ok fun _ _ F=>XJ F T a ns (qK a ns) dR PX
 have JG:OkF l.prog w K mg base 2 tX uF Cy:=T.aam.ok fun _ _ F=>VL F T dR
 have pR:OkX l.prog w K mg base 2 jG jF (JL D):=T.Jt.okX fun _ _ F=>Fx F T dh
 have lR:OkX l.prog w K mg base 8 eZ gB (qX K D):=T.FW.okX fun _ _ _ F hc hC=>Du F hc hC T hB kO pR eX
 have rW:OkF l.prog w K mg base 2 lM kj (Pg K):=T.Ms.ok fun _ _ F=>Jq F T Gr
 have rA:OkF l.prog w K mg base 3 jN jV (Nj K):=T.Ii.ok fun _ _ F=>Gg F T rW
 have rm:OkF l.prog w K mg base 4 jO jH (Np K):=T.Iw.ok fun _ _ F=>FP F T rA
 have Ox:OkF l.prog w K mg base 1 xO wU (JH K):=T.aby.ok fun _ _ F=>YC F T
 have Ig:OkF l.prog w K mg base 1 uf tQ (Cu K):=T.aaf.ok fun _ _ F=>Wq F T
 have Pz:OkF l.prog w K mg base 1 wQ yw (Jh K):=T.f_look.ok fun _ _ F=>aaJ F T
 have Ay:OkF l.prog w K mg base 5 uO tU (CV K D):=T.aaH.ok fun _ _ F=>Wf F T rm Pz Ig Ox
 have zf:OkF l.prog w K mg base 9 oV o_ Nk:=T.TY.ok fun _ _ F=>Pn F T lR
 exact abt F T qK JG Jp HX NZ dR lR.calm zf Ay
end K50
open PySem PySem.W PyProof.Rows
set_option maxRecDepth 100000 in
set_option maxHeartbeats 0 in
theorem PySem.Challenge.cw_chancehall_k50_best_rounds_holds : PySem.Challenge.rw_chancehall_k50_best_rounds.Holds := by
 w_on
 refine holds_law H50.wsd fun said=>?_
 refine holds_open (q:=H50.qv) (loose:=[]) (XP:=XL H50.qv []) (YP:=InK H50.KHT) H50.left (InK.of H50.asK) InK.keeps H50.hX XL.keeps (by rfl) (by rfl) (by rfl) H50.hR (by rfl) said (by decide +kernel) ⟨rfl,rfl,rfl,rfl,rfl,by decide +kernel⟩ ?hw ?hc
 (case hw=>w_witness2)
 have hkf:PySem.Challenge.rw_chancehall_k50_best_rounds = PySem.Challenge.rw_chancehall_k50_best_rounds/\H50.KH = H50.KH:=by
  k_fill
  exact ⟨rfl,rfl⟩
 clear hkf
 refine L2.abf (l:=PySem.Challenge.rw_chancehall_k50_best_rounds) (k:=10) (x := "_law_script") 294 298 rfl rfl ⟨rfl,by decide,by decide⟩ (fun w h Y=>L2.Vq (K:=H50.KH w.params) (show (H50.KH w.params ++ [(294,L2.Once.fE)]).In h from Y) (by kernel_rfl)) (fun w=>by kernel_rfl) (fun w=>by kernel_rfl) ?F
 case F =>
  intro w mg fa h KX G hmg
  refine ⟨K50.K4,?_,fun base f fd hB F=>K50.law_fn ?T base hB f fd F⟩
  .exact L2.q_f 1 fun _ _ _ _ _ _ _=>rfl
  case T =>
   refine ⟨⟨31,44,56,68,80,92,111,130,149,168,366,387,406,425,442,527,185,186,349,356,363,384,403,422,439,484,491,498,505,512,519,524,294⟩,rfl,⟨L2.q_c,L2.q_c,L2.q_c,L2.q_c,L2.q_c,L2.q_c,L2.q_c,L2.q_c,L2.q_c,L2.q_c,L2.q_c,L2.q_c,L2.q_c,L2.q_c,L2.q_c,L2.q_c,L2.q_c,L2.q_c,L2.q_x,L2.q_x,L2.q_x,L2.q_x,⟨by k_is,by k_is,by k_is,by k_is,by k_is⟩,by kit_is,by kit_is,by kit_is,by kit_is,by kit_is,by kit_is,by kit_is,by kit_is,by kit_is,by kit_is,by k_is,by k_is,by k_is,L2.q_g,L2.q_g,L2.q_t,L2.q_t,L2.q_M,L2.q_4,L2.q_I,L2.q_m,L2.q_m,L2.q_n,L2.q_n,L2.q_n,L2.q_n,L2.q_n,L2.q_n,L2.q_M,L2.q_4,L2.q_I,L2.q_m,L2.q_m,L2.q_n,L2.q_n,L2.q_n,L2.q_n,L2.q_n,L2.q_n,L2.q_M,L2.q_4,L2.q_I,L2.q_m,L2.q_m,L2.q_n,L2.q_n,L2.q_n,L2.q_n,L2.q_n,L2.q_n,L2.q_M,L2.q_4,L2.q_I,L2.q_m,L2.q_m,L2.q_n,L2.q_n,L2.q_n,L2.q_n,L2.q_n,L2.q_n,L2.q_M,L2.q_4,L2.q_I,L2.q_m,L2.q_m,L2.q_n,L2.q_n,L2.q_n,L2.q_n,L2.q_n,L2.q_n,L2.q_M,L2.q_4,L2.q_I,L2.q_m,L2.q_m,L2.q_m,L2.q_m,L2.q_m,L2.q_m,L2.q_n,L2.q_n,L2.q_n,L2.q_n,L2.q_n,L2.q_n,L2.q_B,L2.q_h 3 fun _ _ _ _ _ _ _ _ _=>rfl,L2.q_B,L2.q_h 1 fun _ _ _ _ _ _ _=>rfl,L2.q_B,L2.q_h 2 fun _ _ _ _ _ _ _ _=>rfl,L2.q_B,L2.q_h 4 fun _ _ _ _ _ _ _ _ _ _=>rfl,L2.q_B,L2.q_h 4 fun _ _ _ _ _ _ _ _ _ _=>rfl,L2.q_B,L2.q_h 6 fun _ _ _ _ _ _ _ _ _ _ _ _=>rfl,L2.q_B,L2.q_h 4 fun _ _ _ _ _ _ _ _ _ _=>rfl,L2.q_B,L2.q_h 3 fun _ _ _ _ _ _ _ _ _=>rfl,L2.q_B,L2.q_h 1 fun _ _ _ _ _ _ _=>rfl,L2.q_B,L2.q_h 1 fun _ _ _ _ _ _ _=>rfl,L2.q_B,L2.q_h 2 fun _ _ _ _ _ _ _ _=>rfl,L2.q_B,L2.q_h 2 fun _ _ _ _ _ _ _ _=>rfl,L2.q_B,L2.q_h 3 fun _ _ _ _ _ _ _ _ _=>rfl,L2.q_B,L2.q_h 2 fun _ _ _ _ _ _ _ _=>rfl,L2.q_z,L2.q_z,L2.q_z,L2.q_z,L2.q_z,L2.q_z,L2.q_z,L2.q_z,L2.q_z,L2.q_z,L2.q_z,L2.q_z,L2.q_z,L2.q_z,L2.q_z,L2.q_f 1 fun _ _ _ _ _ _ _=>rfl,L2.q_f 1 fun _ _ _ _ _ _ _=>rfl,L2.q_f 2 fun _ _ _ _ _ _ _ _=>rfl,L2.q_f 2 fun _ _ _ _ _ _ _ _=>rfl,L2.q_f 1 fun _ _ _ _ _ _ _=>rfl,L2.q_f 2 fun _ _ _ _ _ _ _ _=>rfl,L2.q_f 2 fun _ _ _ _ _ _ _ _=>rfl,L2.q_f 2 fun _ _ _ _ _ _ _ _=>rfl,L2.q_f 2 fun _ _ _ _ _ _ _ _=>rfl,L2.q_f 2 fun _ _ _ _ _ _ _ _=>rfl,L2.q_f 1 fun _ _ _ _ _ _ _=>rfl,L2.q_f 1 fun _ _ _ _ _ _ _=>rfl,L2.q_f 1 fun _ _ _ _ _ _ _=>rfl,L2.q_f 2 fun _ _ _ _ _ _ _ _=>rfl,L2.q_f 3 fun _ _ _ _ _ _ _ _ _=>rfl,L2.q_f 1 fun _ _ _ _ _ _ _=>rfl,L2.q_f 2 fun _ _ _ _ _ _ _ _=>rfl,L2.q_f 2 fun _ _ _ _ _ _ _ _=>rfl,L2.q_f 3 fun _ _ _ _ _ _ _ _ _=>rfl,L2.q_C 2 fun _ _ _ _ _ _ _ _=>rfl,L2.q_f 1 fun _ _ _ _ _ _ _=>rfl,L2.q_f 2 fun _ _ _ _ _ _ _ _=>rfl,L2.q_f 1 fun _ _ _ _ _ _ _=>rfl,L2.q_f 1 fun _ _ _ _ _ _ _=>rfl,L2.q_f 1 fun _ _ _ _ _ _ _=>rfl,L2.q_f 1 fun _ _ _ _ _ _ _=>rfl,L2.q_f 1 fun _ _ _ _ _ _ _=>rfl,L2.q_f 1 fun _ _ _ _ _ _ _=>rfl,L2.q_f 2 fun _ _ _ _ _ _ _ _=>rfl,L2.q_f 2 fun _ _ _ _ _ _ _ _=>rfl,L2.q_f 2 fun _ _ _ _ _ _ _ _=>rfl,L2.q_f 2 fun _ _ _ _ _ _ _ _=>rfl,L2.q_f 2 fun _ _ _ _ _ _ _ _=>rfl,L2.q_f 2 fun _ _ _ _ _ _ _ _=>rfl,L2.q_f 1 fun _ _ _ _ _ _ _=>rfl,L2.q_f 2 fun _ _ _ _ _ _ _ _=>rfl,L2.q_f 2 fun _ _ _ _ _ _ _ _=>rfl,L2.q_f 2 fun _ _ _ _ _ _ _ _=>rfl,L2.q_f 2 fun _ _ _ _ _ _ _ _=>rfl,L2.q_f 4 fun _ _ _ _ _ _ _ _ _ _=>rfl,L2.q_f 3 fun _ _ _ _ _ _ _ _ _=>rfl,L2.q_f 4 fun _ _ _ _ _ _ _ _ _ _=>rfl,L2.q_f 3 fun _ _ _ _ _ _ _ _ _=>rfl,L2.q_f 3 fun _ _ _ _ _ _ _ _ _=>rfl,L2.q_f 3 fun _ _ _ _ _ _ _ _ _=>rfl,L2.q_f 2 fun _ _ _ _ _ _ _ _=>rfl,L2.q_f 1 fun _ _ _ _ _ _ _=>rfl,L2.q_f 3 fun _ _ _ _ _ _ _ _ _=>rfl,L2.q_f 4 fun _ _ _ _ _ _ _ _ _ _=>rfl,L2.q_f 2 fun _ _ _ _ _ _ _ _=>rfl⟩⟩
#print axioms PySem.Challenge.cw_chancehall_k50_best_rounds_holds
