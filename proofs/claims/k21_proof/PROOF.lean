import PyProof.Rows.All
import Wide.All
import OpenK.AllK
import Wide.FinOn
import Lean
import PyProof.EqAt
import PyProof.EqKinds
import PyProof.TupleCall
import PyProof.EqLayable
import KE.KIntText
import PyProof.EnumMake
import PyProof.EnumStmt
import PyProof.EnumFor
import PyProof.Rows.EnumRows
import PyProof.ExcInit
import PyProof.ExcClass2
import PyProof.InstStoreFacts
import PySem.Challenge.RW_chancehall_k21_looks
noncomputable def aj := @List.getElem?_eq_getElem
noncomputable def ak := @List.length_map
noncomputable def ao := @List.getElem?_eq_some_iff
noncomputable def aq := @List.getElem?_map
noncomputable def au := @List.length_append
noncomputable def aA := @List.mem_of_getElem?
noncomputable def aB := @List.getElem?_append_right
noncomputable def aC := @List.getElem?_append_left
noncomputable def aD := @Nat.le_refl
noncomputable def aF := @PySem.Heap.get?_push_of_some
noncomputable def aG := @List.mem_cons_of_mem
noncomputable def aH := @PySem.Heap.lt_size
noncomputable def aJ := @List.take_of_length_le
noncomputable def aK := @Nat.le_trans
noncomputable def aL := @List.length_replicate
noncomputable def aM := @List.mem_cons_self
noncomputable def aN := @List.take_length
noncomputable def aO := @List.mem_append_right
noncomputable def aP := @Nat.ne_of_lt
noncomputable def aQ := @Nat.lt_of_lt_of_le
noncomputable def aR := @List.getElem_mem
noncomputable def aU := @List.getElem?_of_mem
noncomputable def aV := @Int.fmod_eq_emod_of_nonneg
noncomputable def aW := @PySem.Heap.get?_push_size
noncomputable def aX := @List.size_toArray
noncomputable def aY := @List.length_take
noncomputable def aZ := @Nat.zero_le
noncomputable def bf := @List.map_append
noncomputable def bh := @Bool.false_ne_true
open PySem.W (Frag)
set_option Elab.async false
set_option linter.all false
set_option maxRecDepth 100000
set_option maxHeartbeats 4000000
namespace L2.Once
open PySem PySem.W
noncomputable def z:Pos:=⟨0,0,0,0⟩
noncomputable def tE:Obj:=⟨.type "tuple",none,.seq ⟨[]⟩ 0,⟨[]⟩⟩
noncomputable def fE:Obj:=⟨.none,none,.fields ⟨[]⟩,⟨[]⟩⟩
noncomputable def tN (t:Nat) (l:List Str):Obj:=⟨.type "tuple",none,.seq ⟨(l.zipIdx t).map fun x=>.str x.1 x.2⟩ 0,⟨[]⟩⟩
noncomputable def cO (n q:Str) (t:Nat) (l a f:Int) (r u:Nat):Obj:=⟨.type "code",none,.fields ⟨[.str n t,.str q (t + 1),.str "/claim/cut.py" (t + 2),.int l 0,.int a 0,.int 0 0,.int 0 0,.int f 0,.ref r,.bool true,.int 181 0,.ref (r + 1),.none,.ref (r + 2),.ref (r + 3),.ref (r + 4),.int u 0,.int l 0,.str "/claim/cut.py" (u + 1)]⟩,⟨[]⟩⟩
noncomputable def o11:Obj:={ cls:=.type "tuple",data:=.seq #[] }
noncomputable def o12:Obj:={ cls:=.none,data:=.fields #[] }
noncomputable def o13:Obj:={ cls:=.type "code",data:=.fields #[.str "<module>" 182,.str "<module>" 183,.str "/claim/cut.py" 184,.int 1 0,.int 0 0,.int 0 0,.int 0 0,.int 0 0,.ref 11,.bool false,.int 181 0,.ref 12,.none,.none,.none,.none,.int 185 0,.int 1 0,.str "/claim/cut.py" 186] }
noncomputable def o14:Obj:={ cls:=.type "frame",slots:=#[some (.ref 13),some (.ref 3),some (.ref 3),none,some (.str "__main__" 164),none,some (.ref 0)] }
noncomputable def cP (n q:Str) (t:Nat) (l a f:Int) (r u:Nat):Obj:=⟨.type "code",none,.fields ⟨[.str n t,.str q (t + 1),.str "/claim/cut.py" (t + 2),.int l 0,.int a 0,.int 0 0,.int 0 0,.int f 0,.ref r,.bool true,.int 181 0,.ref (r + 1),.none,.none,.none,.ref (r + 2),.int u 0,.int l 0,.str "/claim/cut.py" (u + 1)]⟩,⟨[]⟩⟩
noncomputable def dE (P:Params) (x:Str) (t:Nat) (v:Value):DictEntry:=⟨PyData.keyHash P x,.str x t,v⟩
noncomputable abbrev lf (o:Obj):BT:=.node o .nil .nil
noncomputable def tr (P:Params):BT:=.node (boot_o_0 P)
 (.node (boot_o_1 P) (.node (boot_o_3 P) (lf (boot_o_7 P)) (lf o11)) (.node (boot_o_5 P) (lf (boot_o_9 P)) (lf o13)))
 (.node (boot_o_2 P) (.node (boot_o_4 P) (lf (boot_o_8 P)) (lf o12)) (.node (boot_o_6 P) (lf (boot_o_10 P)) (lf o14)))
noncomputable def S0 (w:World) (os:OsState):Shared:=⟨boot_heap w.params,Array.mk [],boot_drawn,boot_toks,os⟩
noncomputable def Sa (w:World) (os:OsState):Shared:=⟨⟨Array.mk [boot_o_0 w.params,boot_o_1 w.params,boot_o_2 w.params,boot_o_3 w.params,boot_o_4 w.params,boot_o_5 w.params,boot_o_6 w.params,boot_o_7 w.params,boot_o_8 w.params,boot_o_9 w.params,boot_o_10 w.params,o11,o12,o13,o14],{}⟩,Array.mk [],{},187,os⟩
noncomputable def Sb (w:World) (os:OsState):SharedT:=⟨tr w.params,15,{},⟨[]⟩,{},187,os⟩
noncomputable def env (p:Program):Env:={ scope:=p.main.scope,locals:=mainNs,globals:=mainNs,cells:=[],code:=.ref 13,frame:=some 14 }
noncomputable def cE (p:Program):Code:=.body (behindTheImports p) (env p)
noncomputable abbrev ann:Option Value:=some (.ref 6)
noncomputable abbrev B:List Frame:=[topFrame z]
theorem size (w:World):((boot_heap w.params).isNs mainGlobals && (Array.mk [] : Array GenState).size == 0,(boot_heap w.params).objs.size,(boot_heap w.params).nsMap mainGlobals "__annotations__") = (true,11,ann):=by
 rw [Fast.te8920871248978507458]; kernel_rfl
noncomputable def lC (p:Program) (w:World) (M:Nat) (S:SharedT) (l:List Stmt) (q:Pos) (G:Shared->Prop):Prop:=∃ s,topRun treeTable p w 11 ann M S.abs (restOf l (env p) (cE p) q B) = some s/\G s
theorem lC.cut {p:Program} {w:World} {n M:Nat} {S S':SharedT} {l1 l2:List Stmt} {q q':Pos} {G:Shared->Prop} (h:segRunT treeTable p w 11 ann 1 n S (piecesOf l1 (env p) (cE p) q B) = some (.next,S',cE p,q')) (k:lC p w M S' l2 q' G):lC p w (n + M) S (l1 ++ l2) q G :=
 let ⟨s,a,b⟩:=k
 ⟨s,piece_app (segRun_of h) a,b⟩
theorem lC.cutAt {p:Program} {w:World} {n m M:Nat} {S S':SharedT} {l:List Stmt} {q q':Pos} {G:Shared->Prop} (h:segRunT treeTable p w 11 ann 1 n S (piecesOf (l.take m) (env p) (cE p) q B) = some (.next,S',cE p,q')) (k:lC p w M S' (l.drop m) q' G):lC p w (n + M) S l q G:=by
 have:=lC.cut h k
 rwa [List.take_append_drop] at this
noncomputable def Good {α:Type} (p q:Program) (loose:List Str) (Xt:Shared->Bool) (Yf:Shared->α) (Ya:World->α) (g0:Bool) (w:World) (s:Shared):Prop :=
 (staticsOk (importedModules p.main.body) (boot_heap w.params) s.heap && namesBound p s.heap && gensDone s && laidKept (boot_heap w.params) s.heap,openSeen q loose (importedModules p.main.body) Xt g0 s,Yf s) = (true,openGood q loose,Ya w)
theorem lC.last {p q:Program} {loose:List Str} {Xt:Shared->Bool} {α:Type} {Yf:Shared->α} {Ya:World->α} {g0:Bool} {w:World} {n k:Nat} {S:SharedT} {l:List Stmt} {q0 e:Pos}
  (big:(segRunT treeTable p w 11 ann 1 n S (piecesOf l (env p) (cE p) q0 B)).map (fun r =>
    (r.1,r.2.2.1,r.2.2.2,(topRun treeTable p w 11 ann k r.2.1.abs ⟨doneF .next,cE p,e,B⟩).map fun s =>
     (staticsOk (importedModules p.main.body) (boot_heap w.params) s.heap && namesBound p s.heap && gensDone s && laidKept (boot_heap w.params) s.heap,openSeen q loose (importedModules p.main.body) Xt g0 s,Yf s))) =
   some (.next,cE p,e,some (true,openGood q loose,Ya w))):lC p w (n + k) S l q0 (Good p q loose Xt Yf Ya g0 w):=by
 obtain ⟨⟨f,sT,c,ps⟩,r1,r2⟩:=Option.map_eq_some_iff.mp big
 obtain ⟨rfl,rfl,rfl,r3⟩ : f = .next/\c = cE p/\ps = e/\_:=by simpa only [Prod.mk.injEq] using r2
 obtain ⟨s,t1,t2⟩:=Option.map_eq_some_iff.mp r3
 have q1:=piece_app (rest:=[]) (segRun_of r1) (piece_nil t1)
 rw [List.append_nil] at q1
 exact ⟨s,q1,t2⟩
theorem O2 {p q:Program} {loose:List Str} {Xt:Shared->Bool} {α:Type} {Yf:Shared->α} {Ya:World->α} {N:Nat} {g0:Bool} {a b M:Nat}
  (open_:∀ w:World,(fencedOpening treeTable p w N).map (fun s=>(s.heap,s.gens,s.drawn,s.toks)) = some (boot_heap w.params,Array.mk [],boot_drawn,boot_toks))
  (pre:∀ w:World,(fun os=>topGo treeTable p w 11 ann a (S0 w os) (topStub p)) = fun os=>some (Sa w os,⟨denote treeTable (cE p),cE p,z,B⟩))
  (block:∀ w:World,(fun os=>segRun treeTable p w 11 ann 1 b (Sa w os) (blockOf (behindTheImports p) (env p) (cE p) z B)) = fun os=>some (.next,(Sb w os).abs,cE p,z))
  (ends:∀ (w:World) (os:OsState),lC p w M (Sb w os) (behindTheImports p) z (Good p q loose Xt Yf Ya g0 w))
  (le:Nat.ble (a + (b + M)) N = true):LeftO p q loose Xt Yf Ya N g0:=fun w=>by
 obtain ⟨⟨h,gs,d,ks,os⟩,e1,e2⟩:=Option.map_eq_some_iff.mp (open_ w)
 obtain ⟨rfl,rfl,rfl,rfl⟩ : h = boot_heap w.params/\gs = Array.mk []/\d = boot_drawn/\ks = boot_toks:=by simpa using e2
 obtain ⟨z1,z2,z3⟩ : _/\_/\_:=by simpa only [Prod.mk.injEq] using size w
 obtain ⟨s,q1,t2⟩:=ends w os
 obtain ⟨l1,l2,l3⟩ : _/\_/\_:=by simpa only [Good,Prod.mk.injEq] using t2
 have q2:=go_top (congrFun (pre w) os) (piece_block (congrFun (block w) os) q1)
 have q3:=topRun_mono (N - (a + (b + M))) _ _ _ _ q2
 rw [show a + (b + M) + (N - (a + (b + M))) = N by have:=Nat.le_of_ble_eq_true le; omega] at q3
 have t:topFrom treeTable p w N ⟨boot_heap w.params,Array.mk [],boot_drawn,boot_toks,os⟩ = some s:=by
  unfold topFrom
  dsimp only
  rw [z1,z2,z3,show topRun treeTable p w 11 ann N ⟨boot_heap w.params,Array.mk [],boot_drawn,boot_toks,os⟩ (topStub p) = some s from q3]
  show (match staticsOk (importedModules p.main.body) (boot_heap w.params) s.heap && namesBound p s.heap && gensDone s && laidKept (boot_heap w.params) s.heap with | true=>_ | false=>_) = _
  rw [l1]
 unfold openEnds
 rw [e1]
 show (topFrom treeTable p w N _).map _ = _
 rw [t]
 exact congrArg some (Prod.ext l2 l3)
end L2.Once
namespace L2
open PySem
noncomputable def iG (s:Stmt):Arguments:=match s with
 | .FunctionDef _ a _ _ _ _ _ _ _ _=>a
 | _=>{ posonlyargs:=[],args:=[],vararg:=none,kwonlyargs:=[],kw_defaults:=[],kwarg:=none,defaults:=[] }
noncomputable def eX (s:Stmt):List Stmt:=match s with
 | .FunctionDef _ _ b _ _ _ _ _ _ _=>b
 | _=>[]
noncomputable def bH (s:Stmt):Scope:=match s with
 | .FunctionDef _ _ _ _ _ _ sc _ _ _=>sc
 | _=>{ kind:=.function,names:=[],isGenerator:=false,isCoroutine:=false }
end L2
namespace K21
open PySem L2
noncomputable def top (i:Nat):Stmt:=PySem.Challenge.pw_chancehall_k21_looks.main.body.getD i (.Pass ⟨0,0,0,0⟩)
noncomputable def dH (i j:Nat):Stmt:=match top i with | .ClassDef _ _ _ b _ _ _ _ _ _ _=>b.getD j (.Pass ⟨0,0,0,0⟩) | _=>.Pass ⟨0,0,0,0⟩
end K21
namespace H21
open PySem PySem.W L2 L2.Once K21
noncomputable abbrev p:Program:=PySem.Challenge.pw_chancehall_k21_looks
noncomputable section
noncomputable def fO (n q:Str) (s:Stmt) (m:Value) (c:Nat):Obj:=⟨.type "function",none,.func (fnOf n q (iG s) (eX s) (bH s) .none .none .none m none (.ref c) .none),⟨[]⟩⟩
noncomputable def fT (n q:Str) (s:Stmt):Obj:=⟨.none,none,.func { fnOf n q (iG s) (eX s) (bH s) .none .none .none .none none .none .none with globals:=0,builtins:=0 },⟨[]⟩⟩
noncomputable def aea (P:Params):Obj:=⟨(.type "dict"),none,(.dict ⟨dE P "__name__" 165 (.str "law_chancehall_k21_looks" 832) :: dE P "__doc__" 166 .none :: dE P "__package__" 167 .none :: dE P "__loader__" 168 (.builtin "__main__.__loader__#opaque") :: dE P "__spec__" 169 .none :: dE P "__annotations__" 170 (.ref 6) :: dE P "__builtins__" 171 (.ref 4) :: dE P "__file__" 173 (.str "/claim/cut.py" 172) :: dE P "__cached__" 174 .none :: dE P "_wall" 193 (.ref 21) :: dE P "HallError" 213 (.ref 31) :: dE P "NoNumber" 229 (.ref 44) :: dE P "NoName" 245 (.ref 56) :: dE P "NoChance" 261 (.ref 68) :: dE P "NoShare" 277 (.ref 80) :: dE P "NoText" 293 (.ref 92) :: dE P "NoRow" 318 (.ref 111) :: dE P "NoRoom" 343 (.ref 130) :: dE P "NoDoor" 368 (.ref 149) :: dE P "NoPlan" 393 (.ref 168) :: dE P "is_whole" 402 (.ref 177) :: dE P "divisor" 413 (.ref 184) :: dE P "NOUGHT" 418 (.ref 185) :: dE P "ONE" 421 (.ref 186) :: dE P "ratio" 430 (.ref 193) :: dE P "is_ratio" 439 (.ref 200) :: dE P "plus" 447 (.ref 207) :: dE P "minus" 455 (.ref 214) :: dE P "times" 463 (.ref 221) :: dE P "over" 471 (.ref 228) :: dE P "under" 479 (.ref 235) :: dE P "level" 487 (.ref 240) :: dE P "total" 495 (.ref 247) :: dE P "behind_door" 503 (.ref 252) :: dE P "raised_look" 513 (.ref 259) :: dE P "looks" 519 (.ref 264) :: dE P "LONGEST_WORD" 523 (.int 8 522) :: dE P "is_word" 529 (.ref 269) :: dE P "check_head" 539 (.ref 276) :: dE P "check_room_name" 546 (.ref 283) :: dE P "check_chance" 553 (.ref 290) :: dE P "check_pairs" 559 (.ref 295) :: dE P "joined_ways" 565 (.ref 300) :: dE P "Door" 612 (.ref 331) :: dE P "Sure" 639 (.ref 352) :: dE P "Mixed" 666 (.ref 371) :: dE P "Toss" 694 (.ref 390) :: dE P "Even" 716 (.ref 407) :: dE P "check_share" 725 (.ref 416) :: dE P "numbers_of" 735 (.ref 423) :: dE P "numbered_ways" 746 (.ref 430) :: dE P "offers_of" 757 (.ref 437) :: dE P "Hall" 831 (.ref 492) :: dE P "_law_cell" 841 (.ref 503) :: dE P "_law_stream" 853 (.ref 510) :: dE P "_law_gcd" 863 (.ref 517) :: dE P "_law_ratio" 872 (.ref 524) :: dE P "_law_is_ratio" 880 (.ref 531) :: dE P "_law_are_ratios" 886 (.ref 536) :: dE P "_law_same" 894 (.ref 543) :: dE P "_law_names" 900 (.ref 548) :: dE P "_law_share" 909 (.ref 555) :: dE P "_law_pay" 918 (.ref 562) :: dE P "_law_door" 924 (.ref 567) :: dE P "_law_doors" 930 (.ref 572) :: dE P "_law_built" 936 (.ref 577) :: dE P "_law_hall" 942 (.ref 582) :: dE P "_law_chosen" 953 (.ref 589) :: dE P "_law_look" 967 (.ref 596) :: dE P "_law_size" 975 (.ref 603) :: dE P "_law_worths" 981 (.ref 608) :: dE P "_law_right" 987 (.ref 613) :: []⟩ 72),⟨[]⟩⟩
noncomputable def ab6:Obj:=⟨.none,none,(.fields ⟨(.int 1 0) :: (.int 0 0) :: (.ref 20) :: (.int 5 0) :: (.int 0 0) :: (.ref 27) :: (.int 7 0) :: (.int 0 0) :: (.ref 40) :: (.int 9 0) :: (.int 0 0) :: (.ref 52) :: (.int 11 0) :: (.int 0 0) :: (.ref 64) :: (.int 13 0) :: (.int 0 0) :: (.ref 76) :: (.int 15 0) :: (.int 0 0) :: (.ref 88) :: (.int 17 0) :: (.int 0 0) :: (.ref 100) :: (.int 22 0) :: (.int 0 0) :: (.ref 119) :: (.int 27 0) :: (.int 0 0) :: (.ref 138) :: (.int 32 0) :: (.int 0 0) :: (.ref 157) :: (.int 38 0) :: (.int 0 0) :: (.ref 176) :: (.int 40 0) :: (.int 0 0) :: (.ref 183) :: (.int 51 0) :: (.int 0 0) :: (.ref 192) :: (.int 60 0) :: (.int 0 0) :: (.ref 199) :: (.int 68 0) :: (.int 0 0) :: (.ref 206) :: (.int 70 0) :: (.int 0 0) :: (.ref 213) :: (.int 72 0) :: (.int 0 0) :: (.ref 220) :: (.int 74 0) :: (.int 0 0) :: (.ref 227) :: (.int 76 0) :: (.int 0 0) :: (.ref 234) :: (.int 79 0) :: (.int 0 0) :: (.ref 239) :: (.int 84 0) :: (.int 0 0) :: (.ref 246) :: (.int 88 0) :: (.int 0 0) :: (.ref 251) :: (.int 91 0) :: (.int 0 0) :: (.ref 258) :: (.int 94 0) :: (.int 0 0) :: (.ref 263) :: (.int 100 0) :: (.int 0 0) :: (.ref 268) :: (.int 105 0) :: (.int 0 0) :: (.ref 275) :: (.int 110 0) :: (.int 0 0) :: (.ref 282) :: (.int 113 0) :: (.int 0 0) :: (.ref 289) :: (.int 116 0) :: (.int 0 0) :: (.ref 294) :: (.int 122 0) :: (.int 0 0) :: (.ref 299) :: (.int 127 0) :: (.int 0 0) :: (.ref 306) :: (.int 140 0) :: (.int 0 0) :: (.ref 341) :: (.int 146 0) :: (.int 0 0) :: (.ref 360) :: (.int 152 0) :: (.int 0 0) :: (.ref 379) :: (.int 158 0) :: (.int 0 0) :: (.ref 398) :: (.int 163 0) :: (.int 0 0) :: (.ref 415) :: (.int 166 0) :: (.int 0 0) :: (.ref 422) :: (.int 174 0) :: (.int 0 0) :: (.ref 429) :: (.int 181 0) :: (.int 0 0) :: (.ref 436) :: (.int 190 0) :: (.int 0 0) :: (.ref 443) :: (.int 220 0) :: (.int 0 0) :: (.ref 502) :: (.int 222 0) :: (.int 0 0) :: (.ref 509) :: (.int 233 0) :: (.int 0 0) :: (.ref 516) :: (.int 238 0) :: (.int 0 0) :: (.ref 523) :: (.int 241 0) :: (.int 0 0) :: (.ref 530) :: (.int 248 0) :: (.int 0 0) :: (.ref 535) :: (.int 252 0) :: (.int 0 0) :: (.ref 542) :: (.int 254 0) :: (.int 0 0) :: (.ref 547) :: (.int 263 0) :: (.int 0 0) :: (.ref 554) :: (.int 267 0) :: (.int 0 0) :: (.ref 561) :: (.int 275 0) :: (.int 0 0) :: (.ref 566) :: (.int 292 0) :: (.int 0 0) :: (.ref 571) :: (.int 302 0) :: (.int 0 0) :: (.ref 576) :: (.int 312 0) :: (.int 0 0) :: (.ref 581) :: (.int 319 0) :: (.int 0 0) :: (.ref 588) :: (.int 328 0) :: (.int 0 0) :: (.ref 595) :: (.int 338 0) :: (.int 0 0) :: (.ref 602) :: (.int 343 0) :: (.int 0 0) :: (.ref 607) :: (.int 346 0) :: (.int 0 0) :: (.ref 612) :: []⟩),⟨[]⟩⟩
noncomputable def q21:Obj:=(fO "_wall" "_wall" (top 0) (.str "__main__" 164) 20)
noncomputable def q22:Obj:=⟨(.type "tuple"),none,(.seq ⟨(.type "ValueError") :: []⟩ 0),⟨[]⟩⟩
noncomputable def q23:Obj:=⟨(.type "builtin_function_or_method"),none,(.fields ⟨(.builtin "type.__prepare__") :: (.type "type") :: []⟩),⟨[]⟩⟩
noncomputable def q24 (P:Params):Obj:=⟨(.type "dict"),none,(.dict ⟨dE P "__module__" 203 (.str "chancehall.errors" 194) :: dE P "__qualname__" 205 (.str "HallError" 204) :: dE P "__firstlineno__" 207 (.int 5 206) :: dE P "__static_attributes__" 208 (.ref 29) :: []⟩ 4),⟨[]⟩⟩
noncomputable def q27:Obj:=⟨(.type "code"),none,(.fields ⟨(.str "HallError" 198) :: (.str "HallError" 199) :: (.str "/claim/cut.py" 200) :: (.int 5 0) :: (.int 0 0) :: (.int 0 0) :: (.int 0 0) :: (.int 0 0) :: (.ref 25) :: (.bool false) :: (.int 181 0) :: (.ref 26) :: .none :: .none :: .none :: .none :: (.int 201 0) :: (.int 5 0) :: (.str "/claim/cut.py" 202) :: []⟩),⟨[]⟩⟩
noncomputable def q28:Obj:=⟨(.type "frame"),none,.plain,⟨(some (.ref 27)) :: (some (.ref 3)) :: (some (.ref 24)) :: none :: (some (.str "chancehall.errors" 194)) :: none :: (some (.ref 0)) :: []⟩⟩
noncomputable def q30 (P:Params):Obj:=⟨(.type "dict"),none,(.dict ⟨dE P "__module__" 203 (.str "chancehall.errors" 194) :: dE P "__firstlineno__" 207 (.int 5 206) :: dE P "__static_attributes__" 208 (.ref 29) :: dE P "__weakref__" 210 (.ref 32) :: dE P "__doc__" 211 .none :: []⟩ 3),⟨[]⟩⟩
noncomputable def q31:Obj:=⟨(.type "type"),none,(.cls ⟨"HallError",[(.type "ValueError")],[(.ref 31),(.type "ValueError"),(.type "Exception"),(.type "BaseException"),(.type "object")],30, "HallError",true,[],[(.ref 44),(.ref 56),(.ref 68),(.ref 80),(.ref 92),(.ref 111),(.ref 130),(.ref 149),(.ref 168)],false,none,false⟩),⟨(some (.ref 22)) :: none :: (some (.str "HallError" 196)) :: (some (.str "HallError" 204)) :: (some (.builtin "ValueError.__new__")) :: (some (.bool true)) :: []⟩⟩
noncomputable def q32:Obj:=⟨(.type "getset_descriptor"),none,(.fields ⟨(.str "__weakref__" 209) :: (.ref 31) :: (.builtin "ExceptionGroup.__weakref__") :: .none :: []⟩),⟨[]⟩⟩
noncomputable def q33:Obj:=⟨(.type "super"),none,(.fields ⟨(.ref 31) :: (.ref 31) :: (.ref 31) :: []⟩),⟨[]⟩⟩
noncomputable def q34:Obj:=⟨(.type "builtin_function_or_method"),none,(.fields ⟨(.builtin "object.__init_subclass__") :: (.ref 31) :: []⟩),⟨[]⟩⟩
noncomputable def q35:Obj:=⟨(.type "tuple"),none,(.seq ⟨(.ref 31) :: []⟩ 0),⟨[]⟩⟩
noncomputable def q36:Obj:=⟨(.type "builtin_function_or_method"),none,(.fields ⟨(.builtin "type.__prepare__") :: (.type "type") :: []⟩),⟨[]⟩⟩
noncomputable def q37 (P:Params):Obj:=⟨(.type "dict"),none,(.dict ⟨dE P "__module__" 221 (.str "chancehall.errors" 194) :: dE P "__qualname__" 223 (.str "NoNumber" 222) :: dE P "__firstlineno__" 225 (.int 7 224) :: dE P "__static_attributes__" 226 (.ref 42) :: []⟩ 4),⟨[]⟩⟩
noncomputable def q40:Obj:=⟨(.type "code"),none,(.fields ⟨(.str "NoNumber" 216) :: (.str "NoNumber" 217) :: (.str "/claim/cut.py" 218) :: (.int 7 0) :: (.int 0 0) :: (.int 0 0) :: (.int 0 0) :: (.int 0 0) :: (.ref 38) :: (.bool false) :: (.int 181 0) :: (.ref 39) :: .none :: .none :: .none :: .none :: (.int 219 0) :: (.int 7 0) :: (.str "/claim/cut.py" 220) :: []⟩),⟨[]⟩⟩
noncomputable def q41:Obj:=⟨(.type "frame"),none,.plain,⟨(some (.ref 40)) :: (some (.ref 3)) :: (some (.ref 37)) :: none :: (some (.str "chancehall.errors" 194)) :: none :: (some (.ref 0)) :: []⟩⟩
noncomputable def q43 (P:Params):Obj:=⟨(.type "dict"),none,(.dict ⟨dE P "__module__" 221 (.str "chancehall.errors" 194) :: dE P "__firstlineno__" 225 (.int 7 224) :: dE P "__static_attributes__" 226 (.ref 42) :: dE P "__doc__" 227 .none :: []⟩ 2),⟨[]⟩⟩
noncomputable def q44:Obj:=⟨(.type "type"),none,(.cls ⟨"NoNumber",[(.ref 31)],[(.ref 44),(.ref 31),(.type "ValueError"),(.type "Exception"),(.type "BaseException"),(.type "object")],43, "NoNumber",true,[],[],false,none,false⟩),⟨(some (.ref 35)) :: none :: (some (.str "NoNumber" 214)) :: (some (.str "NoNumber" 222)) :: (some (.builtin "ValueError.__new__")) :: (some (.bool true)) :: []⟩⟩
noncomputable def q45:Obj:=⟨(.type "super"),none,(.fields ⟨(.ref 44) :: (.ref 44) :: (.ref 44) :: []⟩),⟨[]⟩⟩
noncomputable def q46:Obj:=⟨(.type "builtin_function_or_method"),none,(.fields ⟨(.builtin "object.__init_subclass__") :: (.ref 44) :: []⟩),⟨[]⟩⟩
noncomputable def q47:Obj:=⟨(.type "tuple"),none,(.seq ⟨(.ref 31) :: []⟩ 0),⟨[]⟩⟩
noncomputable def q48:Obj:=⟨(.type "builtin_function_or_method"),none,(.fields ⟨(.builtin "type.__prepare__") :: (.type "type") :: []⟩),⟨[]⟩⟩
noncomputable def q49 (P:Params):Obj:=⟨(.type "dict"),none,(.dict ⟨dE P "__module__" 237 (.str "chancehall.errors" 194) :: dE P "__qualname__" 239 (.str "NoName" 238) :: dE P "__firstlineno__" 241 (.int 9 240) :: dE P "__static_attributes__" 242 (.ref 54) :: []⟩ 4),⟨[]⟩⟩
noncomputable def q52:Obj:=⟨(.type "code"),none,(.fields ⟨(.str "NoName" 232) :: (.str "NoName" 233) :: (.str "/claim/cut.py" 234) :: (.int 9 0) :: (.int 0 0) :: (.int 0 0) :: (.int 0 0) :: (.int 0 0) :: (.ref 50) :: (.bool false) :: (.int 181 0) :: (.ref 51) :: .none :: .none :: .none :: .none :: (.int 235 0) :: (.int 9 0) :: (.str "/claim/cut.py" 236) :: []⟩),⟨[]⟩⟩
noncomputable def q53:Obj:=⟨(.type "frame"),none,.plain,⟨(some (.ref 52)) :: (some (.ref 3)) :: (some (.ref 49)) :: none :: (some (.str "chancehall.errors" 194)) :: none :: (some (.ref 0)) :: []⟩⟩
noncomputable def q55 (P:Params):Obj:=⟨(.type "dict"),none,(.dict ⟨dE P "__module__" 237 (.str "chancehall.errors" 194) :: dE P "__firstlineno__" 241 (.int 9 240) :: dE P "__static_attributes__" 242 (.ref 54) :: dE P "__doc__" 243 .none :: []⟩ 2),⟨[]⟩⟩
noncomputable def q56:Obj:=⟨(.type "type"),none,(.cls ⟨"NoName",[(.ref 31)],[(.ref 56),(.ref 31),(.type "ValueError"),(.type "Exception"),(.type "BaseException"),(.type "object")],55, "NoName",true,[],[],false,none,false⟩),⟨(some (.ref 47)) :: none :: (some (.str "NoName" 230)) :: (some (.str "NoName" 238)) :: (some (.builtin "ValueError.__new__")) :: (some (.bool true)) :: []⟩⟩
noncomputable def q57:Obj:=⟨(.type "super"),none,(.fields ⟨(.ref 56) :: (.ref 56) :: (.ref 56) :: []⟩),⟨[]⟩⟩
noncomputable def q58:Obj:=⟨(.type "builtin_function_or_method"),none,(.fields ⟨(.builtin "object.__init_subclass__") :: (.ref 56) :: []⟩),⟨[]⟩⟩
noncomputable def q59:Obj:=⟨(.type "tuple"),none,(.seq ⟨(.ref 31) :: []⟩ 0),⟨[]⟩⟩
noncomputable def q60:Obj:=⟨(.type "builtin_function_or_method"),none,(.fields ⟨(.builtin "type.__prepare__") :: (.type "type") :: []⟩),⟨[]⟩⟩
noncomputable def q61 (P:Params):Obj:=⟨(.type "dict"),none,(.dict ⟨dE P "__module__" 253 (.str "chancehall.errors" 194) :: dE P "__qualname__" 255 (.str "NoChance" 254) :: dE P "__firstlineno__" 257 (.int 11 256) :: dE P "__static_attributes__" 258 (.ref 66) :: []⟩ 4),⟨[]⟩⟩
noncomputable def q64:Obj:=⟨(.type "code"),none,(.fields ⟨(.str "NoChance" 248) :: (.str "NoChance" 249) :: (.str "/claim/cut.py" 250) :: (.int 11 0) :: (.int 0 0) :: (.int 0 0) :: (.int 0 0) :: (.int 0 0) :: (.ref 62) :: (.bool false) :: (.int 181 0) :: (.ref 63) :: .none :: .none :: .none :: .none :: (.int 251 0) :: (.int 11 0) :: (.str "/claim/cut.py" 252) :: []⟩),⟨[]⟩⟩
noncomputable def q65:Obj:=⟨(.type "frame"),none,.plain,⟨(some (.ref 64)) :: (some (.ref 3)) :: (some (.ref 61)) :: none :: (some (.str "chancehall.errors" 194)) :: none :: (some (.ref 0)) :: []⟩⟩
noncomputable def q67 (P:Params):Obj:=⟨(.type "dict"),none,(.dict ⟨dE P "__module__" 253 (.str "chancehall.errors" 194) :: dE P "__firstlineno__" 257 (.int 11 256) :: dE P "__static_attributes__" 258 (.ref 66) :: dE P "__doc__" 259 .none :: []⟩ 2),⟨[]⟩⟩
noncomputable def q68:Obj:=⟨(.type "type"),none,(.cls ⟨"NoChance",[(.ref 31)],[(.ref 68),(.ref 31),(.type "ValueError"),(.type "Exception"),(.type "BaseException"),(.type "object")],67, "NoChance",true,[],[],false,none,false⟩),⟨(some (.ref 59)) :: none :: (some (.str "NoChance" 246)) :: (some (.str "NoChance" 254)) :: (some (.builtin "ValueError.__new__")) :: (some (.bool true)) :: []⟩⟩
noncomputable def q69:Obj:=⟨(.type "super"),none,(.fields ⟨(.ref 68) :: (.ref 68) :: (.ref 68) :: []⟩),⟨[]⟩⟩
noncomputable def q70:Obj:=⟨(.type "builtin_function_or_method"),none,(.fields ⟨(.builtin "object.__init_subclass__") :: (.ref 68) :: []⟩),⟨[]⟩⟩
noncomputable def q71:Obj:=⟨(.type "tuple"),none,(.seq ⟨(.ref 31) :: []⟩ 0),⟨[]⟩⟩
noncomputable def q72:Obj:=⟨(.type "builtin_function_or_method"),none,(.fields ⟨(.builtin "type.__prepare__") :: (.type "type") :: []⟩),⟨[]⟩⟩
noncomputable def q73 (P:Params):Obj:=⟨(.type "dict"),none,(.dict ⟨dE P "__module__" 269 (.str "chancehall.errors" 194) :: dE P "__qualname__" 271 (.str "NoShare" 270) :: dE P "__firstlineno__" 273 (.int 13 272) :: dE P "__static_attributes__" 274 (.ref 78) :: []⟩ 4),⟨[]⟩⟩
noncomputable def q76:Obj:=⟨(.type "code"),none,(.fields ⟨(.str "NoShare" 264) :: (.str "NoShare" 265) :: (.str "/claim/cut.py" 266) :: (.int 13 0) :: (.int 0 0) :: (.int 0 0) :: (.int 0 0) :: (.int 0 0) :: (.ref 74) :: (.bool false) :: (.int 181 0) :: (.ref 75) :: .none :: .none :: .none :: .none :: (.int 267 0) :: (.int 13 0) :: (.str "/claim/cut.py" 268) :: []⟩),⟨[]⟩⟩
noncomputable def q77:Obj:=⟨(.type "frame"),none,.plain,⟨(some (.ref 76)) :: (some (.ref 3)) :: (some (.ref 73)) :: none :: (some (.str "chancehall.errors" 194)) :: none :: (some (.ref 0)) :: []⟩⟩
noncomputable def q79 (P:Params):Obj:=⟨(.type "dict"),none,(.dict ⟨dE P "__module__" 269 (.str "chancehall.errors" 194) :: dE P "__firstlineno__" 273 (.int 13 272) :: dE P "__static_attributes__" 274 (.ref 78) :: dE P "__doc__" 275 .none :: []⟩ 2),⟨[]⟩⟩
noncomputable def q80:Obj:=⟨(.type "type"),none,(.cls ⟨"NoShare",[(.ref 31)],[(.ref 80),(.ref 31),(.type "ValueError"),(.type "Exception"),(.type "BaseException"),(.type "object")],79, "NoShare",true,[],[],false,none,false⟩),⟨(some (.ref 71)) :: none :: (some (.str "NoShare" 262)) :: (some (.str "NoShare" 270)) :: (some (.builtin "ValueError.__new__")) :: (some (.bool true)) :: []⟩⟩
noncomputable def q81:Obj:=⟨(.type "super"),none,(.fields ⟨(.ref 80) :: (.ref 80) :: (.ref 80) :: []⟩),⟨[]⟩⟩
noncomputable def q82:Obj:=⟨(.type "builtin_function_or_method"),none,(.fields ⟨(.builtin "object.__init_subclass__") :: (.ref 80) :: []⟩),⟨[]⟩⟩
noncomputable def q83:Obj:=⟨(.type "tuple"),none,(.seq ⟨(.ref 31) :: []⟩ 0),⟨[]⟩⟩
noncomputable def q84:Obj:=⟨(.type "builtin_function_or_method"),none,(.fields ⟨(.builtin "type.__prepare__") :: (.type "type") :: []⟩),⟨[]⟩⟩
noncomputable def q85 (P:Params):Obj:=⟨(.type "dict"),none,(.dict ⟨dE P "__module__" 285 (.str "chancehall.errors" 194) :: dE P "__qualname__" 287 (.str "NoText" 286) :: dE P "__firstlineno__" 289 (.int 15 288) :: dE P "__static_attributes__" 290 (.ref 90) :: []⟩ 4),⟨[]⟩⟩
noncomputable def q88:Obj:=⟨(.type "code"),none,(.fields ⟨(.str "NoText" 280) :: (.str "NoText" 281) :: (.str "/claim/cut.py" 282) :: (.int 15 0) :: (.int 0 0) :: (.int 0 0) :: (.int 0 0) :: (.int 0 0) :: (.ref 86) :: (.bool false) :: (.int 181 0) :: (.ref 87) :: .none :: .none :: .none :: .none :: (.int 283 0) :: (.int 15 0) :: (.str "/claim/cut.py" 284) :: []⟩),⟨[]⟩⟩
noncomputable def q89:Obj:=⟨(.type "frame"),none,.plain,⟨(some (.ref 88)) :: (some (.ref 3)) :: (some (.ref 85)) :: none :: (some (.str "chancehall.errors" 194)) :: none :: (some (.ref 0)) :: []⟩⟩
noncomputable def q91 (P:Params):Obj:=⟨(.type "dict"),none,(.dict ⟨dE P "__module__" 285 (.str "chancehall.errors" 194) :: dE P "__firstlineno__" 289 (.int 15 288) :: dE P "__static_attributes__" 290 (.ref 90) :: dE P "__doc__" 291 .none :: []⟩ 2),⟨[]⟩⟩
noncomputable def q92:Obj:=⟨(.type "type"),none,(.cls ⟨"NoText",[(.ref 31)],[(.ref 92),(.ref 31),(.type "ValueError"),(.type "Exception"),(.type "BaseException"),(.type "object")],91, "NoText",true,[],[],false,none,false⟩),⟨(some (.ref 83)) :: none :: (some (.str "NoText" 278)) :: (some (.str "NoText" 286)) :: (some (.builtin "ValueError.__new__")) :: (some (.bool true)) :: []⟩⟩
noncomputable def q93:Obj:=⟨(.type "super"),none,(.fields ⟨(.ref 92) :: (.ref 92) :: (.ref 92) :: []⟩),⟨[]⟩⟩
noncomputable def q94:Obj:=⟨(.type "builtin_function_or_method"),none,(.fields ⟨(.builtin "object.__init_subclass__") :: (.ref 92) :: []⟩),⟨[]⟩⟩
noncomputable def q95:Obj:=⟨(.type "tuple"),none,(.seq ⟨(.ref 31) :: []⟩ 0),⟨[]⟩⟩
noncomputable def q96:Obj:=⟨(.type "builtin_function_or_method"),none,(.fields ⟨(.builtin "type.__prepare__") :: (.type "type") :: []⟩),⟨[]⟩⟩
noncomputable def q97 (P:Params):Obj:=⟨(.type "dict"),none,(.dict ⟨dE P "__module__" 301 (.str "chancehall.errors" 194) :: dE P "__qualname__" 303 (.str "NoRow" 302) :: dE P "__firstlineno__" 305 (.int 17 304) :: dE P "__init__" 313 (.ref 108) :: dE P "__static_attributes__" 315 (.ref 109) :: []⟩ 5),⟨[]⟩⟩
noncomputable def q99:Obj:=⟨.none,none,(.fields ⟨(.int 19 0) :: (.int 4 0) :: (.ref 107) :: []⟩),⟨[]⟩⟩
noncomputable def aeJ:Obj:=⟨(.type "code"),none,(.fields ⟨(.str "NoRow" 296) :: (.str "NoRow" 297) :: (.str "/claim/cut.py" 298) :: (.int 17 0) :: (.int 0 0) :: (.int 0 0) :: (.int 0 0) :: (.int 0 0) :: (.ref 98) :: (.bool false) :: (.int 181 0) :: (.ref 99) :: .none :: .none :: .none :: .none :: (.int 299 0) :: (.int 17 0) :: (.str "/claim/cut.py" 300) :: []⟩),⟨[]⟩⟩
noncomputable def aeY:Obj:=⟨(.type "frame"),none,.plain,⟨(some (.ref 100)) :: (some (.ref 3)) :: (some (.ref 97)) :: none :: (some (.str "chancehall.errors" 194)) :: none :: (some (.ref 0)) :: []⟩⟩
noncomputable def adh:Obj:=(cO "__init__" "NoRow.__init__" 306 19 2 3 102 311)
noncomputable def abp:Obj:=(fO "__init__" "NoRow.__init__" (dH 8 0) (.str "chancehall.errors" 194) 107)
noncomputable def ab9 (P:Params):Obj:=⟨(.type "dict"),none,(.dict ⟨dE P "__module__" 301 (.str "chancehall.errors" 194) :: dE P "__firstlineno__" 305 (.int 17 304) :: dE P "__init__" 313 (.ref 108) :: dE P "__static_attributes__" 315 (.ref 109) :: dE P "__doc__" 316 .none :: []⟩ 2),⟨[]⟩⟩
noncomputable def acj:Obj:=⟨(.type "type"),none,(.cls ⟨"NoRow",[(.ref 31)],[(.ref 111),(.ref 31),(.type "ValueError"),(.type "Exception"),(.type "BaseException"),(.type "object")],110, "NoRow",true,[],[],false,none,false⟩),⟨(some (.ref 95)) :: none :: (some (.str "NoRow" 294)) :: (some (.str "NoRow" 302)) :: (some (.builtin "ValueError.__new__")) :: (some (.bool true)) :: []⟩⟩
noncomputable def ae7:Obj:=⟨(.type "super"),none,(.fields ⟨(.ref 111) :: (.ref 111) :: (.ref 111) :: []⟩),⟨[]⟩⟩
noncomputable def aeX:Obj:=⟨(.type "builtin_function_or_method"),none,(.fields ⟨(.builtin "object.__init_subclass__") :: (.ref 111) :: []⟩),⟨[]⟩⟩
noncomputable def acd:Obj:=⟨(.type "tuple"),none,(.seq ⟨(.ref 31) :: []⟩ 0),⟨[]⟩⟩
noncomputable def aeW:Obj:=⟨(.type "builtin_function_or_method"),none,(.fields ⟨(.builtin "type.__prepare__") :: (.type "type") :: []⟩),⟨[]⟩⟩
noncomputable def adX (P:Params):Obj:=⟨(.type "dict"),none,(.dict ⟨dE P "__module__" 326 (.str "chancehall.errors" 194) :: dE P "__qualname__" 328 (.str "NoRoom" 327) :: dE P "__firstlineno__" 330 (.int 22 329) :: dE P "__init__" 338 (.ref 127) :: dE P "__static_attributes__" 340 (.ref 128) :: []⟩ 5),⟨[]⟩⟩
noncomputable def ae6:Obj:=⟨.none,none,(.fields ⟨(.int 24 0) :: (.int 4 0) :: (.ref 126) :: []⟩),⟨[]⟩⟩
noncomputable def ae5:Obj:=⟨(.type "code"),none,(.fields ⟨(.str "NoRoom" 321) :: (.str "NoRoom" 322) :: (.str "/claim/cut.py" 323) :: (.int 22 0) :: (.int 0 0) :: (.int 0 0) :: (.int 0 0) :: (.int 0 0) :: (.ref 117) :: (.bool false) :: (.int 181 0) :: (.ref 118) :: .none :: .none :: .none :: .none :: (.int 324 0) :: (.int 22 0) :: (.str "/claim/cut.py" 325) :: []⟩),⟨[]⟩⟩
noncomputable def ad3:Obj:=⟨(.type "frame"),none,.plain,⟨(some (.ref 119)) :: (some (.ref 3)) :: (some (.ref 116)) :: none :: (some (.str "chancehall.errors" 194)) :: none :: (some (.ref 0)) :: []⟩⟩
noncomputable def ac2:Obj:=(cO "__init__" "NoRoom.__init__" 331 24 2 3 121 336)
noncomputable def abD:Obj:=(fO "__init__" "NoRoom.__init__" (dH 9 0) (.str "chancehall.errors" 194) 126)
noncomputable def abx (P:Params):Obj:=⟨(.type "dict"),none,(.dict ⟨dE P "__module__" 326 (.str "chancehall.errors" 194) :: dE P "__firstlineno__" 330 (.int 22 329) :: dE P "__init__" 338 (.ref 127) :: dE P "__static_attributes__" 340 (.ref 128) :: dE P "__doc__" 341 .none :: []⟩ 2),⟨[]⟩⟩
noncomputable def aaM:Obj:=⟨(.type "type"),none,(.cls ⟨"NoRoom",[(.ref 31)],[(.ref 130),(.ref 31),(.type "ValueError"),(.type "Exception"),(.type "BaseException"),(.type "object")],129, "NoRoom",true,[],[],false,none,false⟩),⟨(some (.ref 114)) :: none :: (some (.str "NoRoom" 319)) :: (some (.str "NoRoom" 327)) :: (some (.builtin "ValueError.__new__")) :: (some (.bool true)) :: []⟩⟩
noncomputable def aeg:Obj:=⟨(.type "super"),none,(.fields ⟨(.ref 130) :: (.ref 130) :: (.ref 130) :: []⟩),⟨[]⟩⟩
noncomputable def aer:Obj:=⟨(.type "builtin_function_or_method"),none,(.fields ⟨(.builtin "object.__init_subclass__") :: (.ref 130) :: []⟩),⟨[]⟩⟩
noncomputable def acX:Obj:=⟨(.type "tuple"),none,(.seq ⟨(.ref 31) :: []⟩ 0),⟨[]⟩⟩
noncomputable def aes:Obj:=⟨(.type "builtin_function_or_method"),none,(.fields ⟨(.builtin "type.__prepare__") :: (.type "type") :: []⟩),⟨[]⟩⟩
noncomputable def ae8 (P:Params):Obj:=⟨(.type "dict"),none,(.dict ⟨dE P "__module__" 351 (.str "chancehall.errors" 194) :: dE P "__qualname__" 353 (.str "NoDoor" 352) :: dE P "__firstlineno__" 355 (.int 27 354) :: dE P "__init__" 363 (.ref 146) :: dE P "__static_attributes__" 365 (.ref 147) :: []⟩ 5),⟨[]⟩⟩
noncomputable def aeE:Obj:=⟨.none,none,(.fields ⟨(.int 29 0) :: (.int 4 0) :: (.ref 145) :: []⟩),⟨[]⟩⟩
noncomputable def ae4:Obj:=⟨(.type "code"),none,(.fields ⟨(.str "NoDoor" 346) :: (.str "NoDoor" 347) :: (.str "/claim/cut.py" 348) :: (.int 27 0) :: (.int 0 0) :: (.int 0 0) :: (.int 0 0) :: (.int 0 0) :: (.ref 136) :: (.bool false) :: (.int 181 0) :: (.ref 137) :: .none :: .none :: .none :: .none :: (.int 349 0) :: (.int 27 0) :: (.str "/claim/cut.py" 350) :: []⟩),⟨[]⟩⟩
noncomputable def aeH:Obj:=⟨(.type "frame"),none,.plain,⟨(some (.ref 138)) :: (some (.ref 3)) :: (some (.ref 135)) :: none :: (some (.str "chancehall.errors" 194)) :: none :: (some (.ref 0)) :: []⟩⟩
noncomputable def abM:Obj:=(cO "__init__" "NoDoor.__init__" 356 29 2 3 140 361)
noncomputable def acT:Obj:=(fO "__init__" "NoDoor.__init__" (dH 10 0) (.str "chancehall.errors" 194) 145)
noncomputable def aa6 (P:Params):Obj:=⟨(.type "dict"),none,(.dict ⟨dE P "__module__" 351 (.str "chancehall.errors" 194) :: dE P "__firstlineno__" 355 (.int 27 354) :: dE P "__init__" 363 (.ref 146) :: dE P "__static_attributes__" 365 (.ref 147) :: dE P "__doc__" 366 .none :: []⟩ 2),⟨[]⟩⟩
noncomputable def acF:Obj:=⟨(.type "type"),none,(.cls ⟨"NoDoor",[(.ref 31)],[(.ref 149),(.ref 31),(.type "ValueError"),(.type "Exception"),(.type "BaseException"),(.type "object")],148, "NoDoor",true,[],[],false,none,false⟩),⟨(some (.ref 133)) :: none :: (some (.str "NoDoor" 344)) :: (some (.str "NoDoor" 352)) :: (some (.builtin "ValueError.__new__")) :: (some (.bool true)) :: []⟩⟩
noncomputable def aed:Obj:=⟨(.type "super"),none,(.fields ⟨(.ref 149) :: (.ref 149) :: (.ref 149) :: []⟩),⟨[]⟩⟩
noncomputable def aeK:Obj:=⟨(.type "builtin_function_or_method"),none,(.fields ⟨(.builtin "object.__init_subclass__") :: (.ref 149) :: []⟩),⟨[]⟩⟩
noncomputable def aa4:Obj:=⟨(.type "tuple"),none,(.seq ⟨(.ref 31) :: []⟩ 0),⟨[]⟩⟩
noncomputable def aeh:Obj:=⟨(.type "builtin_function_or_method"),none,(.fields ⟨(.builtin "type.__prepare__") :: (.type "type") :: []⟩),⟨[]⟩⟩
noncomputable def aeP (P:Params):Obj:=⟨(.type "dict"),none,(.dict ⟨dE P "__module__" 376 (.str "chancehall.errors" 194) :: dE P "__qualname__" 378 (.str "NoPlan" 377) :: dE P "__firstlineno__" 380 (.int 32 379) :: dE P "__init__" 388 (.ref 165) :: dE P "__static_attributes__" 390 (.ref 166) :: []⟩ 5),⟨[]⟩⟩
noncomputable def ad2:Obj:=⟨.none,none,(.fields ⟨(.int 34 0) :: (.int 4 0) :: (.ref 164) :: []⟩),⟨[]⟩⟩
noncomputable def aeR:Obj:=⟨(.type "code"),none,(.fields ⟨(.str "NoPlan" 371) :: (.str "NoPlan" 372) :: (.str "/claim/cut.py" 373) :: (.int 32 0) :: (.int 0 0) :: (.int 0 0) :: (.int 0 0) :: (.int 0 0) :: (.ref 155) :: (.bool false) :: (.int 181 0) :: (.ref 156) :: .none :: .none :: .none :: .none :: (.int 374 0) :: (.int 32 0) :: (.str "/claim/cut.py" 375) :: []⟩),⟨[]⟩⟩
noncomputable def aee:Obj:=⟨(.type "frame"),none,.plain,⟨(some (.ref 157)) :: (some (.ref 3)) :: (some (.ref 154)) :: none :: (some (.str "chancehall.errors" 194)) :: none :: (some (.ref 0)) :: []⟩⟩
noncomputable def ab7:Obj:=(cO "__init__" "NoPlan.__init__" 381 34 2 3 159 386)
noncomputable def aav:Obj:=(fO "__init__" "NoPlan.__init__" (dH 11 0) (.str "chancehall.errors" 194) 164)
noncomputable def ade (P:Params):Obj:=⟨(.type "dict"),none,(.dict ⟨dE P "__module__" 376 (.str "chancehall.errors" 194) :: dE P "__firstlineno__" 380 (.int 32 379) :: dE P "__init__" 388 (.ref 165) :: dE P "__static_attributes__" 390 (.ref 166) :: dE P "__doc__" 391 .none :: []⟩ 2),⟨[]⟩⟩
noncomputable def ac6:Obj:=⟨(.type "type"),none,(.cls ⟨"NoPlan",[(.ref 31)],[(.ref 168),(.ref 31),(.type "ValueError"),(.type "Exception"),(.type "BaseException"),(.type "object")],167, "NoPlan",true,[],[],false,none,false⟩),⟨(some (.ref 152)) :: none :: (some (.str "NoPlan" 369)) :: (some (.str "NoPlan" 377)) :: (some (.builtin "ValueError.__new__")) :: (some (.bool true)) :: []⟩⟩
noncomputable def ad5:Obj:=⟨(.type "super"),none,(.fields ⟨(.ref 168) :: (.ref 168) :: (.ref 168) :: []⟩),⟨[]⟩⟩
noncomputable def aeT:Obj:=⟨(.type "builtin_function_or_method"),none,(.fields ⟨(.builtin "object.__init_subclass__") :: (.ref 168) :: []⟩),⟨[]⟩⟩
noncomputable def acH:Obj:=(fO "is_whole" "is_whole" (top 13) (.str "chancehall.wholes" 394) 176)
noncomputable def abI:Obj:=(tN 406 ["one", "other", "left", "right", "rest"])
noncomputable def acE:Obj:=(fO "divisor" "divisor" (top 14) (.str "chancehall.wholes" 394) 183)
noncomputable def ac9:Obj:=⟨(.type "tuple"),none,(.seq ⟨(.int 0 416) :: (.int 1 417) :: []⟩ 0),⟨[]⟩⟩
noncomputable def ab2:Obj:=⟨(.type "tuple"),none,(.seq ⟨(.int 1 419) :: (.int 1 420) :: []⟩ 0),⟨[]⟩⟩
noncomputable def aa5:Obj:=(fO "ratio" "ratio" (top 18) (.str "chancehall.ratios" 414) 192)
noncomputable def ab4:Obj:=(fO "is_ratio" "is_ratio" (top 19) (.str "chancehall.ratios" 414) 199)
noncomputable def ab1:Obj:=(fO "plus" "plus" (top 20) (.str "chancehall.ratios" 414) 206)
noncomputable def acg:Obj:=(fO "minus" "minus" (top 21) (.str "chancehall.ratios" 414) 213)
noncomputable def adk:Obj:=(fO "times" "times" (top 22) (.str "chancehall.ratios" 414) 220)
noncomputable def acQ:Obj:=(fO "over" "over" (top 23) (.str "chancehall.ratios" 414) 227)
noncomputable def acS:Obj:=(fO "under" "under" (top 24) (.str "chancehall.ratios" 414) 234)
noncomputable def adz:Obj:=(fO "level" "level" (top 26) (.str "chancehall.levels" 480) 239)
noncomputable def ac1:Obj:=(fO "total" "total" (top 27) (.str "chancehall.levels" 480) 246)
noncomputable def aaX:Obj:=(cP "behind_door" "behind_door" 498 88 2 3 248 501)
noncomputable def abw:Obj:=(fO "behind_door" "behind_door" (top 29) (.str "chancehall.plans" 496) 251)
noncomputable def abg:Obj:=(tN 507 ["hall", "offer", "leveled", "behind"])
noncomputable def aaW:Obj:=(cO "raised_look" "raised_look" 504 91 3 3 253 511)
noncomputable def aa1:Obj:=(fO "raised_look" "raised_look" (top 30) (.str "chancehall.plans" 496) 258)
noncomputable def ada:Obj:=(fO "looks" "looks" (top 31) (.str "chancehall.plans" 496) 263)
noncomputable def adq:Obj:=(fO "is_word" "is_word" (top 34) (.str "chancehall.words" 520) 268)
noncomputable def abj:Obj:=(cO "check_head" "check_head" 532 105 2 3 270 537)
noncomputable def abJ:Obj:=(fO "check_head" "check_head" (top 36) (.str "chancehall.doors" 530) 275)
noncomputable def adM:Obj:=(fT "check_room_name" "check_room_name" (top 37))
noncomputable def abY:Obj:=(cO "check_room_name" "check_room_name" 540 110 1 3 277 544)
noncomputable def abO:Obj:=(fO "check_room_name" "check_room_name" (top 37) (.str "chancehall.doors" 530) 282)
noncomputable def aa8:Obj:=(cO "check_chance" "check_chance" 547 113 1 3 284 551)
noncomputable def abC:Obj:=(fO "check_chance" "check_chance" (top 38) (.str "chancehall.doors" 530) 289)
noncomputable def acq:Obj:=(cP "check_pairs" "check_pairs" 554 116 1 3 291 557)
noncomputable def abe:Obj:=(fO "check_pairs" "check_pairs" (top 39) (.str "chancehall.doors" 530) 294)
noncomputable def acG:Obj:=(cP "joined_ways" "joined_ways" 560 122 1 3 296 563)
noncomputable def abk:Obj:=(fO "joined_ways" "joined_ways" (top 40) (.str "chancehall.doors" 530) 299)
noncomputable def ae0:Obj:=⟨(.type "builtin_function_or_method"),none,(.fields ⟨(.builtin "type.__prepare__") :: (.type "type") :: []⟩),⟨[]⟩⟩
noncomputable def adS (P:Params):Obj:=⟨(.type "dict"),none,(.dict ⟨dE P "__module__" 573 (.str "chancehall.doors" 530) :: dE P "__qualname__" 575 (.str "Door" 574) :: dE P "__firstlineno__" 577 (.int 127 576) :: dE P "__init__" 586 (.ref 314) :: dE P "ways" 593 (.ref 321) :: dE P "chance_to" 601 (.ref 328) :: dE P "__static_attributes__" 605 (.ref 329) :: []⟩ 7),⟨[]⟩⟩
noncomputable def adR:Obj:=⟨.none,none,(.fields ⟨(.int 129 0) :: (.int 4 0) :: (.ref 313) :: (.int 135 0) :: (.int 4 0) :: (.ref 320) :: (.int 138 0) :: (.int 4 0) :: (.ref 327) :: []⟩),⟨[]⟩⟩
noncomputable def ad6:Obj:=⟨(.type "code"),none,(.fields ⟨(.str "Door" 568) :: (.str "Door" 569) :: (.str "/claim/cut.py" 570) :: (.int 127 0) :: (.int 0 0) :: (.int 0 0) :: (.int 0 0) :: (.int 0 0) :: (.ref 304) :: (.bool false) :: (.int 181 0) :: (.ref 305) :: .none :: .none :: .none :: .none :: (.int 571 0) :: (.int 127 0) :: (.str "/claim/cut.py" 572) :: []⟩),⟨[]⟩⟩
noncomputable def aey:Obj:=⟨(.type "frame"),none,.plain,⟨(some (.ref 306)) :: (some (.ref 3)) :: (some (.ref 303)) :: none :: (some (.str "chancehall.doors" 530)) :: none :: (some (.ref 0)) :: []⟩⟩
noncomputable def adb:Obj:=(cO "__init__" "Door.__init__" 578 129 3 3 308 584)
noncomputable def aat:Obj:=(fO "__init__" "Door.__init__" (dH 41 0) (.str "chancehall.doors" 530) 313)
noncomputable def abF:Obj:=(fO "ways" "Door.ways" (dH 41 1) (.str "chancehall.doors" 530) 320)
noncomputable def aax:Obj:=(cO "chance_to" "Door.chance_to" 594 138 2 3 322 599)
noncomputable def aau:Obj:=(fO "chance_to" "Door.chance_to" (dH 41 2) (.str "chancehall.doors" 530) 327)
noncomputable def aaB (P:Params):Obj:=⟨(.type "dict"),none,(.dict ⟨dE P "__module__" 573 (.str "chancehall.doors" 530) :: dE P "__firstlineno__" 577 (.int 127 576) :: dE P "__init__" 586 (.ref 314) :: dE P "ways" 593 (.ref 321) :: dE P "chance_to" 601 (.ref 328) :: dE P "__static_attributes__" 605 (.ref 329) :: dE P "__dict__" 607 (.ref 332) :: dE P "__weakref__" 609 (.ref 333) :: dE P "__doc__" 610 .none :: []⟩ 4),⟨[]⟩⟩
noncomputable def acL:Obj:=⟨(.type "type"),none,(.cls ⟨"Door",[(.type "object")],[(.ref 331),(.type "object")],330, "Door",true,[],[(.ref 352),(.ref 371)],false,none,false⟩),⟨none :: none :: (some (.str "Door" 566)) :: (some (.str "Door" 574)) :: (some (.builtin "object.__new__")) :: (some (.bool true)) :: []⟩⟩
noncomputable def acy:Obj:=⟨(.type "getset_descriptor"),none,(.fields ⟨(.str "__dict__" 606) :: (.ref 331) :: (.builtin "function.__dict__") :: (.builtin "function.__dict__#set") :: []⟩),⟨[]⟩⟩
noncomputable def acK:Obj:=⟨(.type "getset_descriptor"),none,(.fields ⟨(.str "__weakref__" 608) :: (.ref 331) :: (.builtin "ExceptionGroup.__weakref__") :: .none :: []⟩),⟨[]⟩⟩
noncomputable def aei:Obj:=⟨(.type "super"),none,(.fields ⟨(.ref 331) :: (.ref 331) :: (.ref 331) :: []⟩),⟨[]⟩⟩
noncomputable def aeC:Obj:=⟨(.type "builtin_function_or_method"),none,(.fields ⟨(.builtin "object.__init_subclass__") :: (.ref 331) :: []⟩),⟨[]⟩⟩
noncomputable def abo:Obj:=⟨(.type "tuple"),none,(.seq ⟨(.ref 331) :: []⟩ 0),⟨[]⟩⟩
noncomputable def ad8:Obj:=⟨(.type "builtin_function_or_method"),none,(.fields ⟨(.builtin "type.__prepare__") :: (.type "type") :: []⟩),⟨[]⟩⟩
noncomputable def aex (P:Params):Obj:=⟨(.type "dict"),none,(.dict ⟨dE P "__module__" 620 (.str "chancehall.doors" 530) :: dE P "__qualname__" 622 (.str "Sure" 621) :: dE P "__firstlineno__" 624 (.int 140 623) :: dE P "__init__" 634 (.ref 349) :: dE P "__static_attributes__" 636 (.ref 350) :: []⟩ 5),⟨[]⟩⟩
noncomputable def aeN:Obj:=⟨.none,none,(.fields ⟨(.int 142 0) :: (.int 4 0) :: (.ref 348) :: []⟩),⟨[]⟩⟩
noncomputable def ad9:Obj:=⟨(.type "code"),none,(.fields ⟨(.str "Sure" 615) :: (.str "Sure" 616) :: (.str "/claim/cut.py" 617) :: (.int 140 0) :: (.int 0 0) :: (.int 0 0) :: (.int 0 0) :: (.int 0 0) :: (.ref 339) :: (.bool false) :: (.int 181 0) :: (.ref 340) :: .none :: .none :: .none :: .none :: (.int 618 0) :: (.int 140 0) :: (.str "/claim/cut.py" 619) :: []⟩),⟨[]⟩⟩
noncomputable def ad0:Obj:=⟨(.type "frame"),none,.plain,⟨(some (.ref 341)) :: (some (.ref 3)) :: (some (.ref 338)) :: none :: (some (.str "chancehall.doors" 530)) :: none :: (some (.ref 0)) :: []⟩⟩
noncomputable def abm:Obj:=(cO "__init__" "Sure.__init__" 625 142 4 3 343 632)
noncomputable def aa3:Obj:=(fO "__init__" "Sure.__init__" (dH 42 0) (.str "chancehall.doors" 530) 348)
noncomputable def aci (P:Params):Obj:=⟨(.type "dict"),none,(.dict ⟨dE P "__module__" 620 (.str "chancehall.doors" 530) :: dE P "__firstlineno__" 624 (.int 140 623) :: dE P "__init__" 634 (.ref 349) :: dE P "__static_attributes__" 636 (.ref 350) :: dE P "__doc__" 637 .none :: []⟩ 2),⟨[]⟩⟩
noncomputable def aaz:Obj:=⟨(.type "type"),none,(.cls ⟨"Sure",[(.ref 331)],[(.ref 352),(.ref 331),(.type "object")],351, "Sure",true,[],[],false,none,false⟩),⟨(some (.ref 336)) :: none :: (some (.str "Sure" 613)) :: (some (.str "Sure" 621)) :: (some (.builtin "object.__new__")) :: (some (.bool true)) :: []⟩⟩
noncomputable def aez:Obj:=⟨(.type "super"),none,(.fields ⟨(.ref 352) :: (.ref 352) :: (.ref 352) :: []⟩),⟨[]⟩⟩
noncomputable def aep:Obj:=⟨(.type "builtin_function_or_method"),none,(.fields ⟨(.builtin "object.__init_subclass__") :: (.ref 352) :: []⟩),⟨[]⟩⟩
noncomputable def abh:Obj:=⟨(.type "tuple"),none,(.seq ⟨(.ref 331) :: []⟩ 0),⟨[]⟩⟩
noncomputable def aeL:Obj:=⟨(.type "builtin_function_or_method"),none,(.fields ⟨(.builtin "type.__prepare__") :: (.type "type") :: []⟩),⟨[]⟩⟩
noncomputable def adQ (P:Params):Obj:=⟨(.type "dict"),none,(.dict ⟨dE P "__module__" 647 (.str "chancehall.doors" 530) :: dE P "__qualname__" 649 (.str "Mixed" 648) :: dE P "__firstlineno__" 651 (.int 146 650) :: dE P "__init__" 661 (.ref 368) :: dE P "__static_attributes__" 663 (.ref 369) :: []⟩ 5),⟨[]⟩⟩
noncomputable def ae1:Obj:=⟨.none,none,(.fields ⟨(.int 148 0) :: (.int 4 0) :: (.ref 367) :: []⟩),⟨[]⟩⟩
noncomputable def aek:Obj:=⟨(.type "code"),none,(.fields ⟨(.str "Mixed" 642) :: (.str "Mixed" 643) :: (.str "/claim/cut.py" 644) :: (.int 146 0) :: (.int 0 0) :: (.int 0 0) :: (.int 0 0) :: (.int 0 0) :: (.ref 358) :: (.bool false) :: (.int 181 0) :: (.ref 359) :: .none :: .none :: .none :: .none :: (.int 645 0) :: (.int 146 0) :: (.str "/claim/cut.py" 646) :: []⟩),⟨[]⟩⟩
noncomputable def adO:Obj:=⟨(.type "frame"),none,.plain,⟨(some (.ref 360)) :: (some (.ref 3)) :: (some (.ref 357)) :: none :: (some (.str "chancehall.doors" 530)) :: none :: (some (.ref 0)) :: []⟩⟩
noncomputable def acu:Obj:=(cO "__init__" "Mixed.__init__" 652 148 4 3 362 659)
noncomputable def ab5:Obj:=(fO "__init__" "Mixed.__init__" (dH 43 0) (.str "chancehall.doors" 530) 367)
noncomputable def aaF (P:Params):Obj:=⟨(.type "dict"),none,(.dict ⟨dE P "__module__" 647 (.str "chancehall.doors" 530) :: dE P "__firstlineno__" 651 (.int 146 650) :: dE P "__init__" 661 (.ref 368) :: dE P "__static_attributes__" 663 (.ref 369) :: dE P "__doc__" 664 .none :: []⟩ 2),⟨[]⟩⟩
noncomputable def abz:Obj:=⟨(.type "type"),none,(.cls ⟨"Mixed",[(.ref 331)],[(.ref 371),(.ref 331),(.type "object")],370, "Mixed",true,[],[(.ref 390),(.ref 407)],false,none,false⟩),⟨(some (.ref 355)) :: none :: (some (.str "Mixed" 640)) :: (some (.str "Mixed" 648)) :: (some (.builtin "object.__new__")) :: (some (.bool true)) :: []⟩⟩
noncomputable def adL:Obj:=⟨(.type "super"),none,(.fields ⟨(.ref 371) :: (.ref 371) :: (.ref 371) :: []⟩),⟨[]⟩⟩
noncomputable def aej:Obj:=⟨(.type "builtin_function_or_method"),none,(.fields ⟨(.builtin "object.__init_subclass__") :: (.ref 371) :: []⟩),⟨[]⟩⟩
noncomputable def abv:Obj:=⟨(.type "tuple"),none,(.seq ⟨(.ref 371) :: []⟩ 0),⟨[]⟩⟩
noncomputable def adP:Obj:=⟨(.type "builtin_function_or_method"),none,(.fields ⟨(.builtin "type.__prepare__") :: (.type "type") :: []⟩),⟨[]⟩⟩
noncomputable def adK (P:Params):Obj:=⟨(.type "dict"),none,(.dict ⟨dE P "__module__" 674 (.str "chancehall.doors" 530) :: dE P "__qualname__" 676 (.str "Toss" 675) :: dE P "__firstlineno__" 678 (.int 152 677) :: dE P "__init__" 690 (.ref 387) :: dE P "__static_attributes__" 691 (.ref 388) :: []⟩ 5),⟨[]⟩⟩
noncomputable def aeO:Obj:=⟨.none,none,(.fields ⟨(.int 154 0) :: (.int 4 0) :: (.ref 386) :: []⟩),⟨[]⟩⟩
noncomputable def adU:Obj:=⟨(.type "code"),none,(.fields ⟨(.str "Toss" 669) :: (.str "Toss" 670) :: (.str "/claim/cut.py" 671) :: (.int 152 0) :: (.int 0 0) :: (.int 0 0) :: (.int 0 0) :: (.int 0 0) :: (.ref 377) :: (.bool false) :: (.int 181 0) :: (.ref 378) :: .none :: .none :: .none :: .none :: (.int 672 0) :: (.int 152 0) :: (.str "/claim/cut.py" 673) :: []⟩),⟨[]⟩⟩
noncomputable def adT:Obj:=⟨(.type "frame"),none,.plain,⟨(some (.ref 379)) :: (some (.ref 3)) :: (some (.ref 376)) :: none :: (some (.str "chancehall.doors" 530)) :: none :: (some (.ref 0)) :: []⟩⟩
noncomputable def abn:Obj:=(tN 682 ["self", "name", "pay", "chance", "room", "other"])
noncomputable def abX:Obj:=(cO "__init__" "Toss.__init__" 679 154 6 3 381 688)
noncomputable def abT:Obj:=(fO "__init__" "Toss.__init__" (dH 44 0) (.str "chancehall.doors" 530) 386)
noncomputable def acz (P:Params):Obj:=⟨(.type "dict"),none,(.dict ⟨dE P "__module__" 674 (.str "chancehall.doors" 530) :: dE P "__firstlineno__" 678 (.int 152 677) :: dE P "__init__" 690 (.ref 387) :: dE P "__static_attributes__" 691 (.ref 388) :: dE P "__doc__" 692 .none :: []⟩ 2),⟨[]⟩⟩
noncomputable def ac8:Obj:=⟨(.type "type"),none,(.cls ⟨"Toss",[(.ref 371)],[(.ref 390),(.ref 371),(.ref 331),(.type "object")],389, "Toss",true,[],[],false,none,false⟩),⟨(some (.ref 374)) :: none :: (some (.str "Toss" 667)) :: (some (.str "Toss" 675)) :: (some (.builtin "object.__new__")) :: (some (.bool true)) :: []⟩⟩
noncomputable def aew:Obj:=⟨(.type "super"),none,(.fields ⟨(.ref 390) :: (.ref 390) :: (.ref 390) :: []⟩),⟨[]⟩⟩
noncomputable def aec:Obj:=⟨(.type "builtin_function_or_method"),none,(.fields ⟨(.builtin "object.__init_subclass__") :: (.ref 390) :: []⟩),⟨[]⟩⟩
noncomputable def aaP:Obj:=⟨(.type "tuple"),none,(.seq ⟨(.ref 371) :: []⟩ 0),⟨[]⟩⟩
noncomputable def aeb:Obj:=⟨(.type "builtin_function_or_method"),none,(.fields ⟨(.builtin "type.__prepare__") :: (.type "type") :: []⟩),⟨[]⟩⟩
noncomputable def aeB (P:Params):Obj:=⟨(.type "dict"),none,(.dict ⟨dE P "__module__" 702 (.str "chancehall.doors" 530) :: dE P "__qualname__" 704 (.str "Even" 703) :: dE P "__firstlineno__" 706 (.int 158 705) :: dE P "__init__" 712 (.ref 404) :: dE P "__static_attributes__" 713 (.ref 405) :: []⟩ 5),⟨[]⟩⟩
noncomputable def aef:Obj:=⟨.none,none,(.fields ⟨(.int 160 0) :: (.int 4 0) :: (.ref 403) :: []⟩),⟨[]⟩⟩
noncomputable def aem:Obj:=⟨(.type "code"),none,(.fields ⟨(.str "Even" 697) :: (.str "Even" 698) :: (.str "/claim/cut.py" 699) :: (.int 158 0) :: (.int 0 0) :: (.int 0 0) :: (.int 0 0) :: (.int 0 0) :: (.ref 396) :: (.bool false) :: (.int 181 0) :: (.ref 397) :: .none :: .none :: .none :: .none :: (.int 700 0) :: (.int 158 0) :: (.str "/claim/cut.py" 701) :: []⟩),⟨[]⟩⟩
noncomputable def ae2:Obj:=⟨(.type "frame"),none,.plain,⟨(some (.ref 398)) :: (some (.ref 3)) :: (some (.ref 395)) :: none :: (some (.str "chancehall.doors" 530)) :: none :: (some (.ref 0)) :: []⟩⟩
noncomputable def aaD:Obj:=(cP "__init__" "Even.__init__" 707 160 4 3 400 710)
noncomputable def aaZ:Obj:=(fO "__init__" "Even.__init__" (dH 45 0) (.str "chancehall.doors" 530) 403)
noncomputable def adA (P:Params):Obj:=⟨(.type "dict"),none,(.dict ⟨dE P "__module__" 702 (.str "chancehall.doors" 530) :: dE P "__firstlineno__" 706 (.int 158 705) :: dE P "__init__" 712 (.ref 404) :: dE P "__static_attributes__" 713 (.ref 405) :: dE P "__doc__" 714 .none :: []⟩ 2),⟨[]⟩⟩
noncomputable def abL:Obj:=⟨(.type "type"),none,(.cls ⟨"Even",[(.ref 371)],[(.ref 407),(.ref 371),(.ref 331),(.type "object")],406, "Even",true,[],[],false,none,false⟩),⟨(some (.ref 393)) :: none :: (some (.str "Even" 695)) :: (some (.str "Even" 703)) :: (some (.builtin "object.__new__")) :: (some (.bool true)) :: []⟩⟩
noncomputable def ad4:Obj:=⟨(.type "super"),none,(.fields ⟨(.ref 407) :: (.ref 407) :: (.ref 407) :: []⟩),⟨[]⟩⟩
noncomputable def aeo:Obj:=⟨(.type "builtin_function_or_method"),none,(.fields ⟨(.builtin "object.__init_subclass__") :: (.ref 407) :: []⟩),⟨[]⟩⟩
noncomputable def aaI:Obj:=(cO "check_share" "check_share" 719 163 1 3 410 723)
noncomputable def abZ:Obj:=(fO "check_share" "check_share" (top 47) (.str "chancehall.halls" 717) 415)
noncomputable def abG:Obj:=(cO "numbers_of" "numbers_of" 726 166 1 3 417 733)
noncomputable def abH:Obj:=(fO "numbers_of" "numbers_of" (top 48) (.str "chancehall.halls" 717) 422)
noncomputable def aaR:Obj:=(tN 739 ["door", "numbers", "numbered", "name", "chance"])
noncomputable def abb:Obj:=(cO "numbered_ways" "numbered_ways" 736 174 2 3 424 744)
noncomputable def adv:Obj:=(fO "numbered_ways" "numbered_ways" (top 49) (.str "chancehall.halls" 717) 429)
noncomputable def aaU:Obj:=(tN 750 ["doors", "numbers", "taken", "told", "door"])
noncomputable def aby:Obj:=(cO "offers_of" "offers_of" 747 181 2 3 431 755)
noncomputable def acA:Obj:=(fO "offers_of" "offers_of" (top 50) (.str "chancehall.halls" 717) 436)
noncomputable def ae3:Obj:=⟨(.type "builtin_function_or_method"),none,(.fields ⟨(.builtin "type.__prepare__") :: (.type "type") :: []⟩),⟨[]⟩⟩
noncomputable def aeM (P:Params):Obj:=⟨(.type "dict"),none,(.dict ⟨dE P "__module__" 765 (.str "chancehall.halls" 717) :: dE P "__qualname__" 767 (.str "Hall" 766) :: dE P "__firstlineno__" 769 (.int 190 768) :: dE P "__init__" 775 (.ref 449) :: dE P "size" 782 (.ref 456) :: dE P "names" 789 (.ref 463) :: dE P "place" 797 (.ref 470) :: dE P "check_room" 805 (.ref 477) :: dE P "door_at" 814 (.ref 484) :: dE P "offers" 820 (.ref 489) :: dE P "__static_attributes__" 824 (.ref 490) :: []⟩ 11),⟨[]⟩⟩
noncomputable def ael:Obj:=⟨.none,none,(.fields ⟨(.int 192 0) :: (.int 4 0) :: (.ref 448) :: (.int 198 0) :: (.int 4 0) :: (.ref 455) :: (.int 201 0) :: (.int 4 0) :: (.ref 462) :: (.int 204 0) :: (.int 4 0) :: (.ref 469) :: (.int 209 0) :: (.int 4 0) :: (.ref 476) :: (.int 213 0) :: (.int 4 0) :: (.ref 483) :: (.int 216 0) :: (.int 4 0) :: (.ref 488) :: []⟩),⟨[]⟩⟩
noncomputable def aen:Obj:=⟨(.type "code"),none,(.fields ⟨(.str "Hall" 760) :: (.str "Hall" 761) :: (.str "/claim/cut.py" 762) :: (.int 190 0) :: (.int 0 0) :: (.int 0 0) :: (.int 0 0) :: (.int 0 0) :: (.ref 441) :: (.bool false) :: (.int 181 0) :: (.ref 442) :: .none :: .none :: .none :: .none :: (.int 763 0) :: (.int 190 0) :: (.str "/claim/cut.py" 764) :: []⟩),⟨[]⟩⟩
noncomputable def aeu:Obj:=⟨(.type "frame"),none,.plain,⟨(some (.ref 443)) :: (some (.ref 3)) :: (some (.ref 440)) :: none :: (some (.str "chancehall.halls" 717)) :: none :: (some (.ref 0)) :: []⟩⟩
noncomputable def ac4:Obj:=(cP "__init__" "Hall.__init__" 770 192 3 3 445 773)
noncomputable def abr:Obj:=(fO "__init__" "Hall.__init__" (dH 51 0) (.str "chancehall.halls" 717) 448)
noncomputable def aaH:Obj:=(fO "size" "Hall.size" (dH 51 1) (.str "chancehall.halls" 717) 455)
noncomputable def adt:Obj:=(fO "names" "Hall.names" (dH 51 2) (.str "chancehall.halls" 717) 462)
noncomputable def acR:Obj:=(fO "place" "Hall.place" (dH 51 3) (.str "chancehall.halls" 717) 469)
noncomputable def adN:Obj:=(fT "check_room" "Hall.check_room" (dH 51 4))
noncomputable def abP:Obj:=(cO "check_room" "Hall.check_room" 798 209 2 3 471 803)
noncomputable def ado:Obj:=(fO "check_room" "Hall.check_room" (dH 51 4) (.str "chancehall.halls" 717) 476)
noncomputable def acn:Obj:=(cO "door_at" "Hall.door_at" 806 213 3 3 478 812)
noncomputable def abW:Obj:=(fO "door_at" "Hall.door_at" (dH 51 5) (.str "chancehall.halls" 717) 483)
noncomputable def abN:Obj:=(cP "offers" "Hall.offers" 815 216 2 3 485 818)
noncomputable def acN:Obj:=(fO "offers" "Hall.offers" (dH 51 6) (.str "chancehall.halls" 717) 488)
noncomputable def adn (P:Params):Obj:=⟨(.type "dict"),none,(.dict ⟨dE P "__module__" 765 (.str "chancehall.halls" 717) :: dE P "__firstlineno__" 769 (.int 190 768) :: dE P "__init__" 775 (.ref 449) :: dE P "size" 782 (.ref 456) :: dE P "names" 789 (.ref 463) :: dE P "place" 797 (.ref 470) :: dE P "check_room" 805 (.ref 477) :: dE P "door_at" 814 (.ref 484) :: dE P "offers" 820 (.ref 489) :: dE P "__static_attributes__" 824 (.ref 490) :: dE P "__dict__" 826 (.ref 493) :: dE P "__weakref__" 828 (.ref 494) :: dE P "__doc__" 829 .none :: []⟩ 4),⟨[]⟩⟩
noncomputable def adf:Obj:=⟨(.type "type"),none,(.cls ⟨"Hall",[(.type "object")],[(.ref 492),(.type "object")],491, "Hall",true,[],[],false,none,false⟩),⟨none :: none :: (some (.str "Hall" 758)) :: (some (.str "Hall" 766)) :: (some (.builtin "object.__new__")) :: (some (.bool true)) :: []⟩⟩
noncomputable def aa7:Obj:=⟨(.type "getset_descriptor"),none,(.fields ⟨(.str "__dict__" 825) :: (.ref 492) :: (.builtin "function.__dict__") :: (.builtin "function.__dict__#set") :: []⟩),⟨[]⟩⟩
noncomputable def ab3:Obj:=⟨(.type "getset_descriptor"),none,(.fields ⟨(.str "__weakref__" 827) :: (.ref 492) :: (.builtin "ExceptionGroup.__weakref__") :: .none :: []⟩),⟨[]⟩⟩
noncomputable def aeD:Obj:=⟨(.type "super"),none,(.fields ⟨(.ref 492) :: (.ref 492) :: (.ref 492) :: []⟩),⟨[]⟩⟩
noncomputable def aeV:Obj:=⟨(.type "builtin_function_or_method"),none,(.fields ⟨(.builtin "object.__init_subclass__") :: (.ref 492) :: []⟩),⟨[]⟩⟩
noncomputable def ach:Obj:=(cO "_law_cell" "_law_cell" 834 220 2 3 497 839)
noncomputable def acf:Obj:=(fO "_law_cell" "_law_cell" (top 53) (.str "law_chancehall_k21_looks" 832) 502)
noncomputable def acs:Obj:=(tN 845 ["_law_cell_here", "_law_many", "_law_found", "_law_number", "_law_digits", "_law_k"])
noncomputable def abK:Obj:=(cO "_law_stream" "_law_stream" 842 222 2 3 504 851)
noncomputable def adx:Obj:=(fO "_law_stream" "_law_stream" (top 54) (.str "law_chancehall_k21_looks" 832) 509)
noncomputable def abB:Obj:=(tN 857 ["_law_one", "_law_other", "_law_low", "_law_high"])
noncomputable def acB:Obj:=(cO "_law_gcd" "_law_gcd" 854 233 2 3 511 861)
noncomputable def aaw:Obj:=(fO "_law_gcd" "_law_gcd" (top 55) (.str "law_chancehall_k21_looks" 832) 516)
noncomputable def ady:Obj:=(tN 867 ["_law_top", "_law_bottom", "_law_common"])
noncomputable def adg:Obj:=(cO "_law_ratio" "_law_ratio" 864 238 2 3 518 870)
noncomputable def aaN:Obj:=(fO "_law_ratio" "_law_ratio" (top 56) (.str "law_chancehall_k21_looks" 832) 523)
noncomputable def ac7:Obj:=(cO "_law_is_ratio" "_law_is_ratio" 873 241 1 3 525 878)
noncomputable def aaT:Obj:=(fO "_law_is_ratio" "_law_is_ratio" (top 57) (.str "law_chancehall_k21_looks" 832) 530)
noncomputable def aeS:Obj:=(fT "_law_are_ratios" "_law_are_ratios" (top 58))
noncomputable def acv:Obj:=(cP "_law_are_ratios" "_law_are_ratios" 881 248 2 3 532 884)
noncomputable def abu:Obj:=(fO "_law_are_ratios" "_law_are_ratios" (top 58) (.str "law_chancehall_k21_looks" 832) 535)
noncomputable def abV:Obj:=(cO "_law_same" "_law_same" 887 252 2 3 537 892)
noncomputable def aay:Obj:=(fO "_law_same" "_law_same" (top 59) (.str "law_chancehall_k21_looks" 832) 542)
noncomputable def adw:Obj:=(cP "_law_names" "_law_names" 895 254 2 3 544 898)
noncomputable def abt:Obj:=(fO "_law_names" "_law_names" (top 60) (.str "law_chancehall_k21_looks" 832) 547)
noncomputable def ab0:Obj:=(tN 904 ["_law_cell_here", "_law_xs", "_law_bottom"])
noncomputable def ac0:Obj:=(cO "_law_share" "_law_share" 901 263 1 3 549 907)
noncomputable def abE:Obj:=(fO "_law_share" "_law_share" (top 61) (.str "law_chancehall_k21_looks" 832) 554)
noncomputable def abA:Obj:=(tN 913 ["_law_cell_here", "_law_x", "_law_y"])
noncomputable def acM:Obj:=(cO "_law_pay" "_law_pay" 910 267 3 3 556 916)
noncomputable def abR:Obj:=(fO "_law_pay" "_law_pay" (top 62) (.str "law_chancehall_k21_looks" 832) 561)
noncomputable def ac3:Obj:=(cP "_law_door" "_law_door" 919 275 2 3 563 922)
noncomputable def aaA:Obj:=(fO "_law_door" "_law_door" (top 63) (.str "law_chancehall_k21_looks" 832) 566)
noncomputable def aaV:Obj:=(cP "_law_doors" "_law_doors" 925 292 4 3 568 928)
noncomputable def adu:Obj:=(fO "_law_doors" "_law_doors" (top 64) (.str "law_chancehall_k21_looks" 832) 571)
noncomputable def abd:Obj:=(cP "_law_built" "_law_built" 931 302 3 3 573 934)
noncomputable def ac5:Obj:=(fO "_law_built" "_law_built" (top 65) (.str "law_chancehall_k21_looks" 832) 576)
noncomputable def ace:Obj:=(cP "_law_hall" "_law_hall" 937 312 3 3 578 940)
noncomputable def abq:Obj:=(fO "_law_hall" "_law_hall" (top 66) (.str "law_chancehall_k21_looks" 832) 581)
noncomputable def adW:Obj:=(tN 946 ["_law_cell_here", "_law_rooms", "_law_xs", "_law_found", "_law_k"])
noncomputable def ad7:Obj:=(cO "_law_chosen" "_law_chosen" 943 319 2 3 583 951)
noncomputable def adZ:Obj:=(fO "_law_chosen" "_law_chosen" (top 67) (.str "law_chancehall_k21_looks" 832) 588)
noncomputable def adl:Obj:=(tN 957 ["_law_share_here", "_law_door_here", "_law_worths_here", "_law_top", "_law_bottom", "_law_room", "_law_chance", "_law_part"])
noncomputable def aa2:Obj:=(cO "_law_look" "_law_look" 954 328 3 3 590 965)
noncomputable def acZ:Obj:=(fO "_law_look" "_law_look" (top 68) (.str "law_chancehall_k21_looks" 832) 595)
noncomputable def acr:Obj:=(cO "_law_size" "_law_size" 968 338 1 3 597 973)
noncomputable def adp:Obj:=(fO "_law_size" "_law_size" (top 69) (.str "law_chancehall_k21_looks" 832) 602)
noncomputable def aaQ:Obj:=(cP "_law_worths" "_law_worths" 976 343 2 3 604 979)
noncomputable def aaG:Obj:=(fO "_law_worths" "_law_worths" (top 70) (.str "law_chancehall_k21_looks" 832) 607)
noncomputable def aa0:Obj:=(cP "_law_right" "_law_right" 982 346 4 3 609 985)
noncomputable def acC:Obj:=(fO "_law_right" "_law_right" (top 71) (.str "law_chancehall_k21_looks" 832) 612)
noncomputable def tr1 (P:Params):BT:=(.node (boot_o_0 P) (.node (boot_o_1 P) (.node (aea P) (.node (boot_o_7 P) (.node tE (.node q31 (.node fE (.node abD (.node abg (lf tE) .nil) (lf abn)) (.node (fT "ratio" "ratio" (top 18)) (.node (fT "ways" "Door.ways" (dH 41 1)) (lf (fT "_law_built" "_law_built" (top 65))) .nil) (lf (fT "__init__" "Hall.__init__" (dH 51 0))))) (.node q95 (.node tE (.node tE (lf aay) .nil) (lf aaI)) (.node fE (.node (aci P) (lf aaQ) .nil) (lf fE)))) (.node q47 (.node (q79 P) (.node tE (.node fE (lf (tN 876 ["_law_found", "_law_number"])) .nil) (lf ae2)) (.node ab1 (.node aeC (lf fE) .nil) (lf adt))) (.node acj (.node (fT "is_whole" "is_whole" (top 13)) (.node (adS P) (lf tE) .nil) (lf tE)) (.node (cP "level" "level" 482 79 1 3 236 485) (lf acu) (lf aeD))))) (.node q23 (.node fE (.node q71 (.node (ae8 P) (.node (cP "looks" "looks" 514 94 3 3 260 517) (lf fE) .nil) (lf aew)) (.node (cO "is_ratio" "is_ratio" 431 60 1 3 194 437) (.node aax (lf tE) .nil) (lf (cO "size" "Hall.size" 776 198 1 3 450 780)))) (.node fE (.node (ade P) (.node abe (lf ab0) .nil) (lf abH)) (.node (tN 475 ["one", "other"]) (lf ae1) (lf (fT "offers" "Hall.offers" (dH 51 6)))))) (.node (q55 P) (.node fE (.node aeK (.node (tN 543 ["room"]) (lf acv) .nil) (lf abL)) (.node tE (.node tE (lf (tN 971 ["_law_cell_here", "_law_xs"])) .nil) (lf tE))) (.node ae5 (.node (cO "divisor" "divisor" 403 40 2 3 178 411) (.node tE (lf aaA) .nil) (lf ae3)) (.node ac1 (lf adP) (lf acf)))))) (.node o11 (.node (fT "_wall" "_wall" (top 0)) (.node q35 (.node (q67 P) (.node aeg (.node aa1 (lf (fT "_law_gcd" "_law_gcd" (top 55))) .nil) (lf abT)) (.node fE (.node fE (lf fE) .nil) (lf fE))) (.node q99 (.node (fT "__init__" "NoPlan.__init__" (dH 11 0)) (.node tE (lf adw) .nil) (lf (tN 729 ["rooms", "numbers", "room", "name"]))) (.node (cO "over" "over" 464 74 2 3 222 469) (.node abh (lf (fT "_law_right" "_law_right" (top 71))) .nil) (lf acn)))) (.node fE (.node q83 (.node (tN 364 ["door"]) (.node abj (lf aaT) .nil) (lf aaD)) (.node tE (.node tE (lf aa2) .nil) (lf tE))) (.node aeW (.node fE (.node aey (lf tE) .nil) (lf (fT "offers_of" "offers_of" (top 50)))) (.node (tN 491 ["fractions", "leveled"]) (lf abz) (lf (tN 837 ["_law_script", "_law_k"])))))) (.node q27 (.node (q43 P) (.node fE (.node aeH (.node (fT "is_word" "is_word" (top 34)) (lf adg) .nil) (lf (aeB P))) (.node (tN 443 ["one", "other"]) (.node acL (lf (fT "_law_chosen" "_law_chosen" (top 67))) .nil) (lf (tN 786 ["self"])))) (.node adh (.node tE (.node acG (lf abE) .nil) (lf tE)) (.node acS (lf fE) (lf (adn P))))) (.node q59 (.node (q91 P) (.node tE (.node abO (lf (tN 890 ["_law_one", "_law_other"])) .nil) (lf fE)) (.node (fT "times" "times" (top 22)) (.node (fT "__init__" "Sure.__init__" (dH 42 0)) (lf adp) .nil) (lf adN))) (.node (tN 334 ["self", "room"]) (.node tE (.node tE (lf aaV) .nil) (lf aen)) (.node aaX (lf adU) (lf tE))))))) (.node (boot_o_5 P) (.node (boot_o_9 P) (.node (tN 190 ["k"]) (.node q33 (.node q65 (.node (abx P) (.node (fT "raised_look" "raised_look" (top 30)) (lf abB) .nil) (lf (fT "__init__" "Toss.__init__" (dH 44 0)))) (.node aa5 (.node abF (lf ac5) .nil) (lf abr))) (.node (q97 P) (.node (tN 384 ["self", "room"]) (.node aa8 (lf fE) .nil) (lf tE)) (.node tE (.node aez (lf tE) .nil) (lf tE)))) (.node (q49 P) (.node q81 (.node abM (.node tE (lf (fT "_law_is_ratio" "_law_is_ratio" (top 57))) .nil) (lf fE)) (.node fE (.node ad8 (lf tE) .nil) (lf fE))) (.node aeX (.node acH (.node adR (lf acM) .nil) (lf aaU)) (.node tE (lf (tN 662 ["leads"])) (lf tE))))) (.node tE (.node q41 (.node (q73 P) (.node aeE (.node tE (lf tE) .nil) (lf aaP)) (.node tE (.node (tN 602 ["leads", "name", "pay"]) (lf adW) .nil) (lf tE))) (.node tE (.node ad5 (.node fE (lf (fT "_law_share" "_law_share" (top 61))) .nil) (lf fE)) (.node (fT "under" "under" (top 24)) (lf adO) (lf acN)))) (.node q57 (.node q89 (.node aeh (.node adM (lf tE) .nil) (lf aeo)) (.node (tN 459 ["one", "other"]) (.node (tN 628 ["self", "name", "pay", "room"]) (lf (fT "_law_size" "_law_size" (top 69))) .nil) (lf (tN 801 ["self", "room"])))) (.node tE (.node ac9 (.node adb (lf fE) .nil) (lf tE)) (.node fE (lf tE) (lf fE)))))) (.node o13 (.node q21 (.node (q37 P) (.node q69 (.node acX (.node fE (lf aaw) .nil) (lf (acz P))) (.node tE (.node tE (lf ace) .nil) (lf tE))) (.node aeY (.node aav (.node (fT "check_pairs" "check_pairs" (top 39)) (lf tE) .nil) (lf (fT "numbers_of" "numbers_of" (top 48)))) (.node tE (.node (adQ P) (lf acC) .nil) (lf tE)))) (.node q53 (.node (q85 P) (.node acF (.node tE (lf fE) .nil) (lf tE)) (.node (cO "minus" "minus" 448 70 2 3 208 453) (.node ad9 (lf tE) .nil) (lf (cO "place" "Hall.place" 790 204 2 3 464 795)))) (.node tE (.node tE (.node fE (lf (fT "_law_door" "_law_door" (top 63))) .nil) (lf acA)) (.node (fT "total" "total" (top 27)) (lf aej) (lf (fT "_law_cell" "_law_cell" (top 53))))))) (.node tE (.node q45 (.node q77 (.node fE (.node adq (lf tE) .nil) (lf aef)) (.node (fT "plus" "plus" (top 20)) (.node acK (lf adZ) .nil) (lf (fT "names" "Hall.names" (dH 51 2))))) (.node (tN 314 ["row"]) (.node (tN 399 ["thing"]) (.node tE (lf fE) .nil) (lf abb)) (.node fE (lf tE) (lf aa7)))) (.node (q61 P) (.node q93 (.node aeR (.node fE (lf (fT "_law_same" "_law_same" (top 59))) .nil) (lf tE)) (.node adk (.node aa3 (lf fE) .nil) (lf ado))) (.node (fT "__init__" "NoRoom.__init__" (dH 9 0)) (.node (tN 425 ["top", "bottom", "common"]) (.node (tN 590 ["self"]) (lf tE) .nil) (lf tE)) (.node tE (lf tE) (lf abK)))))))) (.node (boot_o_2 P) (.node (boot_o_4 P) (.node (boot_o_8 P) (.node fE (.node q32 (.node q64 (.node (tN 339 ["room"]) (.node tE (lf fE) .nil) (lf tE)) (.node (cO "ratio" "ratio" 422 51 2 3 187 428) (.node (cO "ways" "Door.ways" 587 135 1 3 315 591) (lf abd) .nil) (lf ac4))) (.node q96 (.node fE (.node (fT "check_chance" "check_chance" (top 38)) (lf tE) .nil) (lf abZ)) (.node (tN 467 ["one", "other"]) (.node aaz (lf aaG) .nil) (lf (tN 809 ["self", "room", "name"]))))) (.node q48 (.node q80 (.node (fT "__init__" "NoDoor.__init__" (dH 10 0)) (.node (tN 535 ["name", "pay"]) (lf tE) .nil) (lf tE)) (.node tE (.node abo (lf adl) .nil) (lf tE))) (.node ae7 (.node (cO "is_whole" "is_whole" 396 38 1 3 171 400) (.node tE (lf (fT "_law_pay" "_law_pay" (top 62))) .nil) (lf fE)) (.node adz (lf ab5) (lf aeV))))) (.node (q24 P) (.node q40 (.node q72 (.node tE (.node ada (lf ady) .nil) (lf aec)) (.node ab4 (.node aau (lf fE) .nil) (lf aaH))) (.node (tN 309 ["self", "row"]) (.node ac6 (.node tE (lf tE) .nil) (lf tE)) (.node tE (lf aek) (lf abN)))) (.node q56 (.node q88 (.node aa4 (.node tE (lf abu) .nil) (lf ad4)) (.node fE (.node fE (lf tE) .nil) (lf fE))) (.node ad3 (.node acE (.node (fT "__init__" "Door.__init__" (dH 41 0)) (lf tE) .nil) (lf (aeM P))) (.node tE (lf (adK P)) (lf tE)))))) (.node ab6 (.node (cO "_wall" "_wall" 187 1 1 3 15 191) (.node q36 (.node q68 (.node aer (.node tE (lf acB) .nil) (lf tE)) (.node (tN 434 ["thing", "top", "bottom"]) (.node (tN 597 ["self", "room"]) (lf (fT "_law_hall" "_law_hall" (top 66))) .nil) (lf (tN 779 ["self"])))) (.node aeJ (.node ab7 (.node fE (lf abt) .nil) (lf tE)) (.node acQ (.node aeL (lf aa0) .nil) (lf abW)))) (.node q52 (.node q84 (.node (aa6 P) (.node abJ (lf tE) .nil) (lf aaZ)) (.node (fT "minus" "minus" (top 21)) (.node aeN (lf acZ) .nil) (lf (fT "place" "Hall.place" (dH 51 3))))) (.node (adX P) (.node abI (.node tE (lf fE) .nil) (lf aby)) (.node tE (lf adL) (lf tE))))) (.node q28 (.node q44 (.node q76 (.node tE (.node (cP "is_word" "is_word" 524 100 1 3 265 527) (lf aaN) .nil) (lf tE)) (.node tE (.node acy (lf ad7) .nil) (lf tE))) (.node abp (.node fE (.node abk (lf tE) .nil) (lf (fT "numbered_ways" "numbered_ways" (top 49)))) (.node tE (lf (tN 655 ["self", "name", "pay", "pairs"])) (lf adf)))) (.node q60 (.node q92 (.node ad2 (.node tE (lf tE) .nil) (lf (tN 722 ["share"]))) (.node (cO "times" "times" 456 72 2 3 215 461) (.node abm (lf tE) .nil) (lf abP))) (.node tE (.node fE (.node fE (lf adu) .nil) (lf aeu)) (.node abw (lf adT) (lf (fT "_law_stream" "_law_stream" (top 54))))))))) (.node (boot_o_6 P) (.node (boot_o_10 P) (.node tE (.node q34 (.node tE (.node aaM (.node aaW (lf tE) .nil) (lf abX)) (.node tE (.node tE (lf tE) .nil) (lf tE))) (.node tE (.node tE (.node abC (lf (fT "_law_names" "_law_names" (top 60))) .nil) (lf fE)) (.node (fT "over" "over" (top 23)) (.node aep (lf fE) .nil) (lf (fT "door_at" "Hall.door_at" (dH 51 5)))))) (.node tE (.node q82 (.node acT (.node (fT "check_head" "check_head" (top 36)) (lf ac7) .nil) (lf (fT "__init__" "Even.__init__" (dH 45 0)))) (.node (tN 451 ["one", "other"]) (.node (aex P) (lf (fT "_law_look" "_law_look" (top 68))) .nil) (lf (tN 793 ["self", "name"])))) (.node acd (.node tE (.node ad6 (lf abR) .nil) (lf tE)) (.node fE (lf (aaF P)) (lf fE))))) (.node fE (.node tE (.node tE (.node ae4 (.node fE (lf (fT "_law_ratio" "_law_ratio" (top 56))) .nil) (lf aeb)) (.node fE (.node (aaB P) (lf tE) .nil) (lf fE))) (.node (fT "__init__" "NoRow.__init__" (dH 8 0)) (.node aeT (.node (fT "joined_ways" "joined_ways" (top 40)) (lf ac0) .nil) (lf aaR)) (.node (cO "under" "under" 472 76 2 3 229 477) (lf tE) (lf (tN 821 ["numbers", "offered", "share"]))))) (.node q58 (.node tE (.node (aeP P) (.node abY (lf fE) .nil) (lf tE)) (.node tE (.node tE (lf acr) .nil) (lf tE))) (.node fE (.node ab2 (.node aat (lf (fT "_law_doors" "_law_doors" (top 64))) .nil) (lf ael)) (.node (fT "behind_door" "behind_door" (top 29)) (lf aeO) (lf acs)))))) (.node o14 (.node q22 (.node tE (.node q70 (.node aes (.node (fT "looks" "looks" (top 31)) (lf tE) .nil) (lf ac8)) (.node (fT "is_ratio" "is_ratio" (top 19)) (.node (fT "chance_to" "Door.chance_to" (dH 41 2)) (lf abq) .nil) (lf (fT "size" "Hall.size" (dH 51 1))))) (.node tE (.node (tN 389 ["room"]) (.node acq (lf fE) .nil) (lf abG)) (.node fE (lf tE) (lf fE)))) (.node tE (.node tE (.node aed (.node fE (lf aeS) .nil) (lf (adA P))) (.node acg (.node ad0 (lf fE) .nil) (lf acR))) (.node ae6 (.node (fT "divisor" "divisor" (top 14)) (.node (tN 581 ["self", "name", "pay"]) (lf ac3) .nil) (lf tE)) (.node (cO "total" "total" 488 84 1 3 241 493) (lf abv) (lf ach))))) (.node (q30 P) (.node q46 (.node tE (.node (tN 359 ["self", "door"]) (.node tE (lf fE) .nil) (lf aem)) (.node (cO "plus" "plus" 440 68 2 3 201 445) (.node aei (lf tE) .nil) (lf (cO "names" "Hall.names" 783 201 1 3 457 787)))) (.node (ab9 P) (.node tE (.node ae0 (lf abA) .nil) (lf adv)) (.node (fT "level" "level" (top 26)) (lf (fT "__init__" "Mixed.__init__" (dH 43 0))) (lf ab3)))) (.node tE (.node q94 (.node aee (.node (tN 550 ["chance"]) (lf abV) .nil) (lf (fT "check_share" "check_share" (top 47)))) (.node tE (.node (tN 635 ["leads"]) (lf (fT "_law_worths" "_law_worths" (top 70))) .nil) (lf tE))) (.node ac2 (.node tE (.node tE (lf fE) .nil) (lf fE)) (.node fE (lf fE) (lf adx)))))))))
noncomputable def S1 (w:World) (os:OsState):SharedT:=⟨tr1 w.params,614,{},⟨[]⟩,{},988,os⟩
noncomputable def e1:Pos:=⟨346,0,349,164⟩
noncomputable def KH:Params->Frag:=fun P=>(
 (nat_lit 2,(boot_o_2 P)) ::
 (nat_lit 3,⟨(.type "dict"),none,(.dict ⟨dE P "__name__" 165 (.str "law_chancehall_k21_looks" 832) :: dE P "__doc__" 166 .none :: dE P "__package__" 167 .none :: dE P "__loader__" 168 (.builtin "__main__.__loader__#opaque") :: dE P "__spec__" 169 .none :: dE P "__annotations__" 170 (.ref 6) :: dE P "__builtins__" 171 (.ref 4) :: dE P "__file__" 173 (.str "/claim/cut.py" 172) :: dE P "__cached__" 174 .none :: dE P "_wall" 193 (.ref 21) :: dE P "HallError" 213 (.ref 31) :: dE P "NoNumber" 229 (.ref 44) :: dE P "NoName" 245 (.ref 56) :: dE P "NoChance" 261 (.ref 68) :: dE P "NoShare" 277 (.ref 80) :: dE P "NoText" 293 (.ref 92) :: dE P "NoRow" 318 (.ref 111) :: dE P "NoRoom" 343 (.ref 130) :: dE P "NoDoor" 368 (.ref 149) :: dE P "NoPlan" 393 (.ref 168) :: dE P "is_whole" 402 (.ref 177) :: dE P "divisor" 413 (.ref 184) :: dE P "NOUGHT" 418 (.ref 185) :: dE P "ONE" 421 (.ref 186) :: dE P "ratio" 430 (.ref 193) :: dE P "is_ratio" 439 (.ref 200) :: dE P "plus" 447 (.ref 207) :: dE P "minus" 455 (.ref 214) :: dE P "times" 463 (.ref 221) :: dE P "over" 471 (.ref 228) :: dE P "under" 479 (.ref 235) :: dE P "level" 487 (.ref 240) :: dE P "total" 495 (.ref 247) :: dE P "behind_door" 503 (.ref 252) :: dE P "raised_look" 513 (.ref 259) :: dE P "looks" 519 (.ref 264) :: dE P "LONGEST_WORD" 523 (.int 8 522) :: dE P "is_word" 529 (.ref 269) :: dE P "check_head" 539 (.ref 276) :: dE P "check_room_name" 546 (.ref 283) :: dE P "check_chance" 553 (.ref 290) :: dE P "check_pairs" 559 (.ref 295) :: dE P "joined_ways" 565 (.ref 300) :: dE P "Door" 612 (.ref 331) :: dE P "Sure" 639 (.ref 352) :: dE P "Mixed" 666 (.ref 371) :: dE P "Toss" 694 (.ref 390) :: dE P "Even" 716 (.ref 407) :: dE P "check_share" 725 (.ref 416) :: dE P "numbers_of" 735 (.ref 423) :: dE P "numbered_ways" 746 (.ref 430) :: dE P "offers_of" 757 (.ref 437) :: dE P "Hall" 831 (.ref 492) :: dE P "_law_cell" 841 (.ref 503) :: dE P "_law_stream" 853 (.ref 510) :: dE P "_law_gcd" 863 (.ref 517) :: dE P "_law_ratio" 872 (.ref 524) :: dE P "_law_is_ratio" 880 (.ref 531) :: dE P "_law_are_ratios" 886 (.ref 536) :: dE P "_law_same" 894 (.ref 543) :: dE P "_law_names" 900 (.ref 548) :: dE P "_law_share" 909 (.ref 555) :: dE P "_law_pay" 918 (.ref 562) :: dE P "_law_door" 924 (.ref 567) :: dE P "_law_doors" 930 (.ref 572) :: dE P "_law_built" 936 (.ref 577) :: dE P "_law_hall" 942 (.ref 582) :: dE P "_law_chosen" 953 (.ref 589) :: dE P "_law_look" 967 (.ref 596) :: dE P "_law_size" 975 (.ref 603) :: dE P "_law_worths" 981 (.ref 608) :: dE P "_law_right" 987 (.ref 613) :: dE P "_law_refused" 998 (.ref 620) :: dE P "law" 1019 (.ref 627) :: []⟩ 74),⟨[]⟩⟩) ::
 (nat_lit 15,tE) ::
 (nat_lit 17,(tN 190 ["k"])) ::
 (nat_lit 18,tE) ::
 (nat_lit 20,(cO "_wall" "_wall" 187 1 1 3 15 191)) ::
 (nat_lit 21,q21) ::
 (nat_lit 22,q22) ::
 (nat_lit 29,tE) ::
 (nat_lit 30,(q30 P)) ::
 (nat_lit 31,q31) ::
 (nat_lit 32,q32) ::
 (nat_lit 35,q35) ::
 (nat_lit 42,tE) ::
 (nat_lit 43,(q43 P)) ::
 (nat_lit 44,q44) ::
 (nat_lit 47,q47) ::
 (nat_lit 54,tE) ::
 (nat_lit 55,(q55 P)) ::
 (nat_lit 56,q56) ::
 (nat_lit 59,q59) ::
 (nat_lit 66,tE) ::
 (nat_lit 67,(q67 P)) ::
 (nat_lit 68,q68) ::
 (nat_lit 71,q71) ::
 (nat_lit 78,tE) ::
 (nat_lit 79,(q79 P)) ::
 (nat_lit 80,q80) ::
 (nat_lit 83,q83) ::
 (nat_lit 90,tE) ::
 (nat_lit 91,(q91 P)) ::
 (nat_lit 92,q92) ::
 (nat_lit 95,q95) ::
 (nat_lit 102,tE) ::
 (nat_lit 104,(tN 309 ["self", "row"])) ::
 (nat_lit 105,tE) ::
 (nat_lit 107,adh) ::
 (nat_lit 108,abp) ::
 (nat_lit 109,(tN 314 ["row"])) ::
 (nat_lit 110,(ab9 P)) ::
 (nat_lit 111,acj) ::
 (nat_lit 114,acd) ::
 (nat_lit 121,tE) ::
 (nat_lit 123,(tN 334 ["self", "room"])) ::
 (nat_lit 124,tE) ::
 (nat_lit 126,ac2) ::
 (nat_lit 127,abD) ::
 (nat_lit 128,(tN 339 ["room"])) ::
 (nat_lit 129,(abx P)) ::
 (nat_lit 130,aaM) ::
 (nat_lit 133,acX) ::
 (nat_lit 140,tE) ::
 (nat_lit 142,(tN 359 ["self", "door"])) ::
 (nat_lit 143,tE) ::
 (nat_lit 145,abM) ::
 (nat_lit 146,acT) ::
 (nat_lit 147,(tN 364 ["door"])) ::
 (nat_lit 148,(aa6 P)) ::
 (nat_lit 149,acF) ::
 (nat_lit 152,aa4) ::
 (nat_lit 159,tE) ::
 (nat_lit 161,(tN 384 ["self", "room"])) ::
 (nat_lit 162,tE) ::
 (nat_lit 164,ab7) ::
 (nat_lit 165,aav) ::
 (nat_lit 166,(tN 389 ["room"])) ::
 (nat_lit 167,(ade P)) ::
 (nat_lit 168,ac6) ::
 (nat_lit 171,tE) ::
 (nat_lit 173,(tN 399 ["thing"])) ::
 (nat_lit 174,tE) ::
 (nat_lit 176,(cO "is_whole" "is_whole" 396 38 1 3 171 400)) ::
 (nat_lit 177,acH) ::
 (nat_lit 178,tE) ::
 (nat_lit 180,abI) ::
 (nat_lit 181,tE) ::
 (nat_lit 183,(cO "divisor" "divisor" 403 40 2 3 178 411)) ::
 (nat_lit 184,acE) ::
 (nat_lit 185,ac9) ::
 (nat_lit 186,ab2) ::
 (nat_lit 187,tE) ::
 (nat_lit 189,(tN 425 ["top", "bottom", "common"])) ::
 (nat_lit 190,tE) ::
 (nat_lit 192,(cO "ratio" "ratio" 422 51 2 3 187 428)) ::
 (nat_lit 193,aa5) ::
 (nat_lit 194,tE) ::
 (nat_lit 196,(tN 434 ["thing", "top", "bottom"])) ::
 (nat_lit 197,tE) ::
 (nat_lit 199,(cO "is_ratio" "is_ratio" 431 60 1 3 194 437)) ::
 (nat_lit 200,ab4) ::
 (nat_lit 201,tE) ::
 (nat_lit 203,(tN 443 ["one", "other"])) ::
 (nat_lit 204,tE) ::
 (nat_lit 206,(cO "plus" "plus" 440 68 2 3 201 445)) ::
 (nat_lit 207,ab1) ::
 (nat_lit 208,tE) ::
 (nat_lit 210,(tN 451 ["one", "other"])) ::
 (nat_lit 211,tE) ::
 (nat_lit 213,(cO "minus" "minus" 448 70 2 3 208 453)) ::
 (nat_lit 214,acg) ::
 (nat_lit 215,tE) ::
 (nat_lit 217,(tN 459 ["one", "other"])) ::
 (nat_lit 218,tE) ::
 (nat_lit 220,(cO "times" "times" 456 72 2 3 215 461)) ::
 (nat_lit 221,adk) ::
 (nat_lit 222,tE) ::
 (nat_lit 224,(tN 467 ["one", "other"])) ::
 (nat_lit 225,tE) ::
 (nat_lit 227,(cO "over" "over" 464 74 2 3 222 469)) ::
 (nat_lit 228,acQ) ::
 (nat_lit 229,tE) ::
 (nat_lit 231,(tN 475 ["one", "other"])) ::
 (nat_lit 232,tE) ::
 (nat_lit 234,(cO "under" "under" 472 76 2 3 229 477)) ::
 (nat_lit 235,acS) ::
 (nat_lit 236,tE) ::
 (nat_lit 239,(cP "level" "level" 482 79 1 3 236 485)) ::
 (nat_lit 240,adz) ::
 (nat_lit 241,tE) ::
 (nat_lit 243,(tN 491 ["fractions", "leveled"])) ::
 (nat_lit 244,tE) ::
 (nat_lit 246,(cO "total" "total" 488 84 1 3 241 493)) ::
 (nat_lit 247,ac1) ::
 (nat_lit 248,tE) ::
 (nat_lit 251,aaX) ::
 (nat_lit 252,abw) ::
 (nat_lit 253,tE) ::
 (nat_lit 255,abg) ::
 (nat_lit 256,tE) ::
 (nat_lit 258,aaW) ::
 (nat_lit 259,aa1) ::
 (nat_lit 260,tE) ::
 (nat_lit 263,(cP "looks" "looks" 514 94 3 3 260 517)) ::
 (nat_lit 264,ada) ::
 (nat_lit 265,tE) ::
 (nat_lit 268,(cP "is_word" "is_word" 524 100 1 3 265 527)) ::
 (nat_lit 269,adq) ::
 (nat_lit 270,tE) ::
 (nat_lit 272,(tN 535 ["name", "pay"])) ::
 (nat_lit 273,tE) ::
 (nat_lit 275,abj) ::
 (nat_lit 276,abJ) ::
 (nat_lit 277,tE) ::
 (nat_lit 279,(tN 543 ["room"])) ::
 (nat_lit 280,tE) ::
 (nat_lit 282,abY) ::
 (nat_lit 283,abO) ::
 (nat_lit 284,tE) ::
 (nat_lit 286,(tN 550 ["chance"])) ::
 (nat_lit 287,tE) ::
 (nat_lit 289,aa8) ::
 (nat_lit 290,abC) ::
 (nat_lit 291,tE) ::
 (nat_lit 294,acq) ::
 (nat_lit 295,abe) ::
 (nat_lit 296,tE) ::
 (nat_lit 299,acG) ::
 (nat_lit 300,abk) ::
 (nat_lit 308,tE) ::
 (nat_lit 310,(tN 581 ["self", "name", "pay"])) ::
 (nat_lit 311,tE) ::
 (nat_lit 313,adb) ::
 (nat_lit 314,aat) ::
 (nat_lit 315,tE) ::
 (nat_lit 317,(tN 590 ["self"])) ::
 (nat_lit 318,tE) ::
 (nat_lit 320,(cO "ways" "Door.ways" 587 135 1 3 315 591)) ::
 (nat_lit 321,abF) ::
 (nat_lit 322,tE) ::
 (nat_lit 324,(tN 597 ["self", "room"])) ::
 (nat_lit 325,tE) ::
 (nat_lit 327,aax) ::
 (nat_lit 328,aau) ::
 (nat_lit 329,(tN 602 ["leads", "name", "pay"])) ::
 (nat_lit 330,(aaB P)) ::
 (nat_lit 331,acL) ::
 (nat_lit 332,acy) ::
 (nat_lit 333,acK) ::
 (nat_lit 336,abo) ::
 (nat_lit 343,tE) ::
 (nat_lit 345,(tN 628 ["self", "name", "pay", "room"])) ::
 (nat_lit 346,tE) ::
 (nat_lit 348,abm) ::
 (nat_lit 349,aa3) ::
 (nat_lit 350,(tN 635 ["leads"])) ::
 (nat_lit 351,(aci P)) ::
 (nat_lit 352,aaz) ::
 (nat_lit 355,abh) ::
 (nat_lit 362,tE) ::
 (nat_lit 364,(tN 655 ["self", "name", "pay", "pairs"])) ::
 (nat_lit 365,tE) ::
 (nat_lit 367,acu) ::
 (nat_lit 368,ab5) ::
 (nat_lit 369,(tN 662 ["leads"])) ::
 (nat_lit 370,(aaF P)) ::
 (nat_lit 371,abz) ::
 (nat_lit 374,abv) ::
 (nat_lit 381,tE) ::
 (nat_lit 383,abn) ::
 (nat_lit 384,tE) ::
 (nat_lit 386,abX) ::
 (nat_lit 387,abT) ::
 (nat_lit 388,tE) ::
 (nat_lit 389,(acz P)) ::
 (nat_lit 390,ac8) ::
 (nat_lit 393,aaP) ::
 (nat_lit 400,tE) ::
 (nat_lit 403,aaD) ::
 (nat_lit 404,aaZ) ::
 (nat_lit 405,tE) ::
 (nat_lit 406,(adA P)) ::
 (nat_lit 407,abL) ::
 (nat_lit 410,tE) ::
 (nat_lit 412,(tN 722 ["share"])) ::
 (nat_lit 413,tE) ::
 (nat_lit 415,aaI) ::
 (nat_lit 416,abZ) ::
 (nat_lit 417,tE) ::
 (nat_lit 419,(tN 729 ["rooms", "numbers", "room", "name"])) ::
 (nat_lit 420,tE) ::
 (nat_lit 422,abG) ::
 (nat_lit 423,abH) ::
 (nat_lit 424,tE) ::
 (nat_lit 426,aaR) ::
 (nat_lit 427,tE) ::
 (nat_lit 429,abb) ::
 (nat_lit 430,adv) ::
 (nat_lit 431,tE) ::
 (nat_lit 433,aaU) ::
 (nat_lit 434,tE) ::
 (nat_lit 436,aby) ::
 (nat_lit 437,acA) ::
 (nat_lit 445,tE) ::
 (nat_lit 448,ac4) ::
 (nat_lit 449,abr) ::
 (nat_lit 450,tE) ::
 (nat_lit 452,(tN 779 ["self"])) ::
 (nat_lit 453,tE) ::
 (nat_lit 455,(cO "size" "Hall.size" 776 198 1 3 450 780)) ::
 (nat_lit 456,aaH) ::
 (nat_lit 457,tE) ::
 (nat_lit 459,(tN 786 ["self"])) ::
 (nat_lit 460,tE) ::
 (nat_lit 462,(cO "names" "Hall.names" 783 201 1 3 457 787)) ::
 (nat_lit 463,adt) ::
 (nat_lit 464,tE) ::
 (nat_lit 466,(tN 793 ["self", "name"])) ::
 (nat_lit 467,tE) ::
 (nat_lit 469,(cO "place" "Hall.place" 790 204 2 3 464 795)) ::
 (nat_lit 470,acR) ::
 (nat_lit 471,tE) ::
 (nat_lit 473,(tN 801 ["self", "room"])) ::
 (nat_lit 474,tE) ::
 (nat_lit 476,abP) ::
 (nat_lit 477,ado) ::
 (nat_lit 478,tE) ::
 (nat_lit 480,(tN 809 ["self", "room", "name"])) ::
 (nat_lit 481,tE) ::
 (nat_lit 483,acn) ::
 (nat_lit 484,abW) ::
 (nat_lit 485,tE) ::
 (nat_lit 488,abN) ::
 (nat_lit 489,acN) ::
 (nat_lit 490,(tN 821 ["numbers", "offered", "share"])) ::
 (nat_lit 491,(adn P)) ::
 (nat_lit 492,adf) ::
 (nat_lit 493,aa7) ::
 (nat_lit 494,ab3) ::
 (nat_lit 497,tE) ::
 (nat_lit 499,(tN 837 ["_law_script", "_law_k"])) ::
 (nat_lit 500,tE) ::
 (nat_lit 502,ach) ::
 (nat_lit 503,acf) ::
 (nat_lit 504,tE) ::
 (nat_lit 506,acs) ::
 (nat_lit 507,tE) ::
 (nat_lit 509,abK) ::
 (nat_lit 510,adx) ::
 (nat_lit 511,tE) ::
 (nat_lit 513,abB) ::
 (nat_lit 514,tE) ::
 (nat_lit 516,acB) ::
 (nat_lit 517,aaw) ::
 (nat_lit 518,tE) ::
 (nat_lit 520,ady) ::
 (nat_lit 521,tE) ::
 (nat_lit 523,adg) ::
 (nat_lit 524,aaN) ::
 (nat_lit 525,tE) ::
 (nat_lit 527,(tN 876 ["_law_found", "_law_number"])) ::
 (nat_lit 528,tE) ::
 (nat_lit 530,ac7) ::
 (nat_lit 531,aaT) ::
 (nat_lit 532,tE) ::
 (nat_lit 535,acv) ::
 (nat_lit 536,abu) ::
 (nat_lit 537,tE) ::
 (nat_lit 539,(tN 890 ["_law_one", "_law_other"])) ::
 (nat_lit 540,tE) ::
 (nat_lit 542,abV) ::
 (nat_lit 543,aay) ::
 (nat_lit 544,tE) ::
 (nat_lit 547,adw) ::
 (nat_lit 548,abt) ::
 (nat_lit 549,tE) ::
 (nat_lit 551,ab0) ::
 (nat_lit 552,tE) ::
 (nat_lit 554,ac0) ::
 (nat_lit 555,abE) ::
 (nat_lit 556,tE) ::
 (nat_lit 558,abA) ::
 (nat_lit 559,tE) ::
 (nat_lit 561,acM) ::
 (nat_lit 562,abR) ::
 (nat_lit 563,tE) ::
 (nat_lit 566,ac3) ::
 (nat_lit 567,aaA) ::
 (nat_lit 568,tE) ::
 (nat_lit 571,aaV) ::
 (nat_lit 572,adu) ::
 (nat_lit 573,tE) ::
 (nat_lit 576,abd) ::
 (nat_lit 577,ac5) ::
 (nat_lit 578,tE) ::
 (nat_lit 581,ace) ::
 (nat_lit 582,abq) ::
 (nat_lit 590,tE) ::
 (nat_lit 592,adl) ::
 (nat_lit 593,tE) ::
 (nat_lit 595,aa2) ::
 (nat_lit 596,acZ) ::
 (nat_lit 597,tE) ::
 (nat_lit 599,(tN 971 ["_law_cell_here", "_law_xs"])) ::
 (nat_lit 600,tE) ::
 (nat_lit 602,acr) ::
 (nat_lit 603,adp) ::
 (nat_lit 604,tE) ::
 (nat_lit 607,aaQ) ::
 (nat_lit 608,aaG) ::
 (nat_lit 609,tE) ::
 (nat_lit 612,aa0) ::
 (nat_lit 613,acC) ::
 (nat_lit 614,tE) ::
 (nat_lit 616,(tN 991 ["_law_hall_here", "_law_room", "_law_worths_here", "e", "_law_others"])) ::
 (nat_lit 617,tE) ::
 (nat_lit 619,(cO "_law_refused" "_law_refused" 988 350 3 3 614 996)) ::
 (nat_lit 620,(fO "_law_refused" "_law_refused" (top 72) (.str "law_chancehall_k21_looks" 832) 619)) ::
 (nat_lit 621,tE) ::
 (nat_lit 623,(tN 1002 ["_law_script", "_law_many", "_law_share_here", "_law_rooms", "_law_hall_here", "_law_one", "_law_other", "_law_handed", "_law_room", "_law_at", "_law_held", "_law_odd", "_law_found", "_law_worths_here", "_law_again"])) ::
 (nat_lit 624,tE) ::
 (nat_lit 626,(cO "law" "law" 999 360 1 3 621 1017)) ::
 (nat_lit 627,(fO "law" "law" (top 73) (.str "law_chancehall_k21_looks" 832) 626)) ::
 ([] : List (Nat × Obj)))
noncomputable abbrev asH:List Nat:=[2,3,15,17,18,20,21,22,29,30,31,32,35,42,43,44,47,54,55,56,59,66,67,68,71,78,79,80,83,90,91,92,95,102,104,105,107,108,109,110,111,114,121,123,124,126,127,128,129,130,133,140,142,143,145,146,147,148,149,152,159,161,162,164,165,166,167,168,171,173,174,176,177,178,180,181,183,184,185,186,187,189,190,192,193,194,196,197,199,200,201,203,204,206,207,208,210,211,213,214,215,217,218,220,221,222,224,225,227,228,229,231,232,234,235,236,239,240,241,243,244,246,247,248,251,252,253,255,256,258,259,260,263,264,265,268,269,270,272,273,275,276,277,279,280,282,283,284,286,287,289,290,291,294,295,296,299,300,308,310,311,313,314,315,317,318,320,321,322,324,325,327,328,329,330,331,332,333,336,343,345,346,348,349,350,351,352,355,362,364,365,367,368,369,370,371,374,381,383,384,386,387,388,389,390,393,400,403,404,405,406,407,410,412,413,415,416,417,419,420,422,423,424,426,427,429,430,431,433,434,436,437,445,448,449,450,452,453,455,456,457,459,460,462,463,464,466,467,469,470,471,473,474,476,477,478,480,481,483,484,485,488,489,490,491,492,493,494,497,499,500,502,503,504,506,507,509,510,511,513,514,516,517,518,520,521,523,524,525,527,528,530,531,532,535,536,537,539,540,542,543,544,547,548,549,551,552,554,555,556,558,559,561,562,563,566,567,568,571,572,573,576,577,578,581,582,590,592,593,595,596,597,599,600,602,603,604,607,608,609,612,613,614,616,617,619,620,621,623,624,626,627]
end
noncomputable def qv:Program:=view p [0,2,3,4,5,6,7,8,9,10,11,13,14,16,17,18,19,20,21,22,23,24,26,27,29,30,31,33,34,36,37,38,39,40,41,42,43,44,45,47,48,49,50,51,53,54,55,56,57,58,59,60,61,62,63,64,65,66,67,68,69,70,71,72,73]
noncomputable abbrev R:RowW:=PySem.Challenge.rw_chancehall_k21_looks.row.toRowW
noncomputable def Xt (s:Shared):Bool:=xlAt qv [] s && recOk R.records s
noncomputable def e:Pos:=⟨360,0,382,123⟩
set_option maxHeartbeats 0
theorem wsd:PySem.Challenge.rw_chancehall_k21_looks.wellSaid = true:=by kernel_rfl
theorem asK:∀ P,asH = (KH P).map (·.1):=fun _=>by kernel_rfl
theorem pre (w:World):(fun os=>topGo treeTable p w 11 ann 12 (S0 w os) (topStub p)) = fun os=>some (Sa w os,⟨denote treeTable (cE p),cE p,z,B⟩):=by
 rw [Fast.te15667345088766844465,Fast.te14364793385576792824,Fast.te11892475500146522536]; kernel_rfl
theorem block (w:World):(fun os=>segRun treeTable p w 11 ann 1 1 (Sa w os) (blockOf (behindTheImports p) (env p) (cE p) z B)) = fun os=>some (.next,(Sb w os).abs,cE p,z):=by
 rw [Fast.te14374325043358763698,Fast.te14364793385576792824]; kernel_rfl
theorem abU (w:World):(fun os=>segRunT treeTable p w 11 ann 1 30000 (Sb w os) (piecesOf ((behindTheImports p).take 72) (env p) (cE p) z B)) = fun os=>some (.next,S1 w os,cE p,e1):=by
 rw [Fast.te10110043849684766642,Fast.te14364793385576792824]; kernel_rfl
theorem big (w:World):(fun os=>(segRunT treeTable p w 11 ann 1 50000 (S1 w os) (piecesOf ((behindTheImports p).drop 72) (env p) (cE p) e1 B)).map fun r =>
  (r.1,r.2.2.1,r.2.2.2,(topRun treeTable p w 11 ann 2 r.2.1.abs ⟨doneF .next,cE p,e,B⟩).map fun s =>
   (staticsOk (importedModules p.main.body) (boot_heap w.params) s.heap && namesBound p s.heap && gensDone s && laidKept (boot_heap w.params) s.heap,openSeen qv [] (importedModules p.main.body) Xt true s,asH.map s.heap.get?))) =
  fun _=>some (.next,cE p,e,some (true,openGood qv [],(KH w.params).map fun p=>some p.2)):=by
 rw [Fast.te10110043849684766642,Fast.te14364793385576792824,Fast.te14082659384304107361,Fast.te4187177175401517315,Fast.te5923862056798008813]; kernel_rfl
theorem left:LeftO p qv [] Xt (fun s=>asH.map s.heap.get?) (fun w=>(KH w.params).map fun p=>some p.2) 200000 :=
 O2 (boot_open rfl rfl fun _=>rfl) pre block (fun w os=>lC.cutAt (congrFun (abU w) os) (lC.last (congrFun (big w) os))) rfl
theorem hX (s:Shared) (h:Xt s = true):XL qv [] (s.heap.nsMap mainGlobals) s.heap:=xl_of s (Bool.and_eq_true_iff.mp h).1
theorem hR (s:Shared) (h:Xt s = true):RecFacts R.records s.heap:=recFacts_of (Bool.and_eq_true_iff.mp h).2
end H21
namespace L2
open PySem PySem.Spec PyProof.Rows
noncomputable abbrev Key:=Sum Int Str
noncomputable def v7:Key->Value->Bool
 | .inl k,v=>Value.isInt k v
 | .inr x,v=>Value.isStrOf x v
noncomputable def ad1 (w:World):Key->Int
 | .inl k=>hashInt k
 | .inr x=>hashStr w x
theorem eE:∀ {k:Key} {v:Value},v7 k v = true->(∃ i t,k = Sum.inl i/\v = Value.int i t)\/(∃ x t,k = Sum.inr x/\v = Value.str x t)
 | .inl i,v,h=>by
  obtain ⟨t,e⟩:=Value.isInt_shape (k:=i) (v:=v) h
  exact .inl ⟨i,t,rfl,e⟩
 | .inr x,v,h=>by
  obtain ⟨t,e⟩:=Value.isStrOf_shape (x:=x) (v:=v) h
  exact .inr ⟨x,t,rfl,e⟩
theorem O4 (i:Int) (t:Tok):v7 (.inl i) (.int i t) = true:=by simp [v7,Value.isInt]
theorem O1 (x:Str) (t:Tok):v7 (.inr x) (.str x t) = true:=by simp [v7,Value.isStrOf]
theorem aaf (a b:Int):decide ((Sum.inl a:Key) = Sum.inl b) = (a == b):=by
 by_cases e:a = b
 .subst e; simp
 .have h:¬ (Sum.inl a:Key) = Sum.inl b:=fun q=>e (Sum.inl.inj q)
  rw [decide_eq_false h]
  exact (beq_eq_false_iff_ne.mpr e).symm
theorem Z4 (a b:Str):decide ((Sum.inr a:Key) = Sum.inr b) = decide (a = b):=by
 by_cases e:a = b
 .subst e; simp
 .have h:¬ (Sum.inr a:Key) = Sum.inr b:=fun q=>e (Sum.inr.inj q)
  rw [decide_eq_false h,decide_eq_false e]
theorem Zm (a:Int) (b:Str):decide ((Sum.inl a:Key) = Sum.inr b) = false:=decide_eq_false (fun q=>nomatch q)
theorem Zd (a:Str) (b:Int):decide ((Sum.inr a:Key) = Sum.inl b) = false:=decide_eq_false (fun q=>nomatch q)
noncomputable def iY (prog:Program) (w:World):PySem.KeyKind prog w Key where
 is:=v7
 hash:=ad1 w
 inj:=fun v a b ha hb=>by
  rcases eE ha with ⟨i,t,rfl,rfl⟩ | ⟨x,t,rfl,rfl⟩
  .rcases eE hb with ⟨j,u,rfl,e⟩ | ⟨y,u,rfl,e⟩
   .injection e with e1 _; rw [e1]
   .exact nomatch e
  .rcases eE hb with ⟨j,u,rfl,e⟩ | ⟨y,u,rfl,e⟩
   .exact nomatch e
   .injection e with e1 _; rw [e1]
 byValue:=fun k v h=>by
  rcases eE h with ⟨i,t,rfl,rfl⟩ | ⟨x,t,rfl,rfl⟩ <;> rfl
 pyHash:=fun hv h=>by
  rcases eE hv with ⟨i,t,rfl,rfl⟩ | ⟨x,t,rfl,rfl⟩
  .exact wpAny_pyHash_int h
  .exact wpAny_pyHash_str h
 eqBool:=fun hu hv h=>by
  rcases eE hu with ⟨i,t,rfl,rfl⟩ | ⟨x,t,rfl,rfl⟩
  .rcases eE hv with ⟨j,u,rfl,rfl⟩ | ⟨y,u,rfl,rfl⟩
   .rw [aaf] at h; exact wpAny_eqBool_int h
   .rw [Zm] at h; exact SeqAt.EqAt.int_str i t y u _ _ _ _ h
  .rcases eE hv with ⟨j,u,rfl,rfl⟩ | ⟨y,u,rfl,rfl⟩
   .rw [Zd] at h; exact SeqAt.EqAt.str_int x t j u _ _ _ _ h
   .rw [Z4] at h; exact wpAny_eqBool_str h
 «strs»:=fun k x t v h=>by
  rcases eE h with ⟨i,u,rfl,e⟩ | ⟨y,u,rfl,e⟩
  .exact nomatch e
  .injection e with e1 _
   subst e1
   cases v <;> rfl
theorem Ii (prog:Program) (w:World) (i:Int) (t:Tok):(iY prog w).is (.inl i) (.int i t) = true:=O4 i t
theorem JG (prog:Program) (w:World) (x:Str) (t:Tok):(iY prog w).is (.inr x) (.str x t) = true:=O1 x t
end L2
namespace L2
open PySem PySem.Spec PyProof.Rows
inductive V where
 | non | bl (b:Bool) | int (i:Int) | str (x:Str) | byt (b:Array UInt8) | flt (b:UInt64) | ref (a:Addr) | ty (n:String)
 deriving DecidableEq
noncomputable def RelV:V->Value->Prop
 | .non,u=>u = Value.none
 | .bl b,u=>u = Value.bool b
 | .int i,u=>∃ t,u = Value.int i t
 | .str x,u=>∃ t,u = Value.str x t
 | .byt b,u=>∃ t,u = Value.bytes b t
 | .flt b,u=>∃ t,u = Value.float b t
 | .ref a,u=>u = Value.ref a
 | .ty n,u=>u = Value.type n
noncomputable abbrev Vals:List V->List Value->Prop:=Paired RelV
theorem Vals.length {xs:List V} {us:List Value} (r:Vals xs us):xs.length = us.length:=Paired.length r
theorem Vals.get:∀ {xs:List V} {us:List Value} {i:Nat} {x:V},Vals xs us->xs[i]? = some x->∃ u,us[i]? = some u/\RelV x u
 | _,_,_,_,.nil,e=>by simp at e
 | _,_,0,_,.cons r _,e=>by simp at e; subst e; exact ⟨_,rfl,r⟩
 | _,_,i + 1,x,.cons _ t,e=>by
  obtain ⟨u,h1,h2⟩:=Vals.get (i:=i) (x:=x) t (by simpa using e)
  exact ⟨u,by simpa using h1,h2⟩
theorem Vals.set {x:V} {u:Value} (r:RelV x u):∀ {xs:List V} {us:List Value} (i:Nat),Vals xs us->Vals (xs.set i x) (us.set i u)
 | _,_,_,.nil=>.nil
 | _,_,0,.cons _ t=>.cons r t
 | _,_,i + 1,.cons q t=>.cons q (Vals.set r i t)
theorem Vals.append:∀ {xs ys:List V} {us ws:List Value},Vals xs us->Vals ys ws->Vals (xs ++ ys) (us ++ ws)
 | _,_,_,_,.nil,s=>s
 | _,_,_,_,.cons r t,s=>.cons r (Vals.append t s)
theorem Vals.take:∀ {xs:List V} {us:List Value} (n:Nat),Vals xs us->Vals (xs.take n) (us.take n)
 | _,_,0,_=>.nil
 | _,_,_ + 1,.nil=>.nil
 | _,_,n + 1,.cons r t=>.cons r (Vals.take n t)
theorem Vals.drop:∀ {xs:List V} {us:List Value} (n:Nat),Vals xs us->Vals (xs.drop n) (us.drop n)
 | _,_,0,r=>r
 | _,_,_ + 1,.nil=>.nil
 | _,_,n + 1,.cons _ t=>Vals.drop n t
noncomputable def qU:Option V->Option Value->Prop
 | some v,some u=>RelV v u
 | none,none=>True
 | _,_=>False
noncomputable def KV {κ:Type} : List (κ × V)->List (κ × Value)->Prop:=Paired fun (p:κ × V) (q:κ × Value)=>p.1 = q.1/\RelV p.2 q.2
noncomputable def kV:Key->V
 | .inl i=>.int i
 | .inr x=>.str x
inductive HO where
  | lst (xs:List V)
  | tup (xs:List V)
  | dK (kvs:List (Key × V))
  | set (S:Int->Bool) (n:Nat)
  | ins (C dx:Addr) (fs:List (Str × V))
  | own (x:Addr)
  | xd (fs:List (Str × V))
  | met (f x:Addr)
  | rng (lo hi:Int)
  | frz (o:Obj) (u:HO)
  | tbl (ps:Array Value)
  | ext (φ:Heap->Prop)
noncomputable abbrev Hp:=Addr->Option HO
noncomputable def upd (H:Hp) (a:Addr) (o:HO):Hp:=fun b=>if b = a then some o else H b
theorem bB {H:Hp} {a:Addr} {o:HO} : upd H a o a = some o:=by unfold upd; rw [if_pos rfl]
theorem bF {H:Hp} {a b:Addr} {o:HO} (h:b ≠ a):upd H a o b = H b:=by unfold upd; rw [if_neg h]
theorem m6 {H:Hp} {a:Addr} {o u:HO} : upd (upd H a o) a u = upd H a u:=by
 funext b; unfold upd; split <;> rfl
theorem eV {H:Hp} {a b:Addr} {o u:HO} (h:H a = some o) (h':H b = some u) (d:o ≠ u):a ≠ b:=by
 intro e; subst e; rw [h] at h'; exact d (Option.some.inj h')
theorem bA {H:Hp} {a b:Addr} {o:HO} (h:H a = some o) (h':H b = none):a ≠ b:=by
 intro e; subst e; rw [h] at h'; cases h'
section
variable (P:Program) (w:World)
noncomputable def cZ (H:Hp) (h:Heap) (a:Addr):HO->Prop
 | .lst xs=>xs.length <= sizeLine/\∃ (its:List Value) (n:Nat),Vals xs its/\h.get? a = some { cls:=.type "list",data:=.seq its.toArray n }
 | .tup xs=>xs.length <= sizeLine/\∃ its:List Value,Vals xs its/\IsTup h a its.toArray
 | .dK kvs=>kvs.length <= sizeLine/\(a == sysModules) = false/\∃ vs,KV kvs vs/\h.DictOf (iY P w) a vs
 | .set S n=>h.SetOf (intKind P w) a S n
 | .ins C dx fs=>H dx = some (.own a)/\fs.length <= 1000/\dx ≠ a/\h.get? a = some (PySem.W.instObj C dx) /\
   ∃ mA,h.Ns1 dx mA/\(∀ f,qU (fs.lookup f) (mA f))/\PySem.Within mA (fs.map (·.1))
 | .own _=>∃ o,h.get? a = some o
 | .xd fs=>∃ mA,h.Ns1 a mA/\∀ f,qU (fs.lookup f) (mA f)
 | .rng lo hi=>∃ t u v,h.get? a = some { cls:=.type "range",data:=.fields #[.int lo t,.int hi u,.int 1 v] }
 | .frz o u=>h.get? a = some o/\cZ H h a u
 | .tbl ps=>h.get? a = some { cls:=.none,data:=.fields ps }
 | .met f x=>h.get? a = some (PySem.W.methodObj (.ref f) (.ref x))
 | .ext φ=>φ h/\(∃ o,h.get? a = some o)/\∀ h1 h2:Heap,φ h1->(∀ o,h1.get? a = some o->h2.get? a = some o)->φ h2
noncomputable def HOk (H:Hp) (h:Heap):Prop:=∀ a o,H a = some o->cZ P w H h a o
end
section
variable {P:Program} {w:World} {H H':Hp} {h h':Heap} {a:Addr} {o:HO}
theorem cZ.lt (x:cZ P w H h a o):a < h.objs.size:=by
 cases o with
 | lst xs=>obtain ⟨_,_,_,_,e⟩:=x; exact aH e
 | tup xs=>obtain ⟨_,_,_,p⟩:=x; exact p.lt
 | dK kvs=>obtain ⟨_,_,_,_,o,_,_,e,_⟩:=x; exact aH e
 | set S n=>obtain ⟨o,_,_,_,e,_⟩:=x; exact aH e
 | ins C dx fs=>obtain ⟨_,_,_,e,_⟩:=x; exact aH e
 | own y=>obtain ⟨_,e⟩:=x; exact aH e
 | xd fs=>obtain ⟨_,⟨_,_,_,e,_⟩,_⟩:=x; exact aH e
 | rng lo hi=>obtain ⟨_,_,_,e⟩:=x; exact aH e
 | frz ob u=>obtain ⟨e,_⟩:=x; exact aH e
 | tbl ps=>exact aH (show h.get? a = some _ from x)
 | met f y=>exact aH (show h.get? a = some _ from x)
 | ext φ=>obtain ⟨_,⟨_,e⟩,_⟩:=x; exact aH e
theorem cZ.stay (x:cZ P w H h a o) (k:∀ b u,(b = a\/H b = some (.own a))->h.get? b = some u->h'.get? b = some u)
  (ho:∀ b,H b = some (.own a)->H' b = some (.own a)) (ht:∀ b xs,H b = some (.tup xs)->H' b = some (.tup xs)):cZ P w H' h' a o:=by
 induction o with
 | lst xs=>obtain ⟨z,its,n,r,e⟩:=x; exact ⟨z,its,n,r,k _ _ (.inl rfl) e⟩
 | tup xs=>obtain ⟨z,its,r,ob,e,c⟩:=x; exact ⟨z,its,r,ob,k _ _ (.inl rfl) e,c⟩
 | dK kvs=>obtain ⟨z,y,vs,r,ob,es,ep,e,c⟩:=x; exact ⟨z,y,vs,r,ob,es,ep,k _ _ (.inl rfl) e,c⟩
 | set S n=>obtain ⟨ob,es,ep,t,e,c⟩:=x; exact ⟨ob,es,ep,t,k _ _ (.inl rfl) e,c⟩
 | ins C dx fs =>
  obtain ⟨d,z,ne,e,mA,⟨od,es,ep,e2,c⟩,r⟩:=x
  exact ⟨ho _ d,z,ne,k _ _ (.inl rfl) e,mA,⟨od,es,ep,k _ _ (.inr d) e2,c⟩,r⟩
 | own y=>obtain ⟨ob,e⟩:=x; exact ⟨ob,k _ _ (.inl rfl) e⟩
 | xd fs=>obtain ⟨mA,⟨od,es,ep,e,c⟩,r⟩:=x; exact ⟨mA,⟨od,es,ep,k _ _ (.inl rfl) e,c⟩,r⟩
 | rng lo hi=>obtain ⟨t,u,v,e⟩:=x; exact ⟨t,u,v,k _ _ (.inl rfl) e⟩
 | frz ob u ih=>obtain ⟨e,q⟩:=x; exact ⟨k _ _ (.inl rfl) e,ih q⟩
 | tbl ps =>
  have e:h.get? a = some { cls:=.none,data:=.fields ps }:=x
  show h'.get? a = some { cls:=.none,data:=.fields ps }
  exact k a _ (.inl rfl) e
 | met f y =>
  have e:h.get? a = some (PySem.W.methodObj (.ref f) (.ref y)):=x
  show h'.get? a = some (PySem.W.methodObj (.ref f) (.ref y))
  exact k a _ (.inl rfl) e
 | ext φ=>obtain ⟨p,⟨o,e⟩,st⟩:=x; exact ⟨st _ _ p fun o q=>k _ _ (.inl rfl) q,⟨o,k _ _ (.inl rfl) e⟩,st⟩
theorem HOk.lt (x:HOk P w H h) (e:H a = some o):a < h.objs.size:=(x a o e).lt
theorem HOk.fresh (x:HOk P w H h) (e:h.objs.size <= a):H a = none:=by
 cases q:H a with
 | none=>rfl
 | some u=>exact absurd (aQ (x.lt q) e) (Nat.lt_irrefl _)
theorem HOk.kept (x:HOk P w H h) (k:∀ b u,h.get? b = some u->h'.get? b = some u):HOk P w H h':=fun a o e =>
 (x a o e).stay (fun b u _ q=>k b u q) (fun _ q=>q) fun _ _ q=>q
theorem HOk.laid (x:HOk P w H h) (k:∀ b u,h.get? b = some u->h'.get? b = some u) (hp:h.objs.size <= a) (new:cZ P w (upd H a o) h' a o):HOk P w (upd H a o) h':=fun b u e=>by
 have hn:=x.fresh hp
 by_cases hb:b = a
 .subst hb; rw [bB] at e; cases e; exact new
 .rw [bF hb] at e
  exact (x b u e).stay (fun c v _ q=>k c v q) (fun c q=>by rw [bF (bA q hn)]; exact q) fun c xs q=>by rw [bF (bA q hn)]; exact q
end
noncomputable def Rd (H:Hp) (a:Addr) (u:HO):Prop:=H a = some u\/∃ o,H a = some (.frz o u)
theorem Rd.ok {P:Program} {w:World} {H:Hp} {h:Heap} {a:Addr} {u:HO} (r:Rd H a u) (x:HOk P w H h):cZ P w H h a u:=by
 rcases r with r | ⟨o,r⟩
 .exact x a u r
 .obtain ⟨_,q⟩:=x a _ r
  exact q
noncomputable def Mut:Option HO->Prop
 | some (.lst _)=>True
 | some (.dK _)=>True
 | some (.set _ _)=>True
 | some (.ins _ _ _)=>True
 | some (.ext _)=>True
 | _=>False
section
variable {P:Program} {w:World} {H:Hp} {h h':Heap} {x e:Addr} {o':HO}
theorem HOk.write (ok:HOk P w H h) (mu:Mut (H x)) (he:e = x\/H e = some (.own x)) (k:∀ b u,b ≠ e->h.get? b = some u->h'.get? b = some u) (heo:∃ u,h'.get? e = some u)
  (new:cZ P w (upd H x o') h' x o'):HOk P w (upd H x o') h':=fun b u q=>by
 have nown:∀ c y,H c = some (.own y)->c ≠ x:=fun c y r z=>by subst z; rw [r] at mu; exact mu
 have ntup:∀ c xs,H c = some (.tup xs)->c ≠ x:=fun c xs r z=>by subst z; rw [r] at mu; exact mu
 by_cases hb:b = x
 .subst hb; rw [bB] at q; cases q; exact new
 .rw [bF hb] at q
  by_cases hbe:b = e
  .have q':H b = some (.own x):=by
    rcases he with z | z
    .exact absurd (hbe.trans z) hb
    .rw [hbe]; exact z
   rw [q] at q'; cases q'
   obtain ⟨v,hv⟩:=heo
   exact ⟨v,by rw [hbe]; exact hv⟩
  .refine (ok b u q).stay (fun c v hc r=>k c v ?_ r) (fun c r=>by rw [bF (nown c b r)]; exact r) fun c xs r=>by rw [bF (ntup c xs r)]; exact r
   rcases hc with rfl | hc
   .exact hbe
   .rintro rfl
    rcases he with z | z
    .exact nown c b hc z
    .rw [hc] at z; cases z; exact hb rfl
end
structure Un (fs ex:List Addr) (H H':Hp) (h h':Heap):Prop where
 keep:∀ b o,h.get? b = some o->H b = none->b ∉ fs->b ∉ ex->h'.get? b = some o
 slot:∀ b o,h.get? b = some o->H b = none->b ∈ fs->b ∉ ex->∃ sl,h'.get? b = some { o with slots:=sl }
 free:∀ b o,h.get? b = some o->H b = none->b ∉ ex->H' b = none
 there:∀ b o,h.get? b = some o->b ∉ ex->∃ o',h'.get? b = some o'
 tups:∀ b xs,H b = some (.tup xs)->H' b = some (.tup xs)
 frzs:∀ b o u,H b = some (.frz o u)->H' b = some (.frz o u)
 tbls:∀ b ps,H b = some (.tbl ps)->∃ more,H' b = some (.tbl (ps ++ more))
section
variable {fs fs' ex ex':List Addr} {H H1 H2:Hp} {h h1 h2 h':Heap} {a x e:Addr} {o:HO}
theorem Un.any (u:Un fs ex H H1 h h1) {b:Addr} {ob:Obj} (q:h.get? b = some ob) (n:H b = none) (hx:b ∉ ex):∃ sl,h1.get? b = some { ob with slots:=sl }:=by
 by_cases hb:b ∈ fs
 .exact u.slot b ob q n hb hx
 .exact ⟨ob.slots,u.keep b ob q n hb hx⟩
theorem Un.kept (k:∀ b u,h.get? b = some u->h'.get? b = some u):Un fs ex H H h h' :=
 ⟨fun b ob q _ _ _=>k b ob q,fun b ob q _ _ _=>⟨ob.slots,k b ob q⟩,fun _ _ _ n _=>n,fun b ob q _=>⟨ob,k b ob q⟩,fun _ _ q=>q,fun _ _ _ q=>q,fun _ ps q=>⟨#[],by rw [q]; simp⟩⟩
theorem Un.refl:Un fs ex H H h h:=Un.kept fun _ _ q=>q
theorem Un.laid (k:∀ b u,h.get? b = some u->h'.get? b = some u) (hp:h.objs.size <= a) (hn:H a = none):Un fs ex H (upd H a o) h h' where
 keep:=fun b u q _ _ _=>k b u q
 slot:=fun b u q _ _ _=>⟨u.slots,k b u q⟩
 free:=fun b u q n _=>by rw [bF (aP (aQ (aH q) hp))]; exact n
 there:=fun b u q _=>⟨u,k b u q⟩
 tups:=fun b xs q=>by rw [bF (bA q hn)]; exact q
 frzs:=fun b u xs q=>by rw [bF (bA q hn)]; exact q
 tbls:=fun b ps q=>⟨#[],by rw [bF (bA q hn),q]; simp⟩
theorem Un.write (mu:Mut (H x)) (he:e = x\/H e = some (.own x)) (k:∀ b u,b ≠ e->h.get? b = some u->h'.get? b = some u) (heo:∃ u,h'.get? e = some u):Un fs ex H (upd H x o) h h':=by
 have hx:∀ b,H b = none->b ≠ x:=fun b n z=>by subst z; rw [n] at mu; exact mu
 have hb:∀ b,H b = none->b ≠ e:=fun b n z=>by
  subst z
  rcases he with r | r
  .exact hx b n r
  .rw [n] at r; cases r
 have hm:∀ b u,H b = some u->¬ Mut (some u)->b ≠ x:=fun b u q nm z=>by subst z; rw [q] at mu; exact nm mu
 refine ⟨fun b u q n _ _=>k b u (hb b n) q,fun b u q n _ _=>⟨u.slots,k b u (hb b n) q⟩,fun b u q n _=>by rw [bF (hx b n)]; exact n,fun b u q _=>?_,
  fun b xs q=>by rw [bF (hm b _ q fun z=>z)]; exact q,fun b u xs q=>by rw [bF (hm b _ q fun z=>z)]; exact q,fun b ps q=>⟨#[],by rw [bF (hm b _ q fun z=>z),q]; simp⟩⟩
 by_cases hbe:b = e
 .subst hbe; exact heo
 .exact ⟨u,k b u hbe q⟩
end
noncomputable def trk (h:Heap) (H:Hp):List Addr:=(List.range h.objs.size).filter fun a=>(H a).isSome
noncomputable def DK (h:Heap) (H:Hp):Heap:=PySem.W.hideAll h (trk h H)
theorem Qo (h:Heap) (H:Hp):(DK h H).objs.size = h.objs.size:=PySem.W.hideAll_size _ _
theorem S_ {h:Heap} {H:Hp} {b:Addr} {o:Obj} (e:h.get? b = some o) (n:H b = none):(DK h H).get? b = some o :=
 PySem.W.hideAll_get _ e fun hm=>by
  have q:(H b).isSome = true:=(List.mem_filter.mp hm).2
  rw [n] at q; simp at q
theorem X5 {h:Heap} {H:Hp} {b:Addr} {o:Obj} (e:(DK h H).get? b = some o):h.get? b = some o/\H b = none:=by
 have e':h.get? b = some o:=PySem.W.of_hideAll (trk h H) e
 refine ⟨e',?_⟩
 cases q:H b with
 | none=>rfl
 | some x =>
  have hm:b ∈ trk h H:=List.mem_filter.mpr ⟨List.mem_range.mpr (aH e'),by simp [q]⟩
  have z:(DK h H).get? b = none:=PySem.W.hideAll_none (trk h H) hm
  rw [z] at e; cases e
noncomputable def Xe (g h:Heap) (L:Addr):List (Addr × Obj):=(List.range h.objs.size).filterMap fun a=>if a = L\/(g.get? a).isSome = true then none else (h.get? a).map fun o=>(a,o)
noncomputable def rest (g h:Heap) (L d:Addr):List (Addr × Obj):=(Xe g h L).filter fun p=>decide (p.1 ≠ d)
end L2
namespace L2
open PySem PySem.Spec PyProof.Rows
structure Mod (K:Frag) (mg:Str->Option Value) (base:Heap):Prop where
 kin:K.In base
 glob:base.Ns mainGlobals mg
 blt:∃ mb,base.Ns builtinsNs mb/\∀ x:Str,x ≠ "__name__" -> mb x = bootBuiltins x
 nolimit:base.NoLimit
structure Cx where
 prog:Program
 w:World
 K:Frag
 mg:Str->Option Value
 base:Heap
 A:Around
 N:List Str
 s₀:Shared
 H₀:Hp
 env:Env
 outer:List Env
 stack:List Env
 ex:List Addr
 fn:Str->Bool
 calm:Bool
 pn:List (Addr × Obj)
 xe:Value->Shared->Prop
noncomputable def frs (l:List Env):List Addr:=l.filterMap (·.frame)
noncomputable abbrev Cx.fs (X:Cx):List Addr:=frs X.outer
noncomputable def Vis (sc:Scope) (x:Str):Prop:=sc.names.lookup x = some .local\/sc.names.lookup x = some .cell\/sc.names.lookup x = some .free
noncomputable def Loc (sc:Scope) (x:Str):Prop:=sc.names.lookup x = some .local\/sc.names.lookup x = some .cell
noncomputable def Look (env:Env) (h:Heap) (m:Str->Option Value) (x:Str) (u:Value):Prop :=
 (env.kindOf x = some .local/\m x = some u)\/((env.kindOf x = some .cell\/env.kindOf x = some .free)/\∃ c,env.cells.lookup x = some c/\h.IsCell c (some u))
structure Cx.Ok (X:Cx):Prop where
 mod:Mod X.K X.mg X.base
 kind:X.env.scope.kind = .function
 glob:X.env.globals = mainGlobals
 blt:X.env.builtins = builtinsNs
 above:X.s₀.heap.objs.size <= X.env.locals
 inj:∀ x y c,X.env.cells.lookup x = some c->X.env.cells.lookup y = some c->x = y
 has:∀ x,(X.env.kindOf x = some .cell\/X.env.kindOf x = some .free)->∃ c,X.env.cells.lookup x = some c
 cab:∀ x c,X.fn x = true->X.env.cells.lookup x = some c->X.s₀.heap.objs.size <= c
 hd:X.calm = true->X.A.handled = none
 frames:X.A.frames = some X.stack
 stk:X.stack = X.outer\/(X.stack = X.env :: X.outer/\X.env.frame = some X.env.locals)
 exf:∀ b ∈ X.ex,b ≠ X.env.locals/\∀ x c,X.env.cells.lookup x = some c->c ≠ b
 bs:∀ b o,X.base.get? b = some o->X.s₀.heap.get? b = some o/\X.H₀ b = none
 bsz:X.base.objs.size <= X.s₀.heap.objs.size
 noex:∀ b o,X.base.get? b = some o->b ∉ X.ex
 exfs:∀ b ∈ X.ex,b ∉ X.fs
 funs:X.s₀.heap.FunFrames X.base X.outer
 frf:∀ b ∈ X.fs,X.H₀ b = none
structure Inv (X:Cx) (pins:List (Addr × Obj)) (σ:List (Option V)) (H:Hp) (s:Shared):Prop where
 ok:X.Ok
 os:s.os = X.s₀.os
 bare:AllBare s.gens
 base:Un X.fs X.ex X.H₀ H X.s₀.heap s.heap
 loc:∃ m,s.heap.Ns X.env.locals m/\∀ (i:Nat) (x:Str) (v:V),X.N[i]? = some x->σ[i]? = some (some v)->Vis X.env.scope x->∃ u,RelV v u/\Look X.env s.heap m x u
 cell:∀ x c,X.env.cells.lookup x = some c->∃ v,s.heap.IsCell c v
 free:H X.env.locals = none
 freeC:∀ x c,X.env.cells.lookup x = some c->H c = none
 pin:∀ p ∈ X.pn ++ pins,s.heap.get? p.1 = some p.2/\H p.1 = none/\p.1 ≠ X.env.locals/\p.1 ∉ X.fs/\∀ v,p.2.data ≠ .cell v
 hok:HOk X.prog X.w H s.heap
 len:σ.length = X.N.length
section
variable {X:Cx} {pins:List (Addr × Obj)} {σ:List (Option V)} {H H':Hp} {s:Shared} {h':Heap}
theorem Cx.Ok.nofr (ok:X.Ok) {b:Addr} {o:Obj} (e:X.base.get? b = some o):b ∉ X.fs:=fun hb=>by
 have:=(ok.funs.mem hb).1
 rw [e] at this; cases this
theorem Inv.bs (I:Inv X pins σ H s):∀ b o,X.base.get? b = some o->s.heap.get? b = some o/\H b = none:=fun b o e =>
 ⟨I.base.keep b o (I.ok.bs b o e).1 (I.ok.bs b o e).2 (I.ok.nofr e) (I.ok.noex b o e),I.base.free b o (I.ok.bs b o e).1 (I.ok.bs b o e).2 (I.ok.noex b o e)⟩
theorem Inv.bk (I:Inv X pins σ H s):∀ b o,X.base.get? b = some o->s.heap.get? b = some o:=fun b o e=>(I.bs b o e).1
theorem Inv.mod (I:Inv X pins σ H s):Mod X.K X.mg X.base:=I.ok.mod
theorem Inv.kIn (I:Inv X pins σ H s):X.K.In s.heap:=I.ok.mod.kin.keeps I.bk
theorem Inv.fr (I:Inv X pins σ H s):∃ m,Fr X.base X.env.locals s.heap m :=
 let ⟨m,hn,_⟩:=I.loc
 ⟨m,hn,I.bk,aK I.ok.bsz I.ok.above⟩
theorem Inv.lt (I:Inv X pins σ H s):X.env.locals < s.heap.objs.size:=let ⟨_,hn,_⟩:=I.loc; hn.lt
theorem Inv.sz (I:Inv X pins σ H s):X.s₀.heap.objs.size <= s.heap.objs.size:=aK I.ok.above (Nat.le_of_lt I.lt)
theorem Inv.nofs (I:Inv X pins σ H s) {a:Addr} (h:s.heap.objs.size <= a):a ∉ X.fs:=fun hb=>by
 obtain ⟨_,o,ho,_⟩:=I.ok.funs.mem hb
 exact absurd (aQ (aH ho) (aK I.sz h)) (Nat.lt_irrefl _)
theorem Inv.cne (I:Inv X pins σ H s):∀ x c,X.env.cells.lookup x = some c->c ≠ X.env.locals:=fun x c e z=>by
 obtain ⟨v,o,ho,hd⟩:=I.cell x c e
 obtain ⟨m,⟨o',es,ep,ho',hd',_⟩,_⟩:=I.loc
 rw [z,ho'] at ho; cases ho; rw [hd'] at hd; cases hd
theorem Inv.funs (I:Inv X pins σ H s):s.heap.FunFrames X.base X.outer:=by
 have all:∀ (l:List Env),(∀ b ∈ frs l,b ∈ X.fs)->X.s₀.heap.FunFrames X.base l->s.heap.FunFrames X.base l:=by
  intro l
  induction l with
  | nil=>intro _ _; trivial
  | cons env r ih =>
   intro hs hl
   obtain ⟨hk,⟨L,o,hf,hn,ho,hd⟩,hr⟩:=hl
   have hL:L ∈ X.fs:=hs L (by unfold frs; rw [List.filterMap_cons,hf]; exact aM)
   obtain ⟨sl,e⟩:=I.base.slot L o ho (I.ok.frf L hL) hL fun z=>I.ok.exfs L z hL
   exact ⟨hk,⟨L,_,hf,hn,e,hd⟩,ih (fun b hb=>hs b (by unfold frs; rw [List.filterMap_cons,hf]; exact aG _ hb)) hr⟩
 exact all X.outer (fun _ hb=>hb) I.ok.funs
theorem Inv.stack (I:Inv X pins σ H s):s.heap.FunFrames X.base X.stack:=by
 rcases I.ok.stk with e | ⟨e,hf⟩
 .rw [e]; exact I.funs
 .rw [e]
  obtain ⟨m,hn,_⟩:=I.loc
  refine .cons (by rw [I.ok.kind]; decide) hf hn ?_ I.funs
  exact Heap.get?_none_of_le (aK I.ok.bsz I.ok.above)
theorem Inv.stkSub (I:Inv X pins σ H s):∀ b ∈ frs X.stack,b ∈ X.env.locals :: X.fs:=fun b hb=>by
 rcases I.ok.stk with e | ⟨e,hf⟩
 .rw [e] at hb; exact aG _ hb
 .rw [e] at hb
  unfold frs at hb
  rw [List.filterMap_cons,hf] at hb
  exact hb
theorem Inv.stkFree (I:Inv X pins σ H s):∀ b ∈ frs X.stack,H b = none:=fun b hb=>by
 rcases List.mem_cons.mp (I.stkSub b hb) with e | hb
 .rw [e]; exact I.free
 .obtain ⟨_,o,ho,_⟩:=I.ok.funs.mem hb
  exact I.base.free b o ho (I.ok.frf b hb) fun z=>I.ok.exfs b z hb
theorem Inv.step {g':Array GenState} {t':Nat} {d':Drawn} {ch:List Addr} (I:Inv X pins σ H s)
  (hch:∀ b ∈ ch,(b ∈ X.ex\/X.s₀.heap.objs.size <= b)/\b ≠ X.env.locals/\(∀ x c,X.env.cells.lookup x = some c->c ≠ b)/\∀ p ∈ X.pn ++ pins,p.1 ≠ b)
  (keep:∀ b o,b ≠ X.env.locals->b ∉ X.fs->b ∉ ch->s.heap.get? b = some o->H b = none->h'.get? b = some o)
  (slot:∀ b o,b ≠ X.env.locals->b ∈ X.fs->b ∉ ch->s.heap.get? b = some o->H b = none->∃ sl,h'.get? b = some { o with slots:=sl }) (free:∀ b o,b ∉ ch->s.heap.get? b = some o->H b = none->H' b = none)
  (there:∀ b o,b ∉ ch->s.heap.get? b = some o->∃ o',h'.get? b = some o')
  (tups:∀ b xs,H b = some (.tup xs)->H' b = some (.tup xs)) (frzs:∀ b o u,H b = some (.frz o u)->H' b = some (.frz o u)) (tbls:∀ b ps,H b = some (.tbl ps)->∃ more,H' b = some (.tbl (ps ++ more)))
  (ns:∀ m,s.heap.Ns X.env.locals m->h'.Ns X.env.locals m) (hok:HOk X.prog X.w H' h') (hg:AllBare g') :
  Inv X pins σ H' { s with heap:=h',gens:=g',drawn:=d',toks:=t' }:=by
 have neL:∀ b o,X.s₀.heap.get? b = some o->b ≠ X.env.locals:=fun b o e=>aP (aQ (aH e) I.ok.above)
 have neC:∀ b o,X.s₀.heap.get? b = some o->b ∉ X.ex->b ∉ ch:=fun b o e hx hb=>by
  rcases (hch b hb).1 with z | z
  .exact hx z
  .exact absurd (aQ (aH e) z) (Nat.lt_irrefl _)
 have cellK:∀ x c,X.env.cells.lookup x = some c->∀ v,s.heap.IsCell c v->h'.IsCell c v:=fun x c e v ⟨o,ho,hd⟩=>by
  have nch:c ∉ ch:=fun z=>(hch c z).2.2.1 x c e rfl
  by_cases hc:c ∈ X.fs
  .obtain ⟨sl,q⟩:=slot c o (I.cne x c e) hc nch ho (I.freeC x c e)
   exact ⟨_,q,hd⟩
  .exact ⟨o,keep c o (I.cne x c e) hc nch ho (I.freeC x c e),hd⟩
 refine ⟨I.ok,I.os,hg,⟨fun b o e n hb hx=>?_,fun b o e n hb hx=>?_,fun b o e n hx=>?_,fun b o e hx=>?_,fun b xs e=>tups b xs (I.base.tups b xs e),fun b o xs e=>frzs b o xs (I.base.frzs b o xs e),fun b ps e=>?_⟩,?_,fun x c e=>?_,?_,fun x c e=>?_,fun p hp=>?_,hok,I.len⟩
 .exact keep b o (neL b o e) hb (neC b o e hx) (I.base.keep b o e n hb hx) (I.base.free b o e n hx)
 .obtain ⟨sl,e1⟩:=I.base.slot b o e n hb hx
  obtain ⟨sl',e2⟩:=slot b _ (neL b o e) hb (neC b o e hx) e1 (I.base.free b o e n hx)
  exact ⟨sl',e2⟩
 .obtain ⟨o',e1⟩:=I.base.there b o e hx
  exact free b o' (neC b o e hx) e1 (I.base.free b o e n hx)
 .obtain ⟨o',e1⟩:=I.base.there b o e hx
  exact there b o' (neC b o e hx) e1
 .obtain ⟨m1,e1⟩:=I.base.tbls b ps e
  obtain ⟨m2,e2⟩:=tbls b _ e1
  exact ⟨m1 ++ m2,by rw [e2,Array.append_assoc]⟩
 .obtain ⟨m,hn,hl⟩:=I.loc
  refine ⟨m,ns m hn,fun i x v e1 e2 e3=>?_⟩
  obtain ⟨u,r,l⟩:=hl i x v e1 e2 e3
  refine ⟨u,r,?_⟩
  rcases l with l | ⟨k,c,e,z⟩
  .exact .inl l
  .exact .inr ⟨k,c,e,cellK x c e _ z⟩
 .obtain ⟨v,z⟩:=I.cell x c e
  exact ⟨v,cellK x c e v z⟩
 .obtain ⟨m,⟨o,_,_,ho,_⟩,_⟩:=I.loc
  exact free _ o (fun z=>(hch _ z).2.1 rfl) ho I.free
 .obtain ⟨v,o,ho,hd⟩:=I.cell x c e
  exact free c o (fun z=>(hch c z).2.2.1 x c e rfl) ho (I.freeC x c e)
 .obtain ⟨e,n,ne,nf,d⟩:=I.pin p hp
  have nch:p.1 ∉ ch:=fun z=>(hch p.1 z).2.2.2 p hp rfl
  exact ⟨keep p.1 p.2 ne nf nch e n,free p.1 p.2 nch e n,ne,nf,d⟩
theorem Inv.un {t':Nat} (I:Inv X pins σ H s) (u:Un X.fs [] H H' s.heap h') (hok:HOk X.prog X.w H' h'):Inv X pins σ H' { s with heap:=h',toks:=t' }:=by
 obtain ⟨m,⟨o,es,ep,ho,r⟩,_⟩:=id I.loc
 obtain ⟨sl,hL⟩:=u.any ho I.free (by simp)
 exact I.step (g':=s.gens) (d':=s.drawn) (ch:=[]) (fun _ z=>nomatch z) (fun b o _ hb _ e n=>u.keep b o e n hb (by simp)) (fun b o _ hb _ e n=>u.slot b o e n hb (by simp)) (fun b o _ e n=>u.free b o e n (by simp)) (fun b o _ e=>u.there b o e (by simp)) u.tups u.frzs u.tbls (fun m' hm=>by
  obtain ⟨o',es',ep',ho',r'⟩:=hm
  rw [ho] at ho'; cases ho'
  exact ⟨_,es',ep',hL,r'⟩) hok I.bare
theorem Inv.call {g':Array GenState} {t':Nat} {d':Drawn} {ch:List Addr} (I:Inv X pins σ H s) (u:Un (frs X.stack) ch H H' s.heap h') (hok:HOk X.prog X.w H' h') (hg:AllBare g')
  (hch:∀ b ∈ ch,(b ∈ X.ex\/X.s₀.heap.objs.size <= b)/\b ≠ X.env.locals/\(∀ x c,X.env.cells.lookup x = some c->c ≠ b)/\∀ p ∈ X.pn ++ pins,p.1 ≠ b) :
  Inv X pins σ H' { s with heap:=h',gens:=g',drawn:=d',toks:=t' }:=by
 obtain ⟨m,⟨o,es,ep,ho,r⟩,_⟩:=id I.loc
 obtain ⟨sl,hL⟩:=u.any ho I.free fun z=>(hch _ z).2.1 rfl
 exact I.step (ch:=ch) hch (fun b o hL hb hc e n=>u.keep b o e n (fun z=>(List.mem_cons.mp (I.stkSub b z)).elim hL hb) hc) (fun b o _ _ hc e n=>u.any e n hc) (fun b o hc e n=>u.free b o e n hc) (fun b o hc e=>u.there b o e hc) u.tups u.frzs u.tbls (fun m' hm=>by
  obtain ⟨o',es',ep',ho',r'⟩:=hm
  rw [ho] at ho'; cases ho'
  exact ⟨_,es',ep',hL,r'⟩) hok hg
theorem Inv.turned {t':Nat} {it:Addr} (I:Inv X pins σ H s) (k:∀ b o,b ≠ it->s.heap.get? b = some o->h'.get? b = some o) (hn:H it = none) (hL:it ≠ X.env.locals)
  (h1:it ∈ X.ex\/X.s₀.heap.objs.size <= it) (h2:∀ x c,X.env.cells.lookup x = some c->c ≠ it) (h3:∀ p ∈ X.pn ++ pins,p.1 ≠ it):Inv X pins σ H { s with heap:=h',toks:=t' }:=by
 have nit:∀ b u,H b = some u->b ≠ it:=fun b u e z=>by rw [z,hn] at e; cases e
 refine I.step (g':=s.gens) (d':=s.drawn) (ch:=[it]) (fun b hb=>?_) (fun b o _ _ hc e _=>k b o (fun z=>hc (by simp [z])) e) (fun b o _ _ hc e _=>⟨o.slots,k b o (fun z=>hc (by simp [z])) e⟩) (fun _ _ _ _ n=>n)
  (fun b o hc e=>⟨o,k b o (fun z=>hc (by simp [z])) e⟩) (fun _ _ e=>e) (fun _ _ _ e=>e) (fun b ps e=>⟨#[],by rw [e]; simp⟩) (fun m hm=>?_) (fun b u e=>?_) I.bare
 .have e:b = it:=by simpa using hb
  subst e
  exact ⟨h1,hL,h2,h3⟩
 .obtain ⟨o,es,ep,ho,r⟩:=hm
  exact ⟨o,es,ep,k _ o (Ne.symm hL) ho,r⟩
 .refine (I.hok b u e).stay (fun c v hc q=>k c v ?_ q) (fun _ q=>q) fun _ _ q=>q
  rcases hc with z | z
  .rw [z]; exact nit b u e
  .exact nit c _ z
theorem Inv.tok (I:Inv X pins σ H s) (t:Nat):Inv X pins σ H { s with toks:=t }:=I.un (h':=s.heap) (t':=t) Un.refl I.hok
theorem Inv.kept {t':Nat} (I:Inv X pins σ H s) (k:∀ b u,s.heap.get? b = some u->h'.get? b = some u):Inv X pins σ H { s with heap:=h',toks:=t' }:=I.un (Un.kept k) (I.hok.kept k)
theorem Inv.laid {a:Addr} {o:HO} {t':Nat} (I:Inv X pins σ H s) (k:∀ b u,s.heap.get? b = some u->h'.get? b = some u) (hp:s.heap.objs.size <= a) (new:cZ X.prog X.w (upd H a o) h' a o) :
  Inv X pins σ (upd H a o) { s with heap:=h',toks:=t' }:=I.un (Un.laid k hp (I.hok.fresh hp)) (I.hok.laid k hp new)
theorem Inv.write {x e:Addr} {o:HO} {t':Nat} (I:Inv X pins σ H s) (mu:Mut (H x)) (he:e = x\/H e = some (.own x)) (k:∀ b u,b ≠ e->s.heap.get? b = some u->h'.get? b = some u) (heo:∃ u,h'.get? e = some u)
  (new:cZ X.prog X.w (upd H x o) h' x o):Inv X pins σ (upd H x o) { s with heap:=h',toks:=t' }:=I.un (Un.write mu he k heo) (I.hok.write mu he k heo new)
theorem Inv.pins_of {pins':List (Addr × Obj)} (I:Inv X pins σ H s) (h:∀ p ∈ pins',s.heap.get? p.1 = some p.2/\H p.1 = none/\p.1 ≠ X.env.locals/\p.1 ∉ X.fs/\∀ v,p.2.data ≠ .cell v):Inv X pins' σ H s :=
 ⟨I.ok,I.os,I.bare,I.base,I.loc,I.cell,I.free,I.freeC,fun p hp=>(List.mem_append.mp hp).elim (fun z=>I.pin p (List.mem_append_left _ z)) (h p),I.hok,I.len⟩
theorem oE {N:List Str} (hN:N.Nodup) {i j:Nat} {x:Str} (a:N[i]? = some x) (b:N[j]? = some x):i = j:=by
 obtain ⟨h1,e1⟩:=ao.mp a
 obtain ⟨h2,e2⟩:=ao.mp b
 exact (List.getElem_inj hN).mp (e1.trans e2.symm)
theorem Pr {M:Model} {A:Around} {E:Value->Shared->Prop} {i:Nat} {x:Str} {v:V} {u:Value} {Q:Unit->Shared->Prop} (I:Inv X pins σ H s) (hN:X.N.Nodup) (hi:X.N[i]? = some x) (hx:Loc X.env.scope x) (r:RelV v u)
  (h:∀ s',Inv X pins (σ.set i (some v)) H s'->(∃ a,Heap.SameBut a s.heap s'.heap/\(a = X.env.locals\/X.env.cells.lookup x = some a))->Q () s') (hf:X.fn x = true\/X.env.scope.names.lookup x = some .local):wpAny M A (storeName X.env x u) Q E s:=by
 obtain ⟨m,hn,hl⟩:=id I.loc
 have hcls:(X.env.scope.kind == .class || (X.env.scope.kind == .module && X.env.locals != X.env.globals)) = false:=by rw [I.ok.kind]; rfl
 have hiσ:i < σ.length:=by rw [I.len]; exact (ao.mp hi).1
 have cne:=I.cne
 have tracked:∀ {a:Addr} {h':Heap},(∃ o,s.heap.get? a = some o/\H a = none)->Heap.SameBut a s.heap h'->HOk X.prog X.w H h':=fun {a h'} ha hs b ob e=>by
  obtain ⟨_,_,hfree⟩:=ha
  refine (I.hok b ob e).stay (fun c w' hc q=>(hs.2 c ?_).trans q) (fun _ q=>q) fun _ _ q=>q
  rintro rfl
  rcases hc with rfl | hc
  .rw [hfree] at e; cases e
  .rw [hfree] at hc; cases hc
 rcases hx with hk | hk
 .refine wpAny_storeName_local hk hn (fun h' hn' hs=>?_) hcls
  obtain ⟨oL,_,_,hoL,_⟩:=id hn
  refine h _ ⟨I.ok,I.os,I.bare,⟨fun b o e n hb hx=>?_,fun b o e n hb hx=>?_,I.base.free,fun b o e hx=>?_,I.base.tups,I.base.frzs,I.base.tbls⟩,⟨_,hn',fun j y v' e1 e2 e3=>?_⟩,fun y c e=>?_,I.free,I.freeC,fun p hp=>?_,tracked ⟨oL,hoL,I.free⟩ hs,by simpa using I.len⟩ ⟨_,hs,.inl rfl⟩
  .exact (hs.2 b (aP (aQ (aH e) I.ok.above))).trans (I.base.keep b o e n hb hx)
  .obtain ⟨sl,e1⟩:=I.base.slot b o e n hb hx
   exact ⟨sl,(hs.2 b (aP (aQ (aH e) I.ok.above))).trans e1⟩
  .obtain ⟨o',e1⟩:=I.base.there b o e hx
   exact ⟨o',(hs.2 b (aP (aQ (aH e) I.ok.above))).trans e1⟩
  .by_cases hj:j = i
   .subst hj
    rw [hi] at e1; cases e1
    rw [List.getElem?_set_self hiσ] at e2
    cases e2
    exact ⟨u,r,.inl ⟨hk,by simp⟩⟩
   .rw [List.getElem?_set_ne (Ne.symm hj)] at e2
    obtain ⟨u',r',q⟩:=hl j y v' e1 e2 e3
    refine ⟨u',r',?_⟩
    rcases q with ⟨k,e⟩ | ⟨k,c,e,z⟩
    .refine .inl ⟨k,?_⟩
     have:y ≠ x:=fun e=>hj (oE hN e1 (e ▸ hi))
     simp [this,e]
    .exact .inr ⟨k,c,e,z.sameBut hs (cne y c e)⟩
  .obtain ⟨w',z⟩:=I.cell y c e
   exact ⟨w',z.sameBut hs (cne y c e)⟩
  .obtain ⟨e,n,ne,nf,d⟩:=I.pin p hp
   exact ⟨(hs.2 p.1 ne).trans e,n,ne,nf,d⟩
 .have hfn:X.fn x = true:=by
   rcases hf with z | z
   .exact z
   .rw [z] at hk; cases hk
  obtain ⟨c,hc⟩:=I.ok.has x (.inl hk)
  obtain ⟨w',z⟩:=I.cell x c hc
  refine wpAny_storeName_cell I.ok.kind hk hc z (fun h' hc' hs=>?_)
  obtain ⟨oc,hoc,hocd⟩:=id z
  refine h { s with heap:=h' } ⟨I.ok,I.os,I.bare,⟨fun b o e n hb hx=>?_,fun b o e n hb hx=>?_,I.base.free,fun b o e hx=>?_,I.base.tups,I.base.frzs,I.base.tbls⟩,⟨m,hn.sameBut hs (Ne.symm (cne x c hc)),fun j y v' e1 e2 e3=>?_⟩,fun y c' e=>?_,I.free,I.freeC,fun p hp=>?_,tracked ⟨oc,hoc,I.freeC x c hc⟩ hs,by simpa using I.len⟩ ⟨c,hs,.inr hc⟩
  .exact (hs.2 b (aP (aQ (aH e) (I.ok.cab x c hfn hc)))).trans (I.base.keep b o e n hb hx)
  .obtain ⟨sl,e1⟩:=I.base.slot b o e n hb hx
   exact ⟨sl,(hs.2 b (aP (aQ (aH e) (I.ok.cab x c hfn hc)))).trans e1⟩
  .obtain ⟨o',e1⟩:=I.base.there b o e hx
   exact ⟨o',(hs.2 b (aP (aQ (aH e) (I.ok.cab x c hfn hc)))).trans e1⟩
  .by_cases hj:j = i
   .subst hj
    rw [hi] at e1; cases e1
    rw [List.getElem?_set_self hiσ] at e2
    cases e2
    exact ⟨u,r,.inr ⟨.inl hk,c,hc,hc'⟩⟩
   .rw [List.getElem?_set_ne (Ne.symm hj)] at e2
    obtain ⟨u',r',q⟩:=hl j y v' e1 e2 e3
    refine ⟨u',r',?_⟩
    rcases q with q | ⟨k,c',e,z'⟩
    .exact .inl q
    .refine .inr ⟨k,c',e,z'.sameBut hs ?_⟩
     rintro rfl
     exact hj (oE hN e1 (I.ok.inj _ _ _ e hc ▸ hi))
  .by_cases hcc:c' = c
   .subst hcc; exact ⟨_,hc'⟩
   .obtain ⟨w2,z2⟩:=I.cell y c' e
    exact ⟨w2,z2.sameBut hs hcc⟩
  .obtain ⟨e,n,ne,nf,d⟩:=I.pin p hp
   refine ⟨(hs.2 p.1 ?_).trans e,n,ne,nf,d⟩
   intro q
   rw [q,hoc] at e
   have q':oc = p.2:=Option.some.inj e
   exact d w' (by rw [<- q']; exact hocd)
theorem qF {M:Model} {A:Around} {E:Value->Shared->Prop} {i:Nat} {x:Str} {v:V} {u:Value} {Q:Unit->Shared->Prop} (I:Inv X pins σ H s) (hN:X.N.Nodup) (hi:X.N[i]? = some x) (hx:Loc X.env.scope x) (r:RelV v u)
  (h:∀ s',Inv X pins (σ.set i (some v)) H s'->Q () s') (hf:X.fn x = true\/X.env.scope.names.lookup x = some .local:=by first | exact .inl rfl | exact .inr rfl | assumption):wpAny M A (storeName X.env x u) Q E s :=
 Pr I hN hi hx r (fun s' I' _=>h s' I') hf
theorem Inv.call' {s':Shared} {ch:List Addr} (I:Inv X pins σ H s) (ho:s'.os = s.os) (u:Un (frs X.stack) ch H H' s.heap s'.heap) (hok:HOk X.prog X.w H' s'.heap) (hg:AllBare s'.gens)
  (hch:∀ b ∈ ch,(b ∈ X.ex\/X.s₀.heap.objs.size <= b)/\b ≠ X.env.locals/\(∀ x c,X.env.cells.lookup x = some c->c ≠ b)/\∀ p ∈ X.pn ++ pins,p.1 ≠ b):Inv X pins σ H' s':=by
 obtain ⟨h',g',d',t',o'⟩:=s'
 have e:o' = s.os:=ho
 subst e
 exact I.call (g':=g') (t':=t') (d':=d') u hok hg hch
end
noncomputable abbrev XK:=Value->Option Addr->Hp->Prop
noncomputable abbrev St:=List (Option V)
noncomputable abbrev VK:=V->Hp->Prop
noncomputable abbrev TE:=St->Hp->VK->Prop
noncomputable abbrev TT:=St->Hp->(Bool->Hp->Prop)->Prop
noncomputable abbrev TA:=St->Hp->(List V->Hp->Prop)->Prop
structure Ends where
 nx:St->Hp->Prop
 rt:VK
 bk:St->Hp->Prop:=fun _ _=>False
 ct:St->Hp->Prop:=fun _ _=>False
noncomputable abbrev TS:=Ends->St->Hp->Prop
noncomputable def EP (X:Cx) (pins:List (Addr × Obj)) (σ:St) (Q:VK) (u:Value) (s':Shared):Prop:=∃ v H',Inv X pins σ H' s'/\RelV v u/\Q v H'
noncomputable def TP (X:Cx) (pins:List (Addr × Obj)) (σ:St) (Q:Bool->Hp->Prop) (b:Bool) (s':Shared):Prop:=∃ H',Inv X pins σ H' s'/\Q b H'
noncomputable def AP (X:Cx) (pins:List (Addr × Obj)) (σ:St) (Q:List V->Hp->Prop) (us:List Value) (s':Shared):Prop:=∃ vs H',Inv X pins σ H' s'/\Vals vs us/\Q vs H'
noncomputable def SP (X:Cx) (pins:List (Addr × Obj)) (D:Ends) (f:Flow) (s':Shared):Prop :=
 match f with
 | .next=>∃ σ' H',Inv X pins σ' H' s'/\D.nx σ' H'
 | .brk=>∃ σ' H',Inv X pins σ' H' s'/\D.bk σ' H'
 | .cont=>∃ σ' H',Inv X pins σ' H' s'/\D.ct σ' H'
 | .ret u=>∃ v σ' H',Inv X pins σ' H' s'/\RelV v u/\D.rt v H'
noncomputable def PE (X:Cx) (e:Expr) (t:TE):Prop :=
 ∀ (pins:List (Addr × Obj)) (s:Shared) (σ:St) (H:Hp) (Q:VK),Inv X pins σ H s->t σ H Q->wpAny (model X.prog X.w) X.A (eval e X.env) (EP X pins σ Q) X.xe s
noncomputable def PT (X:Cx) (e:Expr) (t:TT):Prop :=
 ∀ (pins:List (Addr × Obj)) (s:Shared) (σ:St) (H:Hp) (Q:Bool->Hp->Prop),Inv X pins σ H s->t σ H Q->wpAny (model X.prog X.w) X.A (isTrue e X.env (eval e X.env)) (TP X pins σ Q) X.xe s
noncomputable def PW (X:Cx) (e:Expr) (t:TT):Prop :=
 ∀ (whole:Sem Value) (pins:List (Addr × Obj)) (s:Shared) (σ:St) (H:Hp) (Q:Bool->Hp->Prop),Inv X pins σ H s->t σ H Q->wpAny (model X.prog X.w) X.A (isTrue e X.env whole) (TP X pins σ Q) X.xe s
theorem PW.pt {X:Cx} {e:Expr} {t:TT} (h:PW X e t):PT X e t:=h _
noncomputable def PA (X:Cx) (es:List Expr) (t:TA):Prop :=
 ∀ (pos:Pos) (pins:List (Addr × Obj)) (s:Shared) (σ:St) (H:Hp) (Q:List V->Hp->Prop),Inv X pins σ H s->t σ H Q->wpAny (model X.prog X.w) X.A (spliced (backTo pos (starEach es X.env))) (AP X pins σ Q) X.xe s
noncomputable def PS (X:Cx) (st:Stmt) (t:TS):Prop :=
 ∀ (pins:List (Addr × Obj)) (s:Shared) (σ:St) (H:Hp) (D:Ends),Inv X pins σ H s->t D σ H->wpAny (model X.prog X.w) X.A (exec st X.env) (SP X pins D) X.xe s
noncomputable def PSs (X:Cx) (st:List Stmt) (t:TS):Prop :=
 ∀ (pins:List (Addr × Obj)) (s:Shared) (σ:St) (H:Hp) (D:Ends),Inv X pins σ H s->t D σ H->wpAny (model X.prog X.w) X.A (execs st X.env) (SP X pins D) X.xe s
theorem thn {α:Type} {t:Sem α} {Q Q':α->Shared->Prop} {M:Model} {A:Around} {E:Value->Shared->Prop} {s:Shared} (h:wpAny M A t Q E s) (hQ:∀ a s,Q a s->Q' a s):wpAny M A t Q' E s:=wpAny_mono h hQ fun _ _ x=>x
end L2
namespace L2
open PySem PySem.Spec PyProof.Rows
section
variable {X:Cx}
noncomputable def Aa (i:Nat):TE:=fun σ H Q=>∃ v,σ[i]? = some (some v)/\Q v H
noncomputable def tC (v:V):TE:=fun _ H Q=>Q v H
theorem Zk {i:Nat} {x:Str} {pos:Pos} (hN:X.N[i]? = some x) (hv:Vis X.env.scope x) (hd:(x == ("__debug__" : Str)) = false:=by decide) (hcd:(x == ("__classdict__" : Str)) = false:=by decide):PE X (.Name x pos) (Aa i):=by
 intro pins s σ H Q I h
 obtain ⟨v,e,h⟩:=h
 obtain ⟨m,hn,hl⟩:=I.loc
 obtain ⟨u,r,l⟩:=hl i x v hN e hv
 have fin:EP X pins σ Q u s:=⟨v,H,I,r,h⟩
 rcases l with ⟨hk,hm⟩ | ⟨hk,c,hc,hcell⟩
 .exact wpAny_Name (wpAny_loadName_local I.ok.kind hk hn hm fin) hd
 .rcases hk with hk | hk
  .exact wpAny_Name (wpAny_loadName_cell I.ok.kind hk hc hcell fin) hd
  .exact wpAny_Name (wpAny_loadName_free I.ok.kind hk hc hcell fin hcd) hd
theorem bC {i j pos} : PE X (.Constant (.int i) j pos) (tC (.int i)):=fun _ _ _ H _ I h=>wpAny_Constant_int ⟨.int i,H,I.tok _,⟨_,rfl⟩,h⟩
theorem lG {b j pos} : PE X (.Constant (.bool b) j pos) (tC (.bl b)):=fun _ _ _ H _ I h=>Constant_bool ⟨.bl b,H,I,rfl,h⟩
theorem Z5 {j pos} : PE X (.Constant .none j pos) (tC .non):=fun _ _ _ H _ I h=>Constant_none ⟨.non,H,I,rfl,h⟩
theorem mC {x j pos} : PE X (.Constant (.str x) j pos) (tC (.str x)):=fun _ _ _ H _ I h=>Calls.Constant_str ⟨.str x,H,I.tok _,⟨_,rfl⟩,h⟩
noncomputable def Gl (X:Cx) (x:Str):Prop:=X.env.kindOf x = some .globalImplicit
theorem lU {E:Value->Shared->Prop} {pins:List (Addr × Obj)} {s:Shared} {σ:St} {H:Hp} {x:Str} {u:Value} {pos:Pos} {Q:Value->Shared->Prop} (I:Inv X pins σ H s) (hg:Gl X x) (hm:X.mg x = some u) (h:Q u s)
  (hd:(x == ("__debug__" : Str)) = false:=by decide):wpAny (model X.prog X.w) X.A (eval (.Name x pos) X.env) Q E s :=
 Calls.Name_function_global I.ok.kind hg (Calls.loadGlobal_global (by rw [I.ok.glob]; exact I.mod.glob.keeps I.bk) hm h) hd
theorem yX {E:Value->Shared->Prop} {pins:List (Addr × Obj)} {s:Shared} {σ:St} {H:Hp} {x:Str} {u:Value} {pos:Pos} {Q:Value->Shared->Prop} (I:Inv X pins σ H s) (hg:Gl X x) (hm:X.mg x = none) (hv:bootBuiltins x = some u) (h:Q u s)
  (hn:x ≠ "__name__" := by decide) (hd:(x == ("__debug__" : Str)) = false:=by decide):wpAny (model X.prog X.w) X.A (eval (.Name x pos) X.env) Q E s:=by
 obtain ⟨mb,h1,h2⟩:=I.mod.blt
 exact Calls.Name_function_global I.ok.kind hg (Calls.loadGlobal_builtin (by rw [I.ok.glob]; exact I.mod.glob.keeps I.bk) hm (by rw [I.ok.blt]; exact h1.keeps I.bk) ((h2 x hn).trans hv) h) hd
theorem GK {x:Str} {v:V} {u:Value} {pos:Pos} (hg:Gl X x) (hm:X.mg x = some u) (r:RelV v u) (hd:(x == ("__debug__" : Str)) = false:=by decide):PE X (.Name x pos) (tC v) :=
 fun _ _ _ H _ I h=>lU I hg hm ⟨v,H,I,r,h⟩ hd
theorem jM {x:Str} {v:V} {u:Value} {pos:Pos} (hg:Gl X x) (hm:X.mg x = none) (hv:bootBuiltins x = some u) (r:RelV v u) (hn:x ≠ "__name__" := by decide) (hd:(x == ("__debug__" : Str)) = false:=by decide):PE X (.Name x pos) (tC v) :=
 fun _ _ _ H _ I h=>yX I hg hm hv ⟨v,H,I,r,h⟩ hn hd
variable {a b:Expr} {ta tb:TE} {pos:Pos}
noncomputable def PC (X:Cx) (op:CmpOp) (a b:Expr) (t:TE):Prop :=
 ∀ (pins:List (Addr × Obj)) (s:Shared) (σ:St) (H:Hp) (Q:VK),Inv X pins σ H s->t σ H Q ->
  wpAny (model X.prog X.w) X.A (eval a X.env) (fun v s₁=>wpAny (model X.prog X.w) X.A (eval b X.env) (fun u s₂=>wpAny (model X.prog X.w) X.A (compareOp op v u) (EP X pins σ Q) X.xe s₂) X.xe s₁) X.xe s
noncomputable def tB (t:TE):TT:=fun σ H Q=>t σ H fun x H1=>∃ c,x = .bl c/\Q c H1
theorem Lp {op:CmpOp} {t:TE} (h:PC X op a b t) (h1:behindInMarks op b = false:=by rfl):PT X (.Compare a [op] [b] pos) (tB t):=by
 intro pins s σ H Q I hw
 refine wpAny_isTrue_Compare1 (thn (h pins s σ H _ I hw) fun v s1 h1=>thn h1 fun u s2 h2=>thn h2 fun c s3 ⟨x,H1,I1,r1,q1⟩=>?_) h1
 obtain ⟨d,rfl,q⟩:=q1
 cases r1
 exact wpAny_truthy_bool ⟨H1,I1,q⟩
variable {tA tB':TT} {rest:List Expr}
noncomputable def Us (t u:TT):TT:=fun σ H Q=>t σ H fun c H1=>if c = true then u σ H1 Q else Q false H1
noncomputable def tOr (t u:TT):TT:=fun σ H Q=>t σ H fun c H1=>if c = true then Q true H1 else u σ H1 Q
noncomputable def Wj (t:TT):TT:=fun σ H Q=>t σ H fun c H1=>Q (!c) H1
theorem pw_and1 (ha:PT X a tA):PW X (.BoolOp .And [a] pos) tA:=by
 intro wh pins s σ H Q I h
 refine isTrue_and (thn (ha pins s σ H Q I h) fun c s1 e=>?_)
 cases c with
 | true=>exact isTrue_and_nil e
 | false=>exact e
theorem pw_or1 (ha:PT X a tA):PW X (.BoolOp .Or [a] pos) tA:=by
 intro wh pins s σ H Q I h
 refine isTrue_or (thn (ha pins s σ H Q I h) fun c s1 e=>?_)
 cases c with
 | false=>exact isTrue_or_nil e
 | true=>exact e
theorem pw_and (ha:PT X a tA) (hb:PW X (.BoolOp .And (b :: rest) pos) tB'):PW X (.BoolOp .And (a :: b :: rest) pos) (Us tA tB'):=by
 intro wh pins s σ H Q I h
 refine isTrue_and (thn (ha pins s σ H _ I h) fun c s1 ⟨H1,I1,q1⟩=>?_)
 cases c with
 | true=>exact hb wh pins s1 σ H1 Q I1 q1
 | false=>exact ⟨H1,I1,q1⟩
theorem pw_or (ha:PT X a tA) (hb:PW X (.BoolOp .Or (b :: rest) pos) tB'):PW X (.BoolOp .Or (a :: b :: rest) pos) (tOr tA tB'):=by
 intro wh pins s σ H Q I h
 refine isTrue_or (thn (ha pins s σ H _ I h) fun c s1 ⟨H1,I1,q1⟩=>?_)
 cases c with
 | true=>exact ⟨H1,I1,q1⟩
 | false=>exact hb wh pins s1 σ H1 Q I1 q1
theorem dM (ha:PT X a tA):PT X (.UnaryOp .Not a pos) (Wj tA):=by
 intro pins s σ H Q I h
 exact isTrue_not (ha pins s σ H (fun c H1=>Q (!c) H1) I h)
noncomputable def Mj (ta tb:TE):TE:=fun σ H Q=>ta σ H fun x H1=>∃ c,x = .bl c/\if c = true then tb σ H1 Q else Q (.bl false) H1
noncomputable def ZF (ta tb:TE):TE:=fun σ H Q=>ta σ H fun x H1=>∃ c,x = .bl c/\if c = true then Q (.bl true) H1 else tb σ H1 Q
noncomputable def MN (ta:TE):TE:=fun σ H Q=>ta σ H fun x H1=>∃ c,x = .bl c/\Q (.bl (!c)) H1
theorem Ak {op} {t:TE} (h:PE X a t):PE X (.BoolOp op [a] pos) t:=fun pins s σ H Q I hw=>BoolOp_one (h pins s σ H Q I hw)
theorem yS (ha:PE X a ta) (hb:PE X (.BoolOp .And (b :: rest) pos) tb):PE X (.BoolOp .And (a :: b :: rest) pos) (Mj ta tb):=by
 intro pins s σ H Q I h
 refine BoolOp_and (thn (ha pins s σ H _ I h) fun v s1 ⟨x,H1,I1,r1,q1⟩=>?_)
 obtain ⟨c,rfl,q1⟩:=q1
 cases r1
 refine wpAny_truthy_bool ?_
 cases c with
 | true=>exact hb pins s1 σ H1 Q I1 q1
 | false=>exact ⟨.bl false,H1,I1,rfl,q1⟩
theorem YS (ha:PE X a ta):PE X (.UnaryOp .Not a pos) (MN ta):=by
 intro pins s σ H Q I h
 refine UnaryOp_ (thn (ha pins s σ H _ I h) fun v s1 ⟨x,H1,I1,r1,q1⟩=>?_)
 obtain ⟨c,rfl,q1⟩:=q1
 cases r1
 exact not_of (wpAny_truthy_bool ⟨.bl (!c),H1,I1,rfl,q1⟩)
end
end L2
namespace L2
open PySem PySem.Spec PyProof.Rows
noncomputable def SqL (K:Frag) (H:Hp) (a:Addr) (xs:List V):Prop :=
 Rd H a (.lst xs) \/
  ∃ (o:Obj) (its:Array Value) (n:Nat),K.lookup a = some o/\o.cls = .type "list" /\ o.dict = none/\o.data = .seq its n/\its.size <= sizeLine/\Vals xs its.toList
noncomputable def SqT (K:Frag) (H:Hp) (a:Addr) (xs:List V):Prop :=
 Rd H a (.tup xs) \/
  ∃ (o:Obj) (its:Array Value) (n:Nat),K.lookup a = some o/\o.cls = .type "tuple" /\ o.data = .seq its n/\its.size <= sizeLine/\Vals xs its.toList
noncomputable def adV:Value->Option V
 | .none=>some .non
 | .bool b=>some (.bl b)
 | .int i _=>some (.int i)
 | .str x _=>some (.str x)
 | .bytes b _=>some (.byt b)
 | .float b _=>some (.flt b)
 | .ref a=>some (.ref a)
 | .type n=>some (.ty n)
 | _=>none
theorem RelV.abs {x:V} {u:Value} (r:RelV x u):adV u = some x:=by
 cases x with
 | non=>cases r; rfl
 | bl _=>cases r; rfl
 | int _=>obtain ⟨t,rfl⟩:=r; rfl
 | str _=>obtain ⟨t,rfl⟩:=r; rfl
 | byt _=>obtain ⟨t,rfl⟩:=r; rfl
 | flt _=>obtain ⟨t,rfl⟩:=r; rfl
 | ref _=>cases r; rfl
 | ty _=>cases r; rfl
theorem RelV.inj {x y:V} {u:Value} (r:RelV x u) (q:RelV y u):x = y:=Option.some.inj (r.abs.symm.trans q.abs)
theorem Vals.inj:∀ {xs ys:List V} {us:List Value},Vals xs us->Vals ys us->xs = ys
 | _,_,_,.nil,.nil=>rfl
 | _,_,_,.cons r t,.cons r' t'=>by rw [r.inj r',Vals.inj t t']
section
variable {X:Cx} {pins:List (Addr × Obj)} {σ:St} {H:Hp} {s:Shared} {a:Addr} {xs ys:List V}
theorem SqL.of {K:Frag} (h:H a = some (.lst xs)):SqL K H a xs:=.inl (.inl h)
theorem SqT.of {K:Frag} (h:H a = some (.tup xs)):SqT K H a xs:=.inl (.inl h)
theorem Inv.list (I:Inv X pins σ H s) (h:SqL X.K H a xs):∃ its:List Value,Vals xs its/\PlainL s.heap a its.toArray/\xs.length <= sizeLine:=by
 rcases h with h | ⟨o,its,n,hk,hc,hd,hs,hz,r⟩
 .obtain ⟨z,its,n,r,e⟩:=h.ok I.hok
  exact ⟨its,r,⟨_,n,e,rfl,rfl,rfl⟩,z⟩
 .refine ⟨its.toList,r,⟨o,n,I.kIn a o hk,hc,hd,by simpa using hs⟩,?_⟩
  have e:=r.length
  simp only [Array.length_toList] at e
  omega
theorem Inv.tuple (I:Inv X pins σ H s) (h:SqT X.K H a xs):∃ its:List Value,Vals xs its/\IsTup s.heap a its.toArray/\xs.length <= sizeLine:=by
 rcases h with h | ⟨o,its,n,hk,hc,hs,hz,r⟩
 .obtain ⟨z,its,r,p⟩:=h.ok I.hok
  exact ⟨its,r,p,z⟩
 .refine ⟨its.toList,r,⟨o,I.kIn a o hk,hc,n,by simpa using hs⟩,?_⟩
  have e:=r.length
  simp only [Array.length_toList] at e
  omega
theorem Inv.list_inj (I:Inv X pins σ H s) (h:SqL X.K H a xs) (h':SqL X.K H a ys):xs = ys:=by
 obtain ⟨its,r,⟨o,n,e,_,_,d⟩,_⟩:=I.list h
 obtain ⟨its',r',⟨o',n',e',_,_,d'⟩,_⟩:=I.list h'
 rw [e] at e'; cases e'
 rw [d] at d'
 injection d' with d1 _
 have:its = its':=by simpa using congrArg Array.toList d1
 subst this
 exact r.inj r'
theorem Inv.tuple_inj (I:Inv X pins σ H s) (h:SqT X.K H a xs) (h':SqT X.K H a ys):xs = ys:=by
 obtain ⟨its,r,⟨o,e,_,n,d⟩,_⟩:=I.tuple h
 obtain ⟨its',r',⟨o',e',_,n',d'⟩,_⟩:=I.tuple h'
 rw [e] at e'; cases e'
 rw [d] at d'
 injection d' with d1 _
 have:its = its':=by simpa using congrArg Array.toList d1
 subst this
 exact r.inj r'
end
noncomputable abbrev Cx.wish (X:Cx) (E:Value->Shared->Prop):Cx:={ X with xe:=E }
noncomputable abbrev Cx.nox (X:Cx):Cx:=X.wish fun _ _=>False
theorem Cx.Ok.wish {X:Cx} (ok:X.Ok) (E:Value->Shared->Prop):(X.wish E).Ok :=
 ⟨ok.mod,ok.kind,ok.glob,ok.blt,ok.above,ok.inj,ok.has,ok.cab,ok.hd,ok.frames,ok.stk,ok.exf,ok.bs,ok.bsz,ok.noex,ok.exfs,ok.funs,ok.frf⟩
theorem Cx.Ok.unwish {X:Cx} {E:Value->Shared->Prop} (ok:(X.wish E).Ok):X.Ok :=
 ⟨ok.mod,ok.kind,ok.glob,ok.blt,ok.above,ok.inj,ok.has,ok.cab,ok.hd,ok.frames,ok.stk,ok.exf,ok.bs,ok.bsz,ok.noex,ok.exfs,ok.funs,ok.frf⟩
section
variable {X:Cx} {pins:List (Addr × Obj)} {σ:St} {H:Hp} {s:Shared} {E:Value->Shared->Prop}
theorem Inv.wish (I:Inv X pins σ H s) (E:Value->Shared->Prop):Inv (X.wish E) pins σ H s:=⟨I.ok.wish E,I.os,I.bare,I.base,I.loc,I.cell,I.free,I.freeC,I.pin,I.hok,I.len⟩
theorem Inv.unwish (I:Inv (X.wish E) pins σ H s):Inv X pins σ H s:=⟨I.ok.unwish,I.os,I.bare,I.base,I.loc,I.cell,I.free,I.freeC,I.pin,I.hok,I.len⟩
theorem SP.unwish {D:Ends} {f:Flow} {s':Shared} (h:SP (X.wish E) pins D f s'):SP X pins D f s':=by
 cases f with
 | next=>obtain ⟨σ',H',I,q⟩:=h; exact ⟨σ',H',I.unwish,q⟩
 | brk=>obtain ⟨σ',H',I,q⟩:=h; exact ⟨σ',H',I.unwish,q⟩
 | cont=>obtain ⟨σ',H',I,q⟩:=h; exact ⟨σ',H',I.unwish,q⟩
 | ret u=>obtain ⟨v,σ',H',I,r,q⟩:=h; exact ⟨v,σ',H',I.unwish,r,q⟩
theorem PSs.nox {st:List Stmt} {t:TS} (h:PSs X.nox st t):PSs X st t:=fun pins s σ H D I hw =>
 wpAny_mono (h pins s σ H D (I.wish _) hw) (fun _ _ q=>q.unwish) fun _ _ z=>False.elim z
end
section
variable {X:Cx} {st:Stmt} {rest:List Stmt} {t u:TS} {e:Expr} {te:TE} {pos:Pos}
noncomputable def zV:TS:=fun D σ H=>D.nx σ H
noncomputable def pR (t u:TS):TS:=fun D σ H=>t { D with nx:=u D } σ H
theorem cB:PSs X [] zV:=fun _ _ σ H _ I h=>wpAny_execs_nil ⟨σ,H,I,h⟩
theorem bG (h1:PS X st t) (h2:PSs X rest u):PSs X (st :: rest) (pR t u):=by
 intro pins s σ H D I h
 refine wpAny_execs_cons (thn (h1 pins s σ H { D with nx:=u D } I h) fun f s1 q=>?_)
 cases f with
 | next =>
  obtain ⟨σ',H',I',q⟩:=q
  exact h2 pins s1 σ' H' D I' q
 | ret v=>exact q
 | brk=>exact q
 | cont=>exact q
theorem bI (h1:PS X st t):PSs X [st] t:=by
 intro pins s σ H D I h
 refine wpAny_execs_cons (thn (h1 pins s σ H D I h) fun f s1 q=>?_)
 cases f with
 | next=>exact wpAny_execs_nil q
 | ret v=>exact q
 | brk=>exact q
 | cont=>exact q
theorem Inv.quiet {pins:List (Addr × Obj)} {σ:St} {H:Hp} {s:Shared} (I:Inv X pins σ H s):interactive X.env = false:=by simp [interactive,I.ok.kind]
noncomputable def Mf (te:TE):TS:=fun D σ H=>te σ H fun _ H1=>D.nx σ H1
theorem cY (he:PE X e te) (hs:swapsWith e none pos.line X.env = pure false:=by rfl):PS X (.Expr e pos) (Mf te):=by
 intro pins s σ H D I h
 exact wpAny_Expr_any (thn (he pins s σ H _ I h) fun v s1 ⟨x,H1,I1,r1,q1⟩=>⟨σ,H1,I1,q1⟩) I.quiet hs
noncomputable def OD (te:TE):TS:=fun D σ H=>te σ H D.rt
theorem bU (he:PE X e te):PS X (.Return (some e) pos) (OD te):=by
 intro pins s σ H D I h
 exact wpAny_Return_some (thn (he pins s σ H _ I h) fun v s1 ⟨x,H1,I1,r1,q1⟩=>⟨x,σ,H1,I1,r1,q1⟩)
noncomputable def SX:TS:=fun D _ H=>D.rt .non H
noncomputable def Ke (c:TT) (t u:TS):TS:=fun D σ H=>c σ H fun b H1=>if b = true then t D σ H1 else u D σ H1
theorem cW {c:Expr} {a b:List Stmt} {tc:TT} (hc:PT X c tc) (ha:PSs X a t) (hb:PSs X b u):PS X (.If c a b pos) (Ke tc t u):=by
 intro pins s σ H D I h
 refine wpAny_If (thn (hc pins s σ H _ I h) fun d s1 ⟨H1,I1,q1⟩=>?_)
 cases d with
 | true=>exact ha pins s1 σ H1 D I1 q1
 | false=>exact hb pins s1 σ H1 D I1 q1
noncomputable def ZK:TS:=fun _ _ _=>False
theorem n_:PS X st ZK:=fun _ _ _ _ _ _ h=>h.elim
end
noncomputable abbrev TG:=V->St->Hp->(St->Hp->Prop)->Prop
noncomputable abbrev TGs:=List V->St->Hp->(St->Hp->Prop)->Prop
noncomputable def PG (X:Cx) (target:Expr) (t:TG):Prop :=
 ∀ (pins:List (Addr × Obj)) (s:Shared) (σ:St) (H:Hp) (v:V) (u:Value) (Q:St->Hp->Prop),Inv X pins σ H s->RelV v u->t v σ H Q ->
  wpAny (model X.prog X.w) X.A (assign target X.env u) (fun _ s'=>∃ σ' H',Inv X pins σ' H' s'/\Q σ' H') X.xe s
noncomputable def PGs (X:Cx) (ts:List Expr) (t:TGs):Prop :=
 ∀ (pins:List (Addr × Obj)) (s:Shared) (σ:St) (H:Hp) (vs:List V) (us:List Value) (Q:St->Hp->Prop),Inv X pins σ H s->Vals vs us->t vs σ H Q ->
  wpAny (model X.prog X.w) X.A (assignInOrder ((assignEach ts X.env).map (·.2)) us) (fun _ s'=>∃ σ' H',Inv X pins σ' H' s'/\Q σ' H') X.xe s
noncomputable abbrev ZC:=V->V->V->Hp->(Hp->Prop)->Prop
noncomputable def acP (X:Cx) (t:ZC):Prop :=
 ∀ (pins:List (Addr × Obj)) (s:Shared) (σ:St) (H:Hp) (o i v:V) (ov iv u:Value) (Q:Hp->Prop),Inv X pins σ H s->RelV o ov->RelV i iv->RelV v u->t o i v H Q ->
  wpAny (model X.prog X.w) X.A (setItem ov iv u) (fun _ s'=>∃ H',Inv X pins σ H' s'/\Q H') X.xe s
section
variable {X:Cx} {pos:Pos}
noncomputable def cL (i:Nat):TG:=fun v σ H Q=>Q (σ.set i (some v)) H
theorem cF {i:Nat} {x:Str} (hN:X.N.Nodup) (hi:X.N[i]? = some x) (hx:Loc X.env.scope x) (hf:X.fn x = true\/X.env.scope.names.lookup x = some .local:=by first | exact .inl rfl | exact .inr rfl | assumption):PG X (.Name x pos) (cL i):=by
 intro pins s σ H v u Q I r h
 exact wpAny_assign_Name (qF I hN hi hx r (fun s' I'=>⟨_,H,I',h⟩) hf)
noncomputable def Yh:TGs:=fun vs σ H Q=>vs = []/\Q σ H
noncomputable def Oi (t:TG) (u:TGs):TGs:=fun vs σ H Q=>∃ v r,vs = v :: r/\t v σ H fun σ' H'=>u r σ' H' Q
theorem fK:PGs X [] Yh:=by
 intro pins s σ H vs us Q I r h
 obtain ⟨e,h⟩:=h
 subst e
 cases r
 exact assignInOrder_nil ⟨σ,H,I,h⟩
theorem cu {e:Expr} {es:List Expr} {t:TG} {u:TGs} (h1:PG X e t) (h2:PGs X es u)
  (hs:(assignEach (e :: es) X.env).map (·.2) = assign e X.env :: (assignEach es X.env).map (·.2):=by rfl):PGs X (e :: es) (Oi t u):=by
 intro pins s σ H vs us Q I r h
 obtain ⟨v,vr,e1,h⟩:=h
 subst e1
 cases r with
 | cons r rr =>
  rw [hs]
  refine assignInOrder_cons (thn (h1 pins s σ H _ _ _ I r h) fun _ s1 ⟨σ1,H1,I1,q1⟩=>?_)
  exact h2 pins s1 σ1 H1 _ _ Q I1 rr q1
noncomputable def V7 (K:Frag) (n:Nat) (t:TGs):TG:=fun v σ H Q=>∃ a xs,v = .ref a/\SqT K H a xs/\xs.length = n/\t xs σ H Q
theorem Z0 {es:List Expr} {k:Nat} {t:TGs} {n:Nat} (hc:X.calm = true) (h:PGs X es t)
  (hn:(assignEach es X.env).length = n:=by rfl) (hst:(assignEach es X.env).findIdx? (·.1) = none:=by rfl):PG X (.Tuple es k pos) (V7 X.K n t):=by
 intro pins s σ H v u Q I r hw
 obtain ⟨a,xs,e1,hq,hl,hw⟩:=hw
 subst e1
 cases r
 obtain ⟨its,rv,ht,hz⟩:=I.tuple hq
 refine assign_Tuple_tuple (I.ok.hd hc) ht (by simp [hn,<- hl,rv.length]) hst fun h' hx=>?_
 have I1:Inv X pins σ H { s with heap:=h' }:=I.kept (t':=s.toks) fun b o e=>hx b o (aP (aH e)) e
 exact h pins _ σ H xs _ Q I1 (by simpa using rv) hw
noncomputable def Vz (to ti:TE) (t:ZC):TG:=fun v σ H Q=>to σ H fun o H1=>ti σ H1 fun i H2=>t o i v H2 fun H3=>Q σ H3
theorem aaq {o i:Expr} {to ti:TE} {t:ZC} (ho:PE X o to) (hi:PE X i ti) (hs:acP X t)
  (ha:∀ v,assign (.Subscript o i pos) X.env v = (do
   let ov <- holding [v] (eval o X.env)
   let iv <- holding [v,ov] (eval i X.env)
   standAt pos
   holding [v,ov,iv] (setItem ov iv v)
   release [v,ov,iv] []):=by intro _; rfl):PG X (.Subscript o i pos) (Vz to ti t):=by
 intro pins s σ H v u Q I r h
 rw [ha]
 refine wpAny_bind (wpAny_holding (thn (ho pins s σ H _ I h) fun ov s1 ⟨x,H1,I1,r1,q1⟩=>?_))
 refine wpAny_bind (wpAny_holding (thn (hi pins s1 σ H1 _ I1 q1) fun iv s2 ⟨y,H2,I2,r2,q2⟩=>?_))
 refine wpAny_bind (wpAny_standAt (wpAny_bind (wpAny_holding (thn (hs pins s2 σ H2 x y v ov iv u _ I2 r1 r2 r q2) fun _ s3 ⟨H3,I3,q3⟩=>?_))))
 exact wpAny_release ⟨σ,H3,I3,q3⟩
noncomputable def G5 (te:TE) (g:TG):TS:=fun D σ H=>te σ H fun x H1=>g x σ H1 D.nx
theorem Gq {tg e:Expr} {te:TE} {g:TG} (he:PE X e te) (hg:PG X tg g) (hs:swapsWithSole [tg] e pos.line X.env = pure false:=by rfl) (hw:swappedStores [tg] e X.env = pure none:=by rfl)
  (h1:(assignEach [tg] X.env).map (·.2) = [assign tg X.env]:=by rfl):PS X (.Assign [tg] e pos) (G5 te g):=by
 intro pins s σ H D I h
 refine wpAny_Assign_stores (thn (he pins s σ H _ I h) fun v s1 ⟨x,H1,I1,r1,q1⟩=>?_) hs hw
 rw [h1]
 exact thn (hg pins s1 σ H1 x v _ I1 r1 q1) fun _ s2 q=>q
theorem bQ {i:Nat} {x:Str} {e:Expr} {te:TE} {pos':Pos} (hN:X.N.Nodup) (hi:X.N[i]? = some x) (hx:Loc X.env.scope x) (he:PE X e te) (hs:swapsWith e (some (.Name x pos')) pos.line X.env = pure false:=by rfl) (hf:X.fn x = true\/X.env.scope.names.lookup x = some .local:=by first | exact .inl rfl | exact .inr rfl | assumption) :
  PS X (.Assign [.Name x pos'] e pos) (G5 te (cL i)):=by
 intro pins s σ H D I h
 refine wpAny_Assign_Name (thn (he pins s σ H _ I h) fun v s1 ⟨y,H1,I1,r1,q1⟩=>?_) hs
 exact qF I1 hN hi hx r1 (fun s2 I2=>⟨_,H1,I2,q1⟩) hf
noncomputable def W7 (i j:Nat) (ta:TA):TS:=fun D σ H=>ta σ H fun vs H1=>∃ v w,vs = [v,w]/\D.nx ((σ.set i (some v)).set j (some w)) H1
theorem ZR {i j:Nat} {x y:Str} {a b:Expr} {ta:TA} {px py pt:Pos} {kt k2 pt2} (hc:X.calm = true) (hN:X.N.Nodup) (hi:X.N[i]? = some x) (hj:X.N[j]? = some y) (hij:i ≠ j)
  (hx:X.env.scope.names.lookup x = some .local) (hy:X.env.scope.names.lookup y = some .local) (ha:PA X [a,b] ta)
  (hw:swappedStores [.Tuple [.Name x px,.Name y py] kt pt] (.Tuple [a,b] k2 pt2) X.env = pure (some [x,y]))
  (hs:swapsWithSole [.Tuple [.Name x px,.Name y py] kt pt] (.Tuple [a,b] k2 pt2) pos.line X.env = pure false:=by rfl) :
  PS X (.Assign [.Tuple [.Name x px,.Name y py] kt pt] (.Tuple [a,b] k2 pt2) pos) (W7 i j ta):=by
 intro pins s σ H D I h
 rw [exec_Assign_arm]
 refine wpAny_bind (wpAny_standAt ?_)
 rw [hs]
 refine wpAny_bind (wpAny_pure ?_)
 rw [if_neg (by decide)]
 refine wpAny_bind (Tuple_ (thn (ha _ pins s σ H _ I h) fun us s1 ⟨vs,H1,I1,r1,q1⟩=>?_))
 obtain ⟨v,w,e1,q1⟩:=q1
 subst e1
 obtain ⟨u1,u2,rfl,rv,rw'⟩ : ∃ u1 u2,us = [u1,u2]/\RelV v u1/\RelV w u2:=by
  cases r1 with
  | cons p q =>
   cases q with
   | cons p' q' =>
    cases q'
    exact ⟨_,_,rfl,p,p'⟩
 refine wpAny_newObj_type ?_ (by show 2 <= sizeLine; decide)
 have I2:Inv X pins σ H1 { s1 with heap:=s1.heap.push { cls:=.type "tuple",data:=.seq [u1,u2].toArray } }:=I1.kept (t':=s1.toks) fun b o e=>aF _ e
 rw [hw]
 refine wpAny_bind (wpAny_pure ?_)
 show wpAny (model X.prog X.w) X.A (do rule "assign.swapped-stores"; let items <- unpackItems (.ref s1.heap.objs.size) 2 none; assignInOrder [fun v=>bindName X.env y v,fun v=>bindName X.env x v] items.reverse; pure Flow.next) _ _ _
 refine wpAny_bind (wpAny_rule (wpAny_bind (unpackItems_tuple (items:=#[u1,u2]) (I.ok.hd hc) (IsTup.new s1.heap _) fun h' hx'=>?_)))
 have I3:=I2.kept (h':=h') (t':=s1.toks) fun b o e=>hx' b o (aP (aH e)) e
 show wpAny _ _ (assignInOrder [fun v=>bindName X.env y v,fun v=>bindName X.env x v] [u2,u1] >>= fun _=>pure Flow.next) _ _ _
 refine wpAny_bind (assignInOrder_cons (wpAny_bindName (qF I3 hN hj (.inl hy) rw' (fun s2 I4=>?_) (.inr hy))))
 refine assignInOrder_cons (wpAny_bindName (qF I4 hN hi (.inl hx) rv (fun s3 I5=>assignInOrder_nil (wpAny_pure ?_)) (.inr hx)))
 rw [List.set_comm _ _ (Ne.symm hij)] at I5
 exact ⟨_,H1,I5,q1⟩
end
section
variable {X:Cx} {pos:Pos}
noncomputable def Vd (c:TT) (tb:TS):TS:=fun D σ H=>∃ W:Nat->St->Hp->Prop,(∃ m,W m σ H)/\∀ m σ H,W m σ H ->
 c σ H fun b H1=>if b = true then ∃ N:St->Hp->Prop,(∀ σ' H',N σ' H'->∃ m',m' < m/\W m' σ' H')/\tb { D with nx:=N,ct:=N,bk:=D.nx } σ H1 else D.nx σ H1
theorem IV {c:Expr} {body:List Stmt} {tc:TT} {tb:TS} (hp:PassesOwn (model X.prog X.w) X.A X.env X.xe) (hc:PT X c tc) (hb:PSs X body tb):PS X (.While c body [] pos) (Vd tc tb):=by
 intro pins s σ H D I h
 obtain ⟨W,⟨m0,w0⟩,turn⟩:=h
 refine wpAny_While (codeAny_whileLoop (fun n s'=>∃ σ' H',Inv X pins σ' H' s'/\W n σ' H') ?_ m0 ⟨σ,H,I,w0⟩)
 rintro n s1 ⟨σ1,H1,I1,w1⟩
 refine wpAny_passesOwn hp (thn (hc pins s1 σ1 H1 _ I1 (turn n σ1 H1 w1)) fun b s2 ⟨H2,I2,q2⟩=>?_)
 cases b with
 | true =>
  obtain ⟨N,hN,q2⟩:=q2
  rw [if_pos rfl]
  refine wpAny_passesOwn hp (thn (hb pins s2 σ1 H2 _ I2 q2) fun f s3 q3=>?_)
  cases f with
  | next =>
   obtain ⟨σ3,H3,I3,n3⟩:=q3
   obtain ⟨m',hm,w3⟩:=hN σ3 H3 n3
   exact ⟨m',hm,σ3,H3,I3,w3⟩
  | cont =>
   obtain ⟨σ3,H3,I3,n3⟩:=q3
   obtain ⟨m',hm,w3⟩:=hN σ3 H3 n3
   exact ⟨m',hm,σ3,H3,I3,w3⟩
  | brk=>exact q3
  | ret v=>exact q3
 | false =>
  rw [if_neg bh]
  exact wpAny_execs_nil ⟨σ1,H2,I2,q2⟩
end
structure It where
 go:Nat->Hp->Prop
 yld:Nat->Hp->V->Hp->Prop
 stop:Nat->Hp->Prop
noncomputable def yw (X:Cx) (pins:List (Addr × Obj)) (H:Hp) (b:Addr):Prop :=
 H b = none/\b ≠ X.env.locals/\b ∉ X.fs/\(b ∈ X.ex\/X.s₀.heap.objs.size <= b)/\(∀ x c,X.env.cells.lookup x = some c->c ≠ b)/\∀ p ∈ X.pn ++ pins,p.1 ≠ b
theorem Inv.fpOk {X:Cx} {pins:List (Addr × Obj)} {σ:St} {H H':Hp} {s:Shared} {b:Addr} (I:Inv X pins σ H s) (hb:s.heap.objs.size <= b) (hn:H' b = none):yw X pins H' b:=by
 refine ⟨hn,Nat.ne_of_gt (aQ I.lt hb),I.nofs hb,.inr (aK I.sz hb),fun x c e z=>?_,fun p hp z=>?_⟩
 .obtain ⟨v,q⟩:=I.cell x c e
  exact absurd (aQ q.lt (by rw [z]; exact hb)) (Nat.lt_irrefl _)
 .exact absurd (aQ (aH (I.pin p hp).1) (by rw [z]; exact hb)) (Nat.lt_irrefl _)
structure Turn (P:Program) (w:World) (K:Frag) (tg:Expr) (J:It) (fp:List Addr) (it:Addr) (tn:Nat->Heap->Prop):Prop where
 mem:it ∈ fp
 obj:∀ i h,tn i h->∀ b ∈ fp,∃ o,h.get? b = some o/\∀ v,o.data ≠ .cell v
 keep:∀ i h h',tn i h->(∀ b ∈ fp,∀ o,h.get? b = some o->h'.get? b = some o)->tn i h'
 item:∀ (X:Cx),X.prog = P->X.w = w->X.K = K->X.calm = true->∀ (i:Nat) (pins:List (Addr × Obj)) (s:Shared) (σ:St) (H:Hp) (E:Value->Shared->Prop),Inv X pins σ H s->(∀ b ∈ fp,yw X pins H b)->tn i s.heap->J.go i H ->
  wpAny (model P w) X.A (pyNext (.ref it)) (fun r s1=>∃ u,r = some u /\
   wpAny (model P w) X.A (letOwnedTupleGo tg (.ref it) u) (fun _ s2=>∃ x H',Inv X pins σ H' s2/\RelV x u/\J.yld i H x H'/\tn (i + 1) s2.heap/\∀ b ∈ fp,H' b = none) E s1) E s
 done:∀ (X:Cx),X.prog = P->X.w = w->X.K = K->X.calm = true->∀ (i:Nat) (pins:List (Addr × Obj)) (s:Shared) (σ:St) (H:Hp) (E:Value->Shared->Prop),Inv X pins σ H s->(∀ b ∈ fp,yw X pins H b)->tn i s.heap->J.stop i H ->
  wpAny (model P w) X.A (pyNext (.ref it)) (fun r s1=>r = none/\Inv X pins σ H s1) E s
 self:∀ (A:Around) (i:Nat) (s:Shared) (Q:Value->Shared->Prop) (E:Value->Shared->Prop),tn i s.heap->Q (.ref it) s->wpAny (model P w) A (pyIter (.ref it)) Q E s
noncomputable abbrev TI:=St->Hp->(It->Hp->Prop)->Prop
noncomputable def PIE (X:Cx) (pins:List (Addr × Obj)) (σ:St) (tg:Expr) (R:It->Hp->Prop) (itv:Value) (s2:Shared):Prop :=
 ∃ (it:Addr) (fp:List Addr) (tn:Nat->Heap->Prop) (J:It) (H':Hp),itv = .ref it/\Inv X pins σ H' s2/\Turn X.prog X.w X.K tg J fp it tn/\tn 0 s2.heap/\(∀ b ∈ fp,yw X pins H' b)/\R J H'
noncomputable def PI (X:Cx) (tg iter:Expr) (wi:TI):Prop :=
 ∀ (pins:List (Addr × Obj)) (s:Shared) (σ:St) (H:Hp) (R:It->Hp->Prop),Inv X pins σ H s->wi σ H R ->
  wpAny (model X.prog X.w) X.A (eval iter X.env) (fun v s1=>wpAny (model X.prog X.w) X.A (pyIter v) (PIE X pins σ tg R) X.xe s1) X.xe s
theorem JB {M:Model} {A:Around} {E:Value->Shared->Prop} {s:Shared} {tg:Expr} {it:Addr} {u:Value} {o:Obj} {n:String} {vs:Array Value} {Q:Unit->Shared->Prop} (ho:s.heap.get? it = some o) (hc:o.cls = .type n) (hd:o.data = .fields vs)
    (hn : ["enumerate", "zip", "dict_itemiterator", "dict_reverseitemiterator", "odict_iterator", "itertools.zip_longest", "itertools.pairwise"].contains n = false) (hQ:Q () s):wpAny M A (letOwnedTupleGo tg (.ref it) u) Q E s:=by
  unfold letOwnedTupleGo
  cases tg <;> first
    | exact wpAny_pure hQ
    | (cases u <;> first
        | exact wpAny_pure hQ
        | (refine wpAny_bind (wpAny_load ho ?_)
           rw [hc,hd]
           show wpAny M A (if (["enumerate", "zip", "dict_itemiterator", "dict_reverseitemiterator", "odict_iterator", "itertools.zip_longest", "itertools.pairwise"].contains n && vs[0]? == some (rawInt _)) = true then _ else _) Q E s
           rw [if_neg (by intro h; rw [hn,Bool.false_and] at h; cases h)]
           exact wpAny_pure hQ))
noncomputable def Itl (K:Frag) (a:Addr):It :=
 ⟨fun i H=>∃ xs x,SqL K H a xs/\xs[i]? = some x,fun i H x H'=>H' = H/\∀ xs,SqL K H a xs->xs[i]? = some x,fun i H=>∃ xs,SqL K H a xs/\xs.length <= i⟩
noncomputable def Itt (K:Frag) (a:Addr):It :=
 ⟨fun i H=>∃ xs x,SqT K H a xs/\xs[i]? = some x,fun i H x H'=>H' = H/\∀ xs,SqT K H a xs->xs[i]? = some x,fun i H=>∃ xs,SqT K H a xs/\xs.length <= i⟩
noncomputable def Itr (lo:Int) (n:Nat):It:=⟨fun i _=>i < n,fun i H x H'=>H' = H/\x = .int (lo + i),fun i _=>n <= i⟩
theorem Oq {P:Program} {w:World} {K:Frag} {tg:Expr} (a it:Addr):Turn P w K tg (Itl K a) [it] it (fun i h=>h.IsListIter it a i) where
 mem:=by simp
 obj:=fun i h st b hb=>by
  have e:b = it:=by simpa using hb
  subst e
  obtain ⟨o,e,c,d⟩:=st
  exact ⟨o,e,fun v z=>by rw [d] at z; cases z⟩
 keep:=fun i h h' st k=>st.at fun o e=>k it (by simp) o e
 item:=by
  intro X hP hw hK hc i pins s σ H E I hf st hg
  subst hP hw hK
  obtain ⟨xs,x,hq,hx⟩:=hg
  obtain ⟨its,rv,p,hz⟩:=I.list hq
  obtain ⟨u,hu,ru⟩:=rv.get hx
  obtain ⟨f0,f1,f2,f3,f4,f5⟩:=hf it (by simp)
  refine wpAny_pyNext_list_item st p.isList (x:=u) (by simpa using hu) fun h' st' sb=>?_
  have I1:Inv X pins σ H { s with heap:=h' }:=I.turned (t':=s.toks) (fun b o hb e=>(sb.2 b hb).trans e) f0 f1 f3 f4 f5
  obtain ⟨o,e,c,d⟩:=id st'
  exact ⟨u,rfl,JB (s:={ s with heap:=h' }) e c d (by decide) ⟨x,H,I1,ru,⟨rfl,fun ys hy=>by rw [I.list_inj hy hq]; exact hx⟩,st',fun b hb=>(hf b hb).1⟩⟩
 done:=by
  intro X hP hw hK hc i pins s σ H E I hf st hg
  subst hP hw hK
  obtain ⟨xs,hq,hx⟩:=hg
  obtain ⟨its,rv,p,hz⟩:=I.list hq
  obtain ⟨f0,f1,f2,f3,f4,f5⟩:=hf it (by simp)
  have hl:=rv.length
  exact wpAny_pyNext_list_end (I.ok.hd hc) st p.isList (by simp; omega) fun h' eb=>⟨rfl,I.turned (t':=s.toks) (fun b o hb e=>eb b o hb e) f0 f1 f3 f4 f5⟩
 self:=fun _ _ _ _ _ st h=>wpAny_pyIter_listiter st h
theorem J2 {P:Program} {w:World} {K:Frag} {tg:Expr} (a it:Addr):Turn P w K tg (Itt K a) [it] it (fun i h=>h.IsTupleIter it a i) where
 mem:=by simp
 obj:=fun i h st b hb=>by
  have e:b = it:=by simpa using hb
  subst e
  obtain ⟨o,e,c,d⟩:=st
  exact ⟨o,e,fun v z=>by rw [d] at z; cases z⟩
 keep:=fun i h h' st k=>st.at fun o e=>k it (by simp) o e
 item:=by
  intro X hP hw hK hc i pins s σ H E I hf st hg
  subst hP hw hK
  obtain ⟨xs,x,hq,hx⟩:=hg
  obtain ⟨its,rv,p,hz⟩:=I.tuple hq
  obtain ⟨u,hu,ru⟩:=rv.get hx
  obtain ⟨f0,f1,f2,f3,f4,f5⟩:=hf it (by simp)
  refine wpAny_pyNext_tuple_item st (show s.heap.IsTuple a its.toArray from p) (x:=u) (by simpa using hu) fun h' st' sb=>?_
  have I1:Inv X pins σ H { s with heap:=h' }:=I.turned (t':=s.toks) (fun b o hb e=>(sb.2 b hb).trans e) f0 f1 f3 f4 f5
  obtain ⟨o,e,c,d⟩:=id st'
  exact ⟨u,rfl,JB (s:={ s with heap:=h' }) e c d (by decide) ⟨x,H,I1,ru,⟨rfl,fun ys hy=>by rw [I.tuple_inj hy hq]; exact hx⟩,st',fun b hb=>(hf b hb).1⟩⟩
 done:=by
  intro X hP hw hK hc i pins s σ H E I hf st hg
  subst hP hw hK
  obtain ⟨xs,hq,hx⟩:=hg
  obtain ⟨its,rv,p,hz⟩:=I.tuple hq
  obtain ⟨f0,f1,f2,f3,f4,f5⟩:=hf it (by simp)
  have hl:=rv.length
  exact wpAny_pyNext_tuple_end (I.ok.hd hc) st (show s.heap.IsTuple a its.toArray from p) (by simp; omega) fun h' eb=>⟨rfl,I.turned (t':=s.toks) (fun b o hb e=>eb b o hb e) f0 f1 f3 f4 f5⟩
 self:=fun _ _ _ _ _ st h=>wpAny_pyIter_tupleiter st h
theorem Ls {P:Program} {w:World} {K:Frag} {tg:Expr} (it:Addr) (lo:Int) (n:Nat):Turn P w K tg (Itr lo n) [it] it (fun i h=>IsRangeIter h it (lo + (i:Nat) * 1) ((n:Int) - (i:Nat)) 1) where
 mem:=by simp
 obj:=fun i h st b hb=>by
  have e:b = it:=by simpa using hb
  subst e
  exact ⟨_,st,fun v z=>by
   have z':Data.fields _ = Data.cell v:=z
   cases z'⟩
 keep:=fun i h h' st k=>k it (by simp) _ st
 item:=by
  intro X hP hw hK hc i pins s σ H E I hf st hg
  subst hP hw hK
  obtain ⟨f0,f1,f2,f3,f4,f5⟩:=hf it (by simp)
  have W:=Walks.range (prog:=X.prog) (w:=X.w) (I.ok.hd hc) it lo 1 n
  refine W.item i s _ _ hg st fun v h' tk hv st' kk=>?_
  obtain ⟨t,rfl⟩:=hv
  have I1:Inv X pins σ H { s with heap:=h',toks:=tk }:=I.turned (fun b o hb e=>kk b o (by simpa using hb) e) f0 f1 f3 f4 f5
  refine ⟨_,rfl,JB (s:={ s with heap:=h',toks:=tk }) (n := "range_iterator") st' rfl rfl (by decide) ⟨.int (lo + i),H,I1,⟨t,?_⟩,⟨rfl,rfl⟩,st',fun b hb=>(hf b hb).1⟩⟩
  rw [Int.mul_one]
 done:=by
  intro X hP hw hK hc i pins s σ H E I hf st hg
  subst hP hw hK
  obtain ⟨f0,f1,f2,f3,f4,f5⟩:=hf it (by simp)
  exact wpAny_pyNext_range_end (I.ok.hd hc) st (by have:n <= i:=hg; omega) fun h' eb=>⟨rfl,I.turned (t':=s.toks) (fun b o hb e=>eb b o hb e) f0 f1 f3 f4 f5⟩
 self:=fun _ _ _ _ _ st h=>wpAny_pyIter_rangeiter st h
end L2
namespace L2
open PySem PySem.Spec PyProof.Rows
section
variable {X:Cx} {tg:Expr}
noncomputable def z8 (K:Frag) (tl:TE):TI:=fun σ H R=>tl σ H fun x H1=>∃ a,x = .ref a/\(∃ xs,SqL K H1 a xs)/\R (Itl K a) H1
noncomputable def acO (K:Frag) (tl:TE):TI:=fun σ H R=>tl σ H fun x H1=>∃ a,x = .ref a/\(∃ xs,SqT K H1 a xs)/\R (Itt K a) H1
theorem cX {l:Expr} {tl:TE} (hl:PE X l tl):PI X tg l (z8 X.K tl):=by
 intro pins s σ H R I h
 refine thn (hl pins s σ H _ I h) fun v s1 ⟨x,H1,I1,r1,q1⟩=>?_
 obtain ⟨a,e,⟨xs,hq⟩,q⟩:=q1
 subst e
 cases r1
 obtain ⟨its,rv,p,hz⟩:=I1.list hq
 refine wpAny_pyIter_list p.isList ?_
 refine ⟨s1.heap.objs.size,[s1.heap.objs.size],_,_,H1,rfl,I1.kept (t':=s1.toks) fun b o e=>aF _ e,Oq a _,⟨_,aW _ rfl,rfl,rfl⟩,fun b hb=>?_,q⟩
 have e:b = s1.heap.objs.size:=by simpa using hb
 subst e
 exact I1.fpOk (aD _) (I1.hok.fresh (aD _))
theorem aae {l:Expr} {tl:TE} (hl:PE X l tl):PI X tg l (acO X.K tl):=by
 intro pins s σ H R I h
 refine thn (hl pins s σ H _ I h) fun v s1 ⟨x,H1,I1,r1,q1⟩=>?_
 obtain ⟨a,e,⟨xs,hq⟩,q⟩:=q1
 subst e
 cases r1
 obtain ⟨its,rv,p,hz⟩:=I1.tuple hq
 refine wpAny_pyIter_tuple (show s1.heap.IsTuple a its.toArray from p) ?_
 refine ⟨s1.heap.objs.size,[s1.heap.objs.size],_,_,H1,rfl,I1.kept (t':=s1.toks) fun b o e=>aF _ e,J2 a _,⟨_,aW _ rfl,rfl,rfl⟩,fun b hb=>?_,q⟩
 have e:b = s1.heap.objs.size:=by simpa using hb
 subst e
 exact I1.fpOk (aD _) (I1.hok.fresh (aD _))
theorem Ue {pins:List (Addr × Obj)} {σ:St} {H:Hp} {s:Shared} {R:It->Hp->Prop} {E:Value->Shared->Prop} {lo hi:Int} {t u v:Tok} {tk:Nat} (I:Inv X pins σ H s) (h1 : -(2 ^ 62) <= lo) (h2:lo < 2 ^ 62) (h3 : -(2 ^ 62) <= hi) (h4:hi < 2 ^ 62)
  (q:R (Itr lo (hi - lo).toNat) H):wpAny (model X.prog X.w) X.A (pyIter (.ref s.heap.objs.size)) (PIE X pins σ tg R) E { s with heap:=s.heap.push { cls:=.type "range",data:=.fields #[.int lo t,.int hi u,.int 1 v] },toks:=tk }:=by
 refine wpAny_pyIter_range (IsRange.new ..) (small_one h1 h2 h3 h4) ?_
 have I1:Inv X pins σ H { s with heap:=s.heap.push { cls:=.type "range",data:=.fields #[.int lo t,.int hi u,.int 1 v] },toks:=tk }:=I.kept fun b o e=>aF _ e
 refine ⟨(s.heap.push { cls:=.type "range",data:=.fields #[.int lo t,.int hi u,.int 1 v] }).objs.size,[(s.heap.push { cls:=.type "range",data:=.fields #[.int lo t,.int hi u,.int 1 v] }).objs.size],_,_,H,rfl,
  I1.kept (t':=tk) fun b o e=>aF _ e,Ls _ lo (hi - lo).toNat,?_,fun b hb=>?_,q⟩
 .have e1:lo + ((0:Nat):Int) * 1 = lo:=by simp
  have e2:(((hi - lo).toNat:Nat):Int) - ((0:Nat):Int) = Builtin.Range.rangeSize lo hi 1:=by rw [rangeSize_one]; split <;> omega
  show IsRangeIter _ _ (lo + ((0:Nat):Int) * 1) ((((hi - lo).toNat:Nat):Int) - ((0:Nat):Int)) 1
  rw [e1,e2]
  exact aW _ rfl
 .have e:b = (s.heap.push { cls:=.type "range",data:=.fields #[.int lo t,.int hi u,.int 1 v] }).objs.size:=by simpa using hb
  subst e
  exact I1.fpOk (aD _) (I1.hok.fresh (aD _))
noncomputable def Oc (ta:TA):TI:=fun σ H R=>ta σ H fun vs H1=>∃ j:Int,vs = [.int j]/\-(2 ^ 62) <= j/\j < 2 ^ 62/\R (Itr 0 j.toNat) H1
theorem jk {a:Expr} {ta:TA} {p pos:Pos} (hg:Gl X "range") (hm:X.mg "range" = none) (ha:PA X [a] ta) (hs:starEach [a] X.env = [(false,eval a X.env)]:=by rfl):PI X tg (.Call (.Name "range" p) [a] [] pos) (Oc ta):=by
 intro pins s σ H R I h
 refine Call_ (yX I hg hm boot_range (PyProof.Rows.callWith_type1 (thn (ha pos pins s σ H _ I h) fun us s1 ⟨vs,H1,I1,r1,q1⟩=>?_) hs rfl))
 obtain ⟨j,e,q1,q2,q⟩:=q1
 subst e
 cases r1 with
 | cons r rr =>
  cases rr
  obtain ⟨t,rfl⟩:=r
  exact call_range_1 (Ue I1 (by omega) (by omega) q1 q2 (by simpa using q))
noncomputable def K1 (wi:TI) (g:TG) (tb:TS):TS:=fun D σ H=>wi σ H fun J H1=>∃ W:Nat->Nat->St->Hp->Prop,(∃ m,W 0 m σ H1)/\∀ i m σ H,W i m σ H ->
 (J.stop i H/\D.nx σ H)\/(J.go i H/\∃ N:St->Hp->Prop,(∀ σ' H',N σ' H'->∃ m',m' < m/\W (i + 1) m' σ' H')/\∀ x H',J.yld i H x H'->g x σ H' fun σ2 H2=>tb { D with nx:=N,ct:=N,bk:=D.nx } σ2 H2)
noncomputable def zG (fp:List Addr) (h:Heap):List (Addr × Obj):=fp.filterMap fun b=>(h.get? b).map fun o=>(b,o)
theorem mG {fp:List Addr} {h:Heap} {b:Addr} {o:Obj} (hb:b ∈ fp) (e:h.get? b = some o):(b,o) ∈ zG fp h:=List.mem_filterMap.mpr ⟨b,hb,by rw [e]; rfl⟩
theorem Qc {fp:List Addr} {h:Heap} {p:Addr × Obj} (hp:p ∈ zG fp h):p.1 ∈ fp/\h.get? p.1 = some p.2:=by
 obtain ⟨b,hb,e⟩:=List.mem_filterMap.mp hp
 cases q:h.get? b with
 | none=>rw [q] at e; cases e
 | some o =>
  rw [q] at e
  have e':(b,o) = p:=Option.some.inj e
  subst e'
  exact ⟨hb,q⟩
theorem Inv.pinned {pins:List (Addr × Obj)} {σ:St} {H:Hp} {s:Shared} {fp:List Addr} (I:Inv X pins σ H s) (hf:∀ b ∈ fp,yw X pins H b) (ho:∀ b ∈ fp,∃ o,s.heap.get? b = some o/\∀ v,o.data ≠ .cell v):Inv X (pins ++ zG fp s.heap) σ H s :=
 I.pins_of fun p hp=>(List.mem_append.mp hp).elim (fun z=>I.pin p (aO _ z)) fun z=>by
  obtain ⟨hb,e⟩:=Qc z
  obtain ⟨f0,f1,f2,_⟩:=hf p.1 hb
  obtain ⟨o,e',d⟩:=ho p.1 hb
  rw [e] at e'; cases e'
  exact ⟨e,f0,f1,f2,d⟩
theorem Inv.unpinned {pins pl:List (Addr × Obj)} {σ:St} {H:Hp} {s:Shared} (I:Inv X (pins ++ pl) σ H s):Inv X pins σ H s:=I.pins_of fun p hp=>I.pin p (aO _ (List.mem_append_left _ hp))
theorem jU {iter:Expr} {body:List Stmt} {wi:TI} {g:TG} {tb:TS} {pos:Pos} (hp:PassesOwn (model X.prog X.w) X.A X.env X.xe) (hc:X.calm = true) (hi:PI X tg iter wi) (hg:PG X tg g) (hb:PSs X body tb)
  (hs:∀ x,foldedSetIterable iter X.env x = pure x:=by intro _; rfl):PS X (.For tg iter body [] pos) (K1 wi g tb):=by
 intro pins s σ H D I h
 refine wpAny_For (thn (hi pins s σ H _ I h) fun v s1 h1=>thn h1 fun itv s2 h2=>?_) hs
 obtain ⟨it,fp,tn,J,H2,e,I2,T,st2,f2,W,⟨m0,w0⟩,turn⟩:=h2
 subst e
 -- what stays true of the iterator's objects through the loop
 have stat:∀ {H':Hp},(∀ b ∈ fp,H' b = none)->∀ b ∈ fp,yw X pins H' b:=fun hn b hb=>⟨hn b hb,(f2 b hb).2⟩
 refine codeAny_forLoop_any (fun n s'=>∃ i σ' H',Inv X pins σ' H' s'/\tn i s'.heap/\(∀ b ∈ fp,H' b = none)/\W i n σ' H') ?_ m0 ⟨0,σ,H2,I2,st2,fun b hb=>(f2 b hb).1,w0⟩
 rintro n s3 ⟨i,σ3,H3,I3,st3,fr3,w3⟩
 rcases turn i n σ3 H3 w3 with ⟨stop,qn⟩ | ⟨go,N,hN,step⟩
 .refine wpAny_passesOwn hp (thn (T.done X rfl rfl rfl hc i pins s3 σ3 H3 X.xe I3 (stat fr3) st3 stop) fun r s4 ⟨hr,I4⟩=>?_)
  subst hr
  exact wpAny_execs_nil ⟨σ3,H3,I4,qn⟩
 .refine wpAny_passesOwn hp (thn (T.item X rfl rfl rfl hc i pins s3 σ3 H3 X.xe I3 (stat fr3) st3 go) fun r s4 ⟨u,hr,h4⟩=>?_)
  subst hr
  refine wpAny_passesOwn hp (thn h4 fun _ s5 ⟨x,H5,I5,r5,y5,st5,fr5⟩=>?_)
  have I5':=I5.pinned (stat fr5) (T.obj _ _ st5)
  refine wpAny_passesOwn hp (thn (hg _ s5 σ3 H5 x u _ I5' r5 (step x H5 y5)) fun _ s6 ⟨σ6,H6,I6,q6⟩=>?_)
  refine wpAny_passesOwn hp (thn (hb _ s6 σ6 H6 _ I6 q6) fun f s7 q7=>?_)
  have again:∀ {σ7:St} {H7:Hp},Inv X (pins ++ zG fp s5.heap) σ7 H7 s7->N σ7 H7->∃ m,m < n/\∃ i σ' H',Inv X pins σ' H' s7/\tn i s7.heap/\(∀ b ∈ fp,H' b = none)/\W i m σ' H':=fun {σ7 H7} I7 n7=>by
   obtain ⟨m',hm,w7⟩:=hN σ7 H7 n7
   refine ⟨m',hm,i + 1,σ7,H7,I7.unpinned,T.keep _ _ _ st5 fun b hb o e=>(I7.pin (b,o) (aO _ (aO _ (mG hb e)))).1,fun b hb=>?_,w7⟩
   obtain ⟨o,e,d⟩:=T.obj _ _ st5 b hb
   exact (I7.pin (b,o) (aO _ (aO _ (mG hb e)))).2.1
  cases f with
  | next=>obtain ⟨σ7,H7,I7,n7⟩:=q7; exact again I7 n7
  | cont=>obtain ⟨σ7,H7,I7,n7⟩:=q7; exact again I7 n7
  | brk=>obtain ⟨σ7,H7,I7,q7⟩:=q7; exact ⟨σ7,H7,I7.unpinned,q7⟩
  | ret v=>obtain ⟨x7,σ7,H7,I7,r7,q7⟩:=q7; exact ⟨x7,σ7,H7,I7.unpinned,r7,q7⟩
end
theorem JD {c:TT} {tb:TS} {D:Ends} {σ:St} {H:Hp} (Pv:St->Hp->Prop) (μ:St->Hp->Nat) (h0:Pv σ H)
  (hs:∀ σ H,Pv σ H->c σ H fun b H1=>if b = true then tb { D with nx:=fun σ' H'=>Pv σ' H'/\μ σ' H' < μ σ H,ct:=fun σ' H'=>Pv σ' H'/\μ σ' H' < μ σ H,bk:=D.nx } σ H1 else D.nx σ H1)
  (mono:∀ σ H Q Q',(∀ b H1,Q b H1->Q' b H1)->c σ H Q->c σ H Q'):Vd c tb D σ H:=by
 refine ⟨fun m σ H=>m = μ σ H/\Pv σ H,⟨_,rfl,h0⟩,?_⟩
 rintro m σ H ⟨rfl,p⟩
 refine mono σ H _ _ (fun b H1 q=>?_) (hs σ H p)
 cases b with
 | true=>exact ⟨_,fun σ' H' ⟨p',l⟩=>⟨_,l,rfl,p'⟩,q⟩
 | false=>exact q
end L2
namespace L2
open PySem PySem.Spec PyProof.Rows
noncomputable abbrev R2:=V->V->Hp->VK->Prop
noncomputable def OpR (X:Cx) (f:Value->Value->Sem Value) (r:R2):Prop :=
 ∀ (pins:List (Addr × Obj)) (s:Shared) (σ:St) (H:Hp) (x y:V) (v u:Value) (Q:VK),Inv X pins σ H s->RelV x v->RelV y u->r x y H Q ->
  wpAny (model X.prog X.w) X.A (f v u) (EP X pins σ Q) X.xe s
noncomputable def UnR (X:Cx) (f:Value->Sem Value) (r:V->Hp->VK->Prop):Prop :=
 ∀ (pins:List (Addr × Obj)) (s:Shared) (σ:St) (H:Hp) (x:V) (v:Value) (Q:VK),Inv X pins σ H s->RelV x v->r x H Q ->
  wpAny (model X.prog X.w) X.A (f v) (EP X pins σ Q) X.xe s
noncomputable def eG (X:Cx) (f:Value) (r:List V->Hp->VK->Prop):Prop :=
 ∀ (pins:List (Addr × Obj)) (s:Shared) (σ:St) (H:Hp) (xs:List V) (us:List Value) (Q:VK),Inv X pins σ H s->Vals xs us->r xs H Q ->
  wpAny (model X.prog X.w) X.A (call f us) (EP X pins σ Q) X.xe s
noncomputable def aeQ (X:Cx) (r:V->Hp->(Bool->Hp->Prop)->Prop):Prop :=
 ∀ (pins:List (Addr × Obj)) (s:Shared) (σ:St) (H:Hp) (x:V) (v:Value) (Q:Bool->Hp->Prop),Inv X pins σ H s->RelV x v->r x H Q ->
  wpAny (model X.prog X.w) X.A (truthy v) (TP X pins σ Q) X.xe s
noncomputable def tOp (r:R2) (ta tb:TE):TE:=fun σ H Q=>ta σ H fun x H1=>tb σ H1 fun y H2=>r x y H2 Q
noncomputable def tUn (r:V->Hp->VK->Prop) (ta:TE):TE:=fun σ H Q=>ta σ H fun x H1=>r x H1 Q
noncomputable def rI (C:Int->Int->Prop) (g:Int->Int->V):R2:=fun x y H Q=>∃ i j,x = .int i/\y = .int j/\C i j/\Q (g i j) H
noncomputable def rI0 (g:Int->Int->V):R2:=fun x y H Q=>∃ i j,x = .int i/\y = .int j/\Q (g i j) H
noncomputable def rU (g:Int->V):V->Hp->VK->Prop:=fun x H Q=>∃ i,x = .int i/\Q (g i) H
section
variable {X:Cx} {a b c:Expr} {ta tb tc:TE} {pos:Pos}
theorem aah (ha:PE X a ta) (hb:PE X b tb) {pins:List (Addr × Obj)} {s:Shared} {σ:St} {H:Hp} {R:V->V->Hp->Prop} (I:Inv X pins σ H s)
  (h:ta σ H fun x H1=>tb σ H1 fun y H2=>R x y H2) {Q:Value->Shared->Prop} {f:Value->Value->Sem Value}
  (hf:∀ v u s2 x y H2,Inv X pins σ H2 s2->RelV x v->RelV y u->R x y H2->wpAny (model X.prog X.w) X.A (f v u) Q X.xe s2) :
  wpAny (model X.prog X.w) X.A (eval a X.env) (fun v s₁=>wpAny (model X.prog X.w) X.A (eval b X.env) (fun u s₂=>wpAny (model X.prog X.w) X.A (f v u) Q X.xe s₂) X.xe s₁) X.xe s:=by
 refine thn (ha pins s σ H _ I h) fun v s1 ⟨x,H1,I1,r1,q1⟩=>?_
 refine thn (hb pins s1 σ H1 _ I1 q1) fun u s2 ⟨y,H2,I2,r2,q2⟩=>?_
 exact hf v u s2 x y H2 I2 r1 r2 q2
theorem bL {op:Operator} {r:R2} (ho:OpR X (binaryOp op) r) (ha:PE X a ta) (hb:PE X b tb):PE X (.BinOp a op b pos) (tOp r ta tb):=by
 intro pins s σ H Q I h
 exact wpAny_BinOp (aah ha hb I h fun v u s2 x y H2 I2 rx ry q=>ho pins s2 σ H2 x y v u Q I2 rx ry q)
theorem N8 {op:UnaryOp} {r:V->Hp->VK->Prop} (ho:UnR X (unaryOp op) r) (ha:PE X a ta):PE X (.UnaryOp op a pos) (tUn r ta):=by
 intro pins s σ H Q I h
 exact UnaryOp_ (thn (ha pins s σ H _ I h) fun v s1 ⟨x,H1,I1,r1,q1⟩=>ho pins s1 σ H1 x v Q I1 r1 q1)
theorem opI {f:Value->Value->Sem Value} {C:Int->Int->Prop} {g:Int->Int->Int}
  (rule:∀ (i j:Int) (t u:Tok) (s:Shared) (Q:Value->Shared->Prop) (E:Value->Shared->Prop),C i j->Q (.int (g i j) s.toks) { s with toks:=s.toks + 1 }->wpAny (model X.prog X.w) X.A (f (.int i t) (.int j u)) Q E s) :
  OpR X f (rI C fun i j=>.int (g i j)):=by
 intro pins s σ H x y v u Q I rx ry h
 obtain ⟨i,j,rfl,rfl,hc,q⟩:=h
 obtain ⟨t,rfl⟩:=rx
 obtain ⟨t',rfl⟩:=ry
 exact rule i j t t' s _ _ hc ⟨.int (g i j),H,I.tok _,⟨_,rfl⟩,q⟩
theorem abf {f:Value->Value->Sem Value} {g:Int->Int->Int}
  (rule:∀ (i j:Int) (t u:Tok) (s:Shared) (Q:Value->Shared->Prop) (E:Value->Shared->Prop),Q (.int (g i j) s.toks) { s with toks:=s.toks + 1 }->wpAny (model X.prog X.w) X.A (f (.int i t) (.int j u)) Q E s) :
  OpR X f (rI0 fun i j=>.int (g i j)):=by
 intro pins s σ H x y v u Q I rx ry h
 obtain ⟨i,j,rfl,rfl,q⟩:=h
 obtain ⟨t,rfl⟩:=rx
 obtain ⟨t',rfl⟩:=ry
 exact rule i j t t' s _ _ ⟨.int (g i j),H,I.tok _,⟨_,rfl⟩,q⟩
theorem Xw {f:Value->Value->Sem Value} {g:Int->Int->Bool}
  (rule:∀ (i j:Int) (t u:Tok) (s:Shared) (Q:Value->Shared->Prop) (E:Value->Shared->Prop),Q (.bool (g i j)) s->wpAny (model X.prog X.w) X.A (f (.int i t) (.int j u)) Q E s) :
  OpR X f (rI0 fun i j=>.bl (g i j)):=by
 intro pins s σ H x y v u Q I rx ry h
 obtain ⟨i,j,rfl,rfl,q⟩:=h
 obtain ⟨t,rfl⟩:=rx
 obtain ⟨t',rfl⟩:=ry
 exact rule i j t t' s _ _ ⟨.bl (g i j),H,I,rfl,q⟩
noncomputable def acp (i j:Int):Prop:=0 <= j/\j <= 1000000/\i.natAbs < 2 ^ 64
noncomputable def aar (i j:Int):Prop:=(-(2 ^ 64) < i/\i < 2 ^ 64)\/(-(2 ^ 64) < j/\j < 2 ^ 64)
theorem aar.ok {i j:Int} (h:aar i j):IntMulOk i j:=by
 rcases h with ⟨h1,h2⟩ | ⟨h1,h2⟩
 .exact .of_left (intBits_le_64 h1 h2)
 .exact .of_right (intBits_le_64 h1 h2)
theorem cT:OpR X (binaryOp .Add) (rI0 fun i j=>.int (i + j)):=abf fun _ _ _ _ _ _ _ q=>add_int q
theorem wz:OpR X (binaryOp .Sub) (rI0 fun i j=>.int (i - j)):=abf fun _ _ _ _ _ _ _ q=>sub_int q
theorem Lg:OpR X (binaryOp .Mult) (rI aar fun i j=>.int (i * j)):=opI fun _ _ _ _ _ _ _ hc q=>mul_int q hc.ok
theorem cQ:OpR X (binaryOp .Mod) (rI (fun _ j=>0 < j) fun i j=>.int (i % j)):=opI fun i j _ _ _ _ _ hc q=>by
 have h1:(0:Int) < j:=hc
 exact mod_int' (by omega) (by rw [aV i (by omega)]; exact q)
theorem j8:OpR X (binaryOp .Mod) (rI (fun _ j=>j ≠ 0) fun i j=>.int (i.fmod j)):=opI fun _ _ _ _ _ _ _ hc q=>mod_int' hc q
theorem Hu:OpR X (binaryOp .Pow) (rI acp fun i j=>.int (i ^ j.toNat)):=opI fun _ _ _ _ _ _ _ hc q=>pow_int_small hc.1 hc.2.1 hc.2.2 q
theorem unI {f:Value->Sem Value} {g:Int->Int}
  (rule:∀ (i:Int) (t:Tok) (s:Shared) (Q:Value->Shared->Prop) (E:Value->Shared->Prop),Q (.int (g i) s.toks) { s with toks:=s.toks + 1 }->wpAny (model X.prog X.w) X.A (f (.int i t)) Q E s) :
  UnR X f (rU fun i=>.int (g i)):=by
 intro pins s σ H x v Q I rx h
 obtain ⟨i,rfl,q⟩:=h
 obtain ⟨t,rfl⟩:=rx
 exact rule i t s _ _ ⟨.int (g i),H,I.tok _,⟨_,rfl⟩,q⟩
theorem Ga:UnR X (unaryOp .USub) (rU fun i=>.int (-i)):=unI fun _ _ _ _ _ q=>neg_int q
end
noncomputable def Hq:V->V->Bool
 | .non,.non=>true | .non,.int _=>true | .int _,.non=>true | .non,.bl _=>true | .bl _,.non=>true | .non,.str _=>true | .str _,.non=>true
 | .int _,.int _=>true | .bl _,.bl _=>true | .str _,.str _=>true | .byt _,.byt _=>true
 | .int _,.str _=>true | .str _,.int _=>true | .bl _,.str _=>true | .str _,.bl _=>true
 | _,_=>false
noncomputable def rEq:R2:=fun x y H Q=>Hq x y = true/\Q (.bl (decide (x = y))) H
noncomputable def rNe:R2:=fun x y H Q=>Hq x y = true/\Q (.bl (!decide (x = y))) H
theorem Mh {i j:Int} : decide (V.int i = V.int j) = (i == j):=by
 rw [Bool.eq_iff_iff]
 simp
theorem RB {i j:Bool} : decide (V.bl i = V.bl j) = (i == j):=by
 rw [Bool.eq_iff_iff]
 simp
theorem Oh {i j:Str} : decide (V.str i = V.str j) = (i == j):=by
 rw [Bool.eq_iff_iff]
 simp
theorem Mx {i j:Array UInt8} : decide (V.byt i = V.byt j) = (i.toList == j.toList):=by
 rw [Bool.eq_iff_iff]
 cases i
 cases j
 simp
section
variable {X:Cx} {a b c:Expr} {ta tb tc:TE} {pos:Pos}
theorem cR {pins:List (Addr × Obj)} {σ:St} {H:Hp} {s:Shared} {Q:VK} {k k':Bool} (I:Inv X pins σ H s) (q:Q (.bl k) H) (e:k = k'):EP X pins σ Q (.bool k') s:=by
 subst e
 exact ⟨.bl k,H,I,rfl,q⟩
theorem mF:OpR X (compareOp .Eq) rEq:=by
 intro pins s σ H x y v u Q I rx ry h
 obtain ⟨hs,q⟩:=h
 cases x with
 | non =>
  cases rx
  cases y with
  | non=>cases ry; exact PySem.EqNone.eq_none_none (cR I q (by simp))
  | bl j=>cases ry; exact PySem.EqNone.eq_none_bool (cR I q (by simp))
  | int j=>obtain ⟨t',rfl⟩:=ry; exact PySem.EqNone.eq_none_int (cR I q (by simp))
  | str j=>obtain ⟨t',rfl⟩:=ry; exact PySem.EqNone.eq_none_str (cR I q (by simp))
  | _=>exact absurd (show false = true from hs) bh
 | bl i =>
  cases rx
  cases y with
  | non=>cases ry; exact PySem.EqNone.eq_bool_none (cR I q (by simp))
  | bl j=>cases ry; exact eq_bool (cR I q RB)
  | str j=>obtain ⟨t',rfl⟩:=ry; exact PySem.EqMixed.eq_bool_str (cR I q (by simp))
  | _=>exact absurd (show false = true from hs) bh
 | int i =>
  obtain ⟨t,rfl⟩:=rx
  cases y with
  | non=>cases ry; exact PySem.EqNone.eq_int_none (cR I q (by simp))
  | int j=>obtain ⟨t',rfl⟩:=ry; exact eq_int (cR I q Mh)
  | str j=>obtain ⟨t',rfl⟩:=ry; exact PySem.EqMixed.eq_int_str (cR I q (by simp))
  | _=>exact absurd (show false = true from hs) bh
 | str i =>
  obtain ⟨t,rfl⟩:=rx
  cases y with
  | non=>cases ry; exact PySem.EqNone.eq_str_none (cR I q (by simp))
  | bl j=>cases ry; exact PySem.EqMixed.eq_str_bool (cR I q (by simp))
  | int j=>obtain ⟨t',rfl⟩:=ry; exact PySem.EqMixed.eq_str_int (cR I q (by simp))
  | str j=>obtain ⟨t',rfl⟩:=ry; exact eq_str (cR I q Oh)
  | _=>exact absurd (show false = true from hs) bh
 | byt i =>
  obtain ⟨t,rfl⟩:=rx
  cases y with
  | byt j=>obtain ⟨t',rfl⟩:=ry; exact PySem.W.eq_bytes (cR I q Mx)
  | _=>exact absurd (show false = true from hs) bh
 | _=>cases y <;> exact absurd (show false = true from hs) bh
theorem Ob:OpR X (compareOp .NotEq) rNe:=by
 intro pins s σ H x y v u Q I rx ry h
 obtain ⟨hs,q⟩:=h
 cases x with
 | non =>
  cases rx
  cases y with
  | non=>cases ry; exact PySem.EqNone.ne_none_none (cR I q (by simp))
  | bl j=>cases ry; exact PySem.EqNone.ne_none_bool (cR I q (by simp))
  | int j=>obtain ⟨t',rfl⟩:=ry; exact PySem.EqNone.ne_none_int (cR I q (by simp))
  | str j=>obtain ⟨t',rfl⟩:=ry; exact PySem.EqNone.ne_none_str (cR I q (by simp))
  | _=>exact absurd (show false = true from hs) bh
 | bl i =>
  cases rx
  cases y with
  | non=>cases ry; exact PySem.EqNone.ne_bool_none (cR I q (by simp))
  | bl j=>cases ry; exact ne_bool (cR I q (congrArg not RB))
  | str j=>obtain ⟨t',rfl⟩:=ry; exact PySem.EqMixed.ne_bool_str (cR I q (by simp))
  | _=>exact absurd (show false = true from hs) bh
 | int i =>
  obtain ⟨t,rfl⟩:=rx
  cases y with
  | non=>cases ry; exact PySem.EqNone.ne_int_none (cR I q (by simp))
  | int j=>obtain ⟨t',rfl⟩:=ry; exact ne_int (cR I q (congrArg not Mh))
  | str j=>obtain ⟨t',rfl⟩:=ry; exact PySem.EqMixed.ne_int_str (cR I q (by simp))
  | _=>exact absurd (show false = true from hs) bh
 | str i =>
  obtain ⟨t,rfl⟩:=rx
  cases y with
  | non=>cases ry; exact PySem.EqNone.ne_str_none (cR I q (by simp))
  | bl j=>cases ry; exact PySem.EqMixed.ne_str_bool (cR I q (by simp))
  | int j=>obtain ⟨t',rfl⟩:=ry; exact PySem.EqMixed.ne_str_int (cR I q (by simp))
  | str j=>obtain ⟨t',rfl⟩:=ry; exact ne_str (cR I q (congrArg not Oh))
  | _=>exact absurd (show false = true from hs) bh
 | byt i =>
  obtain ⟨t,rfl⟩:=rx
  cases y with
  | byt j=>obtain ⟨t',rfl⟩:=ry; exact PySem.W.ne_bytes (cR I q (congrArg not Mx))
  | _=>exact absurd (show false = true from hs) bh
 | _=>cases y <;> exact absurd (show false = true from hs) bh
theorem zO:OpR X (compareOp .Lt) (rI0 fun i j=>.bl (decide (i < j))):=Xw fun _ _ _ _ _ _ _ q=>lt_int q
theorem M9:OpR X (compareOp .LtE) (rI0 fun i j=>.bl (decide (i <= j))):=Xw fun _ _ _ _ _ _ _ q=>le_int q
theorem Nj:OpR X (compareOp .Gt) (rI0 fun i j=>.bl (decide (j < i))):=Xw fun _ _ _ _ _ _ _ q=>gt_int q
theorem Ys:OpR X (compareOp .GtE) (rI0 fun i j=>.bl (decide (j <= i))):=Xw fun _ _ _ _ _ _ _ q=>ge_int q
theorem cH (b:Expr) {op:CmpOp} (h:op ≠ .In:=by decide) (h2:op ≠ .NotIn:=by decide):behindInMarks op b = false:=by
 have e1:(op == CmpOp.In) = false:=by cases op <;> first | rfl | exact absurd rfl h
 have e2:(op == CmpOp.NotIn) = false:=by cases op <;> first | rfl | exact absurd rfl h2
 cases b <;> simp [behindInMarks,e1,e2]
theorem kE {op:CmpOp} {r:R2} (ho:OpR X (compareOp op) r) (ha:PE X a ta) (hb:PE X b tb) (hm:behindInMarks op b = false):PE X (.Compare a [op] [b] pos) (tOp r ta tb):=by
 intro pins s σ H Q I h
 exact wpAny_Compare1 (aah ha hb I h fun v u s2 x y H2 I2 rx ry q=>ho pins s2 σ H2 x y v u Q I2 rx ry q) hm
noncomputable def Bc (t:TE):TT:=fun σ H Q=>t σ H fun x H'=>∃ k,x = .bl k/\Q k H'
theorem cN {op:CmpOp} {r:R2} (ho:OpR X (compareOp op) r) (ha:PE X a ta) (hb:PE X b tb) (hm:behindInMarks op b = false):PT X (.Compare a [op] [b] pos) (Bc (tOp r ta tb)):=by
 intro pins s σ H Q I h
 refine wpAny_isTrue_Compare1 (thn (ha pins s σ H _ I h) fun v s1 ⟨x,H1,I1,r1,q1⟩=>thn (hb pins s1 σ H1 _ I1 q1) fun u s2 ⟨y,H2,I2,r2,q2⟩ =>
  thn (ho pins s2 σ H2 x y v u _ I2 r1 r2 q2) fun c s3 ⟨z,H3,I3,r3,k,e,q3⟩=>?_) hm
 subst e
 cases r3
 exact wpAny_truthy_bool ⟨H3,I3,q3⟩
noncomputable def Aq (r r':R2) (ta tb tc:TE):TE:=fun σ H Q=>ta σ H fun x H1=>tb σ H1 fun y H2=>r x y H2 fun z H3=>∃ k,z = .bl k /\
 (if k = true then tc σ H3 fun w' H4=>r' y w' H4 Q else Q (.bl false) H3)
theorem R5 {op op':CmpOp} {r r':R2} (ho:OpR X (compareOp op) r) (ho':OpR X (compareOp op') r') (ha:PE X a ta) (hb:PE X b tb) (hc:PE X c tc)
  (hm:lastMarks [op,op'] [b,c] = false:=by with_unfolding_all rfl):PE X (.Compare a [op,op'] [b,c] pos) (Aq r r' ta tb tc):=by
 intro pins s σ H Q I h
 refine Compare_chain (thn (ha pins s σ H _ I h) fun v s1 ⟨x,H1,I1,r1,q1⟩=>chain_link (thn (hb pins s1 σ H1 _ I1 q1) fun u s2 ⟨y,H2,I2,r2,q2⟩ =>
  thn (ho pins s2 σ H2 x y v u _ I2 r1 r2 q2) fun d s3 ⟨z,H3,I3,r3,k,e,q3⟩=>?_)) hm
 subst e
 cases r3
 refine wpAny_truthy_bool ?_
 cases k with
 | false=>exact ite_ff ⟨.bl false,H3,I3,rfl,q3⟩
 | true=>exact ite_tt (chain_last (thn (hc pins s3 σ H3 _ I3 q3) fun w' s4 ⟨z',H4,I4,r4,q4⟩=>ho' pins s4 σ H4 y z' u w' Q I4 r2 r4 q4))
theorem Ie {op op':CmpOp} {r r':R2} (ho:OpR X (compareOp op) r) (ho':OpR X (compareOp op') r') (ha:PE X a ta) (hb:PE X b tb) (hc:PE X c tc)
  (hm:lastMarks [op,op'] [b,c] = false:=by with_unfolding_all rfl):PT X (.Compare a [op,op'] [b,c] pos) (Bc (Aq r r' ta tb tc)):=by
 intro pins s σ H Q I h
 refine isTrue_chain (thn (ha pins s σ H _ I h) fun v s1 ⟨x,H1,I1,r1,q1⟩=>test_link (thn (hb pins s1 σ H1 _ I1 q1) fun u s2 ⟨y,H2,I2,r2,q2⟩ =>
  thn (ho pins s2 σ H2 x y v u _ I2 r1 r2 q2) fun d s3 ⟨z,H3,I3,r3,k,e,q3⟩=>?_)) hm
 subst e
 cases r3
 refine wpAny_truthy_bool ?_
 cases k with
 | false =>
  obtain ⟨k',e',q'⟩:=q3
  cases e'
  exact ite_ff ⟨H3,I3,q'⟩
 | true =>
  refine ite_tt (test_last (thn (hc pins s3 σ H3 _ I3 q3) fun w' s4 ⟨z',H4,I4,r4,q4⟩=>thn (ho' pins s4 σ H4 y z' u w' _ I4 r2 r4 q4) fun d' s5 ⟨z2,H5,I5,r5,k2,e2,q5⟩=>?_))
  subst e2
  cases r5
  exact wpAny_truthy_bool ⟨H5,I5,q5⟩
noncomputable def aaC (K:Frag) (x:V) (H:Hp) (k:Bool):Prop :=
 match x with
 | .non=>k = false
 | .bl b=>k = b
 | .int i=>k = (i != 0)
 | .str y=>y.length <= sizeLine/\k = ((y.length:Int) != 0)
 | .byt y=>y.size <= sizeLine/\k = ((y.size:Int) != 0)
 | .ref p=>(∃ xs,SqL K H p xs/\k = !xs.isEmpty)\/(∃ xs,SqT K H p xs/\k = !xs.isEmpty)\/∃ kvs,H p = some (.dK kvs)/\k = !kvs.isEmpty
 | _=>False
theorem K8 {κ:Type} {kvs:List (κ × V)} {vs:List (κ × Value)} (r:KV kvs vs):(!vs.isEmpty) = !kvs.isEmpty:=by
 cases r <;> rfl
theorem Ae {xs:List V} {its:List Value} (r:Vals xs its):(!its.toArray.isEmpty) = !xs.isEmpty:=by
 cases r <;> simp
theorem qb:(sizeLine:Nat) < 2 ^ 63:=by rw [sizeLine_eq]; decide
theorem Zz:aeQ X (fun x H Q=>∃ k,aaC X.K x H k/\Q k H):=by
 intro pins s σ H x v Q I rx h
 obtain ⟨k,e,q⟩:=h
 have hl:=qb
 have hs:sizeLine = 16777216:=sizeLine_eq
 cases x with
 | non =>
  cases rx
  have e':k = false:=e
  subst e'
  exact truthy_none ⟨H,I,q⟩
 | bl b =>
  cases rx
  have e':k = b:=e
  subst e'
  exact wpAny_truthy_bool ⟨H,I,q⟩
 | int i =>
  obtain ⟨t,rfl⟩:=rx
  have e':k = (i != 0):=e
  subst e'
  exact PySem.P.truthy_int ⟨H,I,q⟩
 | str y =>
  obtain ⟨t,rfl⟩:=rx
  obtain ⟨hy,e'⟩ : y.length <= sizeLine/\k = ((y.length:Int) != 0):=e
  subst e'
  exact PySem.P.truthy_str (by omega) ⟨H,I.tok _,q⟩
 | byt y =>
  obtain ⟨t,rfl⟩:=rx
  obtain ⟨hy,e'⟩ : y.size <= sizeLine/\k = ((y.size:Int) != 0):=e
  subst e'
  exact PySem.W.truthy_bytes (by omega) ⟨H,I.tok _,q⟩
 | ref p =>
  cases rx
  have e':(∃ xs,SqL X.K H p xs/\k = !xs.isEmpty)\/(∃ xs,SqT X.K H p xs/\k = !xs.isEmpty)\/∃ kvs,H p = some (.dK kvs)/\k = !kvs.isEmpty:=e
  rcases e' with ⟨xs,hx,e'⟩ | ⟨xs,hx,e'⟩ | ⟨kvs,hx,e'⟩
  .subst e'
   obtain ⟨its,r,pl,hz⟩:=I.list hx
   have hlen:=r.length
   exact wpAny_truthy_list pl.isList (by simp only [aX]; omega) ⟨H,I.tok _,by rw [Ae r]; exact q⟩
  .subst e'
   obtain ⟨its,r,pl,hz⟩:=I.tuple hx
   have hlen:=r.length
   exact truthy_tuple pl (by simp only [aX]; omega) ⟨H,I.tok _,by rw [Ae r]; exact q⟩
  .subst e'
   obtain ⟨hz,hS,vs,r,m⟩ : kvs.length <= sizeLine/\(p == sysModules) = false/\∃ vs,KV kvs vs/\s.heap.DictOf (iY X.prog X.w) p vs:=I.hok p _ hx
   have hlen:kvs.length = vs.length:=Paired.length r
   exact wpAny_truthy_dict hS m (by omega) ⟨H,I.tok _,by rw [K8 r]; exact q⟩
 | _=>exact (show False from e).elim
theorem KJ:OpR X (binaryOp .Add) (fun x y H Q=>∃ i j,x = .str i/\y = .str j/\i.length + j.length <= sizeLine/\Q (.str (i ++ j)) H):=by
 intro pins s σ H x y v u Q I rx ry h
 obtain ⟨i,j,rfl,rfl,hz,q⟩:=h
 obtain ⟨t,rfl⟩:=rx
 obtain ⟨t',rfl⟩:=ry
 exact add_str (fun t' tk=>⟨.str (i ++ j),H,I.tok _,⟨_,rfl⟩,q⟩) hz
theorem vals1 {x:V} {us:List Value} (r:Vals [x] us):∃ u,us = [u]/\RelV x u:=by
 cases r with
 | cons r1 r2=>cases r2; exact ⟨_,rfl,r1⟩
theorem qT:eG X (.builtin "abs") (fun xs H Q=>∃ i,xs = [.int i]/\Q (.int (if i < 0 then -i else i)) H):=by
 intro pins s σ H xs us Q I r h
 obtain ⟨i,rfl,q⟩:=h
 obtain ⟨u,rfl,t,rfl⟩:=vals1 r
 exact call_abs_int fun u tk=>⟨.int (if i < 0 then -i else i),H,I.tok _,⟨_,rfl⟩,q⟩
theorem P0:eG X (.type "int") (fun xs H Q=>(∃ i,xs = [.int i]/\Q (.int i) H)\/∃ k,xs = [.bl k]/\Q (.int (if k then 1 else 0)) H):=by
 intro pins s σ H xs us Q I r h
 rcases h with ⟨i,rfl,q⟩ | ⟨k,rfl,q⟩
 .obtain ⟨u,rfl,t,rfl⟩:=vals1 r
  exact call_int_int ⟨.int i,H,I,⟨_,rfl⟩,q⟩
 .obtain ⟨u,rfl,r1⟩:=vals1 r
  cases r1
  exact call_int_bool ⟨.int (if k then 1 else 0),H,I.tok _,⟨_,rfl⟩,q⟩
end
end L2
namespace L2
open PySem PySem.Spec PyProof.Rows
structure Lb (h:Heap) (x dx C:Addr) (mA:Str->Option Value):Prop where
 obj:h.get? x = some (PySem.W.instObj C dx)
 ns:h.Ns1 dx mA
 ne:dx ≠ x
theorem Dv {h:Heap} {dx:Addr} {mA:Str->Option Value} (n:h.Ns1 dx mA):∃ od,h.get? dx = some od/\∀ name,PySem.W.lookIn name od = some (mA name):=by
 obtain ⟨o,es,ep,ho,hd,hk,_,hm⟩:=n
 refine ⟨o,ho,fun name=>?_⟩
 have e:=hm name
 unfold nsFind findBy at e
 rw [<- Array.find?_toList] at e
 unfold PySem.W.lookIn
 rw [hd]
 dsimp only
 split
 .rename_i y q
  rw [q] at e
  exact congrArg some e
 .rename_i q
  rw [q] at e
  have a:es.toList.any (·.refKey) = false:=by
   rw [List.any_eq_false]
   intro y hy
   obtain ⟨z,t,hkey⟩:=hk y (Array.mem_toList_iff.mp hy)
   simp [DictEntry.refKey,hkey]
  have a':¬ es.toList.any (·.refKey) = true:=by rw [a]; exact bh
  rw [if_neg a']
  exact congrArg some e
theorem Lb.look {h:Heap} {x dx C:Addr} {mA:Str->Option Value} (I:Lb h x dx C mA):∃ od,PySem.W.InstAt h x (PySem.W.instObj C dx) C (some od)/\∀ name,PySem.W.lookIn name od = some (mA name) :=
 let ⟨od,ho,hl⟩:=Dv I.ns
 ⟨od,⟨I.obj,rfl,rfl,ho⟩,hl⟩
section
variable {prog:Program} {w:World} {A:Around} {E:Value->Shared->Prop} {s:Shared} {K:Frag} {x dx C f:Addr} {mA:Str->Option Value} {name:Str} {v:Value}
theorem get_map {expr:Bool} {Q:Value->Shared->Prop} (X:K.In s.heap) (I:Lb s.heap x dx C mA) (hg:PySem.W.plainGet K C name = true) (hh:PySem.W.hasDictIn K C = true)
  (ha:PySem.W.findIn K (.ref C) name = some none) (hv:mA name = some v) (hv':PySem.W.handedIn v = true) (h:Q v { s with toks:=s.toks + 1 }) :
  wpAny (model prog w) A (getAttr (.ref x) name expr) Q E s:=by
 obtain ⟨od,J,hl⟩:=I.look
 exact PySem.W.get_value X J (PySem.W.plainGet_of hg).1 (PySem.W.findObj_own hh ha rfl (by rw [hl,hv])) hv' h
theorem Q6 {pl:Sem Bool} {Q:Value × List Value->Shared->Prop} (X:K.In s.heap) (I:Lb s.heap x dx C mA) (hg:PySem.W.plainGet K C name = true)
  (hf:PySem.W.findIn K (.ref C) name = some (some (.ref f))) (ht:PySem.W.isFn K (.ref f) = true) (hv:mA name = none) (h:Q (.ref f,[.ref x]) s) :
  wpAny (model prog w) A (getMethod (.ref x) name pl) Q E s:=by
 obtain ⟨od,J,hl⟩:=I.look
 exact PySem.W.method_fn X J (PySem.W.plainGet_of hg).1 (PySem.W.plainGet_of hg).2 hf (beq_iff_eq.mp ht) (by show (PySem.W.lookIn name od).map (·.isSome) = some false; rw [hl,hv]; rfl) h
theorem Wb {ns:List Str} {Q:Unit->Shared->Prop} (X:K.In s.heap) (I:Lb s.heap x dx C mA)
  (hs:PySem.W.findIn K (.ref C) "__setattr__" = some (some (.builtin "object.__setattr__"))) (hp:PySem.W.plainOver K C = true) (ht:PySem.W.takerIn K C name = some none) (hh:PySem.W.hasDictIn K C = true)
  (hw:PySem.Within mA ns) (hsz:ns.length <= sizeLine)
  (h:∀ h',Lb h' x dx C (fun y=>if y = name then some v else mA y)->Heap.SameBut dx s.heap h'->Q () { s with heap:=h',toks:=s.toks + 2 }) :
  wpAny (model prog w) A (setAttr (.ref x) name v) Q E s:=by
 obtain ⟨od,J,hl⟩:=I.look
 refine PySem.W.set_plain X J hs (PySem.W.osa_open (s:={ s with toks:=s.toks + 1 }) (r:=none) X J hp ht fun b=>?_)
 obtain ⟨cd,hc,hd'⟩:=PySem.W.any_some hh
 have hx:s.heap.get? x = some ⟨.ref C,some dx,.plain,#[]⟩:=I.obj
 refine wpAny_bind (wpAny_pure (wpAny_bind (wpAny_bind (wpAny_loadPart hx (wpAny_bind (PySem.W.Looks.here (s:={ s with toks:=s.toks + 1 }) (PySem.W.looks_clsIn X hc) ?_))))))
 rw [hd']
 refine wpAny_pure (a:=some dx) (wpAny_bind (wpAny_pure (wpAny_bind ?_)))
 refine wpAny_nsSet1 (s:={ s with toks:=s.toks + 1 }) I.ns fun h' hn2 hs2=>?_
 obtain ⟨oD,esD,epD,hoD,hdD,hcD⟩:=hn2.count (PySem.Within.cons name v hw)
 refine wpAny_bind (wpAny_lookBehind hoD (by rw [hdD]; exact pastItsLine_dict (aK hcD (by rw [List.length_cons]; omega))) ?_)
 exact wpAny_pure (h _ ⟨(hs2.2 _ (Ne.symm I.ne)).trans I.obj,hn2,I.ne⟩ hs2)
theorem UW {R:Result->Shared->Prop} {vs:List Value} {kw:List (Str × Value)} (X:K.In s.heap) (hm:PySem.W.makesIn K C = true)
  (hi:PySem.W.findIn K (.ref C) "__init__" = some (some (.ref f))) (hf:PySem.W.typeIn K (.ref f) = some (.type "function"))
  (h:codeAny (model prog w) (A.under (.builtin "type.__call__" ⟨.ref C :: vs,kw⟩)) (.call (.ref f) ⟨.ref (s.heap.objs.size + 1) :: vs,kw⟩) (PySem.W.InitBack (s.heap.objs.size + 1) R)
   { s with heap:=(s.heap.push PySem.W.emptyDict).push (PySem.W.instObj C s.heap.objs.size) }) :
  codeAny (model prog w) A (.call (.ref C) ⟨vs,kw⟩) R s:=by
 obtain ⟨hh,g,d,t,os⟩:=s
 exact PySem.W.make_core (PySem.W.makes_of X hm) (PySem.W.looks_findIn X hi) (fun self=>PySem.W.bind_fn X self hf) (.inl rfl) h
end
noncomputable def jm (f:Str) (v:V):List (Str × V)->List (Str × V)
 | []=>[(f,v)]
 | (g,x) :: r=>if g = f then (g,v) :: r else (g,x) :: jm f v r
theorem xQ (f g:Str) (v:V):∀ fs:List (Str × V),(jm f v fs).lookup g = if g = f then some v else fs.lookup g
 | []=>by
  show List.lookup g [(f,v)] = _
  by_cases h:g = f
  .have hb:(g == f) = true:=beq_iff_eq.mpr h
   simp only [List.lookup,hb,if_pos h]
  .have hb:(g == f) = false:=beq_eq_false_iff_ne.mpr h
   simp only [List.lookup,hb,if_neg h]
 | (k,x) :: r=>by
  have ih:=xQ f g v r
  rw [show jm f v ((k,x) :: r) = (if k = f then (k,v) :: r else (k,x) :: jm f v r) from rfl]
  by_cases hk:k = f
  .rw [if_pos hk]
   by_cases h:g = k
   .have hb:(g == k) = true:=beq_iff_eq.mpr h
    simp only [List.lookup,hb,if_pos (h.trans hk)]
   .have hb:(g == k) = false:=beq_eq_false_iff_ne.mpr h
    simp only [List.lookup,hb,if_neg (fun e:g = f=>h (e.trans hk.symm))]
  .rw [if_neg hk]
   by_cases h:g = k
   .have hb:(g == k) = true:=beq_iff_eq.mpr h
    simp only [List.lookup,hb,if_neg (fun e:g = f=>hk (h.symm.trans e))]
   .have hb:(g == k) = false:=beq_eq_false_iff_ne.mpr h
    simp only [List.lookup,hb]
    exact ih
theorem wD (f:Str) (v:V):∀ fs:List (Str × V),f ∈ (jm f v fs).map (·.1)/\∀ g,g ∈ fs.map (·.1)->g ∈ (jm f v fs).map (·.1)
 | []=>⟨by simp [jm],fun g h=>by simp at h⟩
 | (k,x) :: r=>by
  obtain ⟨i1,i2⟩:=wD f v r
  rw [show jm f v ((k,x) :: r) = (if k = f then (k,v) :: r else (k,x) :: jm f v r) from rfl]
  by_cases hk:k = f
  .rw [if_pos hk]
   subst hk
   exact ⟨by simp,fun g h=>by simpa using h⟩
  .rw [if_neg hk]
   refine ⟨?_,fun g h=>?_⟩
   .rw [List.map_cons]
    exact aG _ i1
   .rw [List.map_cons] at h ⊢
    rcases List.mem_cons.mp h with e | e
    .exact List.mem_cons.mpr (.inl e)
    .exact aG _ (i2 g e)
theorem xK (f:Str) (v:V):∀ fs:List (Str × V),(jm f v fs).length <= fs.length + 1
 | []=>by simp [jm]
 | (k,x) :: r=>by
  have ih:=xK f v r
  rw [show jm f v ((k,x) :: r) = (if k = f then (k,v) :: r else (k,x) :: jm f v r) from rfl]
  by_cases hk:k = f
  .rw [if_pos hk,List.length_cons,List.length_cons]; omega
  .rw [if_neg hk,List.length_cons,List.length_cons]; omega
theorem qU.some_of {v:V} {o:Option Value} (r:qU (some v) o):∃ u,o = some u/\RelV v u:=by
 cases o with
 | none=>exact (show False from r).elim
 | some u=>exact ⟨u,rfl,r⟩
theorem qU.none_of {o:Option Value} (r:qU none o):o = none:=by
 cases o with
 | none=>rfl
 | some u=>exact (show False from r).elim
theorem Du {v:V} {u:Value} (r:RelV v u):PySem.W.handedIn u = true:=by
 cases v with
 | non=>cases (show u = Value.none from r); rfl
 | bl b=>cases (show u = Value.bool b from r); rfl
 | int i=>obtain ⟨t,e⟩:=(show ∃ t,u = Value.int i t from r); cases e; rfl
 | str x=>obtain ⟨t,e⟩:=(show ∃ t,u = Value.str x t from r); cases e; rfl
 | byt b=>obtain ⟨t,e⟩:=(show ∃ t,u = Value.bytes b t from r); cases e; rfl
 | flt b=>obtain ⟨t,e⟩:=(show ∃ t,u = Value.float b t from r); cases e; rfl
 | ref a=>cases (show u = Value.ref a from r); rfl
 | ty n=>cases (show u = Value.type n from r); rfl
section
variable {P:Program} {w:World} {H H':Hp} {h h':Heap} {a C dx:Addr} {fs fs':List (Str × V)}
theorem yJ (hok:HOk P w H h) (e:H a = some (.ins C dx fs)):∃ mA,Lb h a dx C mA/\(∀ f,qU (fs.lookup f) (mA f))/\PySem.Within mA (fs.map (·.1))/\fs.length <= 1000/\H dx = some (.own a):=by
 obtain ⟨d,z,ne,ob,mA,n,r,q⟩:=(show cZ P w H h a (.ins C dx fs) from hok a _ e)
 exact ⟨mA,⟨ob,n,ne⟩,r,q,z,d⟩
end
structure Cls (K:Frag) (C:Addr):Prop where
 pg:PySem.W.plainGet K C Str.empty = true
 hd:PySem.W.hasDictIn K C = true
 po:PySem.W.plainOver K C = true
 sa:PySem.W.findIn K (.ref C) "__setattr__" = some (some (.builtin "object.__setattr__"))
theorem Cls.get {K:Frag} {C:Addr} (c:Cls K C) (f:Str):PySem.W.plainGet K C f = true:=c.pg
noncomputable def bZ (K:Frag) (C:Addr) (f:Str):Prop:=PySem.W.findIn K (.ref C) f = some none
theorem bZ.taker {K:Frag} {C:Addr} {f:Str} (n:bZ K C f):PySem.W.takerIn K C f = some none:=by
 unfold PySem.W.takerIn
 rw [show PySem.W.findIn K (.ref C) f = some none from n]
 rfl
structure Meth (K:Frag) (C:Addr) (m:Str) (f:Addr):Prop where
 at_:PySem.W.findIn K (.ref C) m = some (some (.ref f))
 fn:PySem.W.isFn K (.ref f) = true
 kp:PySem.W.keepIn K (.ref f) = true
section
variable {X:Cx} {pins:List (Addr × Obj)} {σ:St} {H:Hp} {s:Shared} {a C dx:Addr} {fs:List (Str × V)} {f:Str} {v:V} {A:Around} {E:Value->Shared->Prop}
theorem KN {b:Bool} {Q:Value->Shared->Prop} (I:Inv X pins σ H s) (e:H a = some (.ins C dx fs)) (c:Cls X.K C) (n:bZ X.K C f) (l:fs.lookup f = some v)
  (h:∀ u s',Inv X pins σ H s'->RelV v u->Q u s'):wpAny (model X.prog X.w) A (getAttr (.ref a) f b) Q E s:=by
 obtain ⟨mA,O,r,_,_,_⟩:=yJ I.hok e
 obtain ⟨u,hu,ru⟩:=qU.some_of (v:=v) (o:=mA f) (by rw [<- l]; exact r f)
 exact get_map I.kIn O (c.get f) c.hd n hu (Du ru) (h u _ (I.tok _) ru)
theorem Bh {m:Str} {g:Addr} {pl:Sem Bool} {Q:Value × List Value->Shared->Prop} (I:Inv X pins σ H s) (e:H a = some (.ins C dx fs)) (c:Cls X.K C) (k:Meth X.K C m g) (l:fs.lookup m = none)
  (h:Q (.ref g,[.ref a]) s):wpAny (model X.prog X.w) A (getMethod (.ref a) m pl) Q E s:=by
 obtain ⟨mA,O,r,_,_,_⟩:=yJ I.hok e
 have hn:mA m = none:=qU.none_of (by rw [<- l]; exact r m)
 exact Q6 I.kIn O (c.get m) k.at_ k.fn hn h
theorem KZ {y:V} {u:Value} {Q:Unit->Shared->Prop} (I:Inv X pins σ H s) (e:H a = some (.ins C dx fs)) (c:Cls X.K C) (n:bZ X.K C f) (hl:fs.length < 1000) (ry:RelV y u)
  (h:∀ s',Inv X pins σ (upd H a (.ins C dx (jm f y fs))) s'->Q () s'):wpAny (model X.prog X.w) A (setAttr (.ref a) f u) Q E s:=by
 obtain ⟨mA,O,r,wi,_,ho⟩:=yJ I.hok e
 have hz:(fs.map (·.1)).length <= sizeLine:=by rw [ak,sizeLine_eq]; omega
 refine Wb I.kIn O c.sa c.po n.taker c.hd wi hz fun h' O' sb=>h _ ?_
 have hd:∃ o,h'.get? dx = some o:=let ⟨o,_,_,e',_⟩:=O'.ns; ⟨o,e'⟩
 refine I.write (x:=a) (e:=dx) (by rw [e]; exact True.intro) (.inr ho) (fun b q hb z=>(sb.2 b hb).trans z) hd ?_
 refine ⟨by rw [bF O.ne]; exact ho,?_,O.ne,O'.obj,_,O'.ns,fun g=>?_,fun g hg=>?_⟩
 .have:=xK f y fs; omega
 .show qU ((jm f y fs).lookup g) (if g = f then some u else mA g)
  rw [xQ]
  by_cases q:g = f
  .rw [if_pos q,if_pos q]; exact ry
  .rw [if_neg q,if_neg q]; exact r g
 .by_cases q:g = f
  .rw [q]; exact (wD f y fs).1
  .refine (wD f y fs).2 g (wi g fun z=>hg ?_)
   show (if g = f then some u else mA g) = none
   rw [if_neg q]; exact z
theorem Inv.made (I:Inv X pins σ H s):Inv X pins σ (upd (upd H s.heap.objs.size (.own (s.heap.objs.size + 1))) (s.heap.objs.size + 1) (.ins C s.heap.objs.size []))
  { s with heap:=(s.heap.push PySem.W.emptyDict).push (PySem.W.instObj C s.heap.objs.size) }:=by
 have e1:(s.heap.push PySem.W.emptyDict).get? s.heap.objs.size = some PySem.W.emptyDict:=aW s.heap rfl
 have e2:((s.heap.push PySem.W.emptyDict).push (PySem.W.instObj C s.heap.objs.size)).get? (s.heap.objs.size + 1) = some (PySem.W.instObj C s.heap.objs.size):=by
  have:=aW (s.heap.push PySem.W.emptyDict) (o:=PySem.W.instObj C s.heap.objs.size) rfl
  rwa [Heap.size_push] at this
 have e3:(s.heap.push PySem.W.emptyDict).Ns s.heap.objs.size (fun _=>none):=⟨PySem.W.emptyDict,#[],_,e1,rfl,(fun e he=>absurd he (by simp)),fun _=>rfl⟩
 have I1:=I.laid (a:=s.heap.objs.size) (o:=.own (s.heap.objs.size + 1)) (h':=s.heap.push PySem.W.emptyDict) (t':=s.toks) (fun b u q=>aF _ q) (aD _) ⟨_,e1⟩
 refine I1.laid (a:=s.heap.objs.size + 1) (o:=.ins C s.heap.objs.size []) (t':=s.toks) (fun b u q=>aF _ q) (Nat.le_of_eq (Heap.size_push _ _)) ?_
 have ne:s.heap.objs.size ≠ s.heap.objs.size + 1:=aP (Nat.lt_succ_self _)
 refine ⟨by rw [bF ne,bB],aZ _,ne,e2,fun _=>none,(Heap.Ns1.of_empty e3).at fun o q=>aF _ q,fun _=>True.intro,fun y hy=>absurd rfl hy⟩
theorem Mv {prog:Program} {w:World} {env:Env} {e:Expr} {f:Str} {pos:Pos} {s:Shared} {Q:Value->Shared->Prop} (hb:attributeBase e f env (eval e env) = eval e env)
  (h:wpAny (model prog w) A (eval e env) (fun o s₁=>wpAny (model prog w) A (getAttr o f true) Q E s₁) E s):wpAny (model prog w) A (eval (.Attribute e f pos) env) Q E s :=
 Attribute_any_ h (by rw [arm_eval_Attribute,hb])
end
noncomputable def Sv (K:Frag) (ta:TE) (f:Str):TE:=fun σ H Q=>ta σ H fun x H1=>∃ a C dx fs v,x = .ref a/\H1 a = some (.ins C dx fs)/\Cls K C/\bZ K C f/\fs.lookup f = some v/\Q v H1
noncomputable def Yg (K:Frag) (ta tv:TE) (f:Str):TS:=fun D σ H=>tv σ H fun y H1=>ta σ H1 fun x H2=>∃ a C dx fs,x = .ref a/\H2 a = some (.ins C dx fs)/\Cls K C/\bZ K C f/\fs.length < 1000 /\
 D.nx σ (upd H2 a (.ins C dx (jm f y fs)))
section
variable {X:Cx} {o e value:Expr} {f:Str} {pos pos' tpos:Pos} {ta tv:TE}
theorem pJ (he:PE X e ta) (hb:attributeBase e f X.env (eval e X.env) = eval e X.env):PE X (.Attribute e f pos) (Sv X.K ta f):=by
 intro pins s σ H Q I h
 refine Mv hb (thn (he pins s σ H _ I h) fun u s1 h=>?_)
 obtain ⟨x,H1,I1,rx,a,C,dx,fs,v,rfl,ea,c,n,l,q⟩:=h
 obtain rfl:u = Value.ref a:=rx
 exact KN I1 ea c n l fun u' s2 I2 ru=>⟨v,H1,I2,ru,q⟩
theorem qN (ha:PE X o ta) (hv:PE X value tv) (hs:swapsWith value (some (.Attribute o f pos')) pos.line X.env = pure false):PS X (.Assign [.Attribute o f pos'] value pos) (Yg X.K ta tv f):=by
 intro pins s σ H D I h
 refine plainObj_wpAny_Assign_Attribute (thn (hv pins s σ H _ I h) fun u s1 ⟨y,H1,I1,ry,q⟩=>thn (ha pins s1 σ H1 _ I1 q) fun ov s2 h=>?_) hs
 obtain ⟨x,H2,I2,rx,a,C,dx,fs,rfl,ea,c,n,l,q2⟩:=h
 obtain rfl:ov = Value.ref a:=rx
 exact KZ I2 ea c n l ry fun s3 I3=>⟨σ,_,I3,q2⟩
end
section
variable {X:Cx} {pins:List (Addr × Obj)} {σ:St} {H:Hp} {s:Shared} {A:Around} {E:Value->Shared->Prop} {Q:Value->Shared->Prop} {c:Value} {b:Bool}
inductive wW (K:Frag) (H:Hp):V->Value->Prop where
 | non:wW K H .non (.type "NoneType")
 | bl (x:Bool):wW K H (.bl x) (.type "bool")
 | int (i:Int):wW K H (.int i) (.type "int")
 | str (x:Str):wW K H (.str x) (.type "str")
 | flt (x:UInt64):wW K H (.flt x) (.type "float")
 | lst {a:Addr} {xs:List V} (e:H a = some (.lst xs)):wW K H (.ref a) (.type "list")
 | frz {a:Addr} {o:Obj} {xs:List V} (e:H a = some (.frz o (.lst xs))):wW K H (.ref a) (.type "list")
 | tup {a:Addr} {xs:List V} (e:H a = some (.tup xs)):wW K H (.ref a) (.type "tuple")
 | dK {a:Addr} {kvs:List (Key × V)} (e:H a = some (.dK kvs)):wW K H (.ref a) (.type "dict")
 | ins {a C dx:Addr} {fs:List (Str × V)} (e:H a = some (.ins C dx fs)) (cl:Cls K C) (ha:PySem.W.findIn K (.ref C) "__class__" = some (some (.builtin "object.__class__")))
   (hn:PySem.W.specialIn K (.builtin "object.__class__") "__get__" = some (some (.builtin "getset_descriptor.__get__"))) (htk:PySem.W.takesIn K (.builtin "object.__class__") = some true)
   (hm:PySem.W.mroIn K C (.type "object") = some true):wW K H (.ref a) (.ref C)
theorem Py {x:V} {u t:Value} (I:Inv X pins σ H s) (rx:RelV x u) (ty:wW X.K H x t) (e:PySem.W.kitOne X.K t c = some b) (h:∀ tk,Q (.bool b) { s with toks:=tk }) :
  wpAny (model X.prog X.w) A (call (.builtin "isinstance") [u,c]) Q E s:=by
 cases ty with
 | non=>cases (show u = Value.none from rx); exact PySem.W.kia_one PySem.W.kitx_none I.kIn True.intro e (fun z=>nomatch z) h
 | bl y=>cases (show u = Value.bool y from rx); exact PySem.W.kia_one PySem.W.kitx_bool I.kIn True.intro e (fun z=>nomatch z) h
 | int i=>obtain ⟨t,q⟩:=(show ∃ t,u = Value.int i t from rx); cases q; exact PySem.W.kia_one PySem.W.kitx_int I.kIn True.intro e (fun z=>nomatch z) h
 | str y=>obtain ⟨t,q⟩:=(show ∃ t,u = Value.str y t from rx); cases q; exact PySem.W.kia_one PySem.W.kitx_str I.kIn True.intro e (fun z=>nomatch z) h
 | flt y=>obtain ⟨t,q⟩:=(show ∃ t,u = Value.float y t from rx); cases q; exact PySem.W.kia_one PySem.W.kitx_float I.kIn True.intro e (fun z=>nomatch z) h
 | @lst a xs ea =>
  cases (show u = Value.ref a from rx)
  obtain ⟨_,_,n,_,h1⟩:=(show cZ X.prog X.w H s.heap a (.lst xs) from I.hok a _ ea)
  exact PySem.W.kia_one PySem.W.kitx_list I.kIn ⟨_,h1,rfl⟩ e (fun z=>nomatch z) h
 | @frz a ob xs ea =>
  cases (show u = Value.ref a from rx)
  obtain ⟨_,_,_,n,_,h1⟩:=(show cZ X.prog X.w H s.heap a (.frz ob (.lst xs)) from I.hok a _ ea)
  exact PySem.W.kia_one PySem.W.kitx_list I.kIn ⟨_,h1,rfl⟩ e (fun z=>nomatch z) h
 | @tup a xs ea =>
  cases (show u = Value.ref a from rx)
  obtain ⟨_,_,_,p⟩:=(show cZ X.prog X.w H s.heap a (.tup xs) from I.hok a _ ea)
  obtain ⟨o,h1,h2,_⟩:=p
  exact PySem.W.kia_one PySem.W.kitx_tuple I.kIn ⟨o,h1,h2⟩ e (fun z=>nomatch z) h
 | @dK a kvs ea =>
  cases (show u = Value.ref a from rx)
  obtain ⟨_,_,vs,_,p⟩:=(show cZ X.prog X.w H s.heap a (.dK kvs) from I.hok a _ ea)
  obtain ⟨o,es,ep,h1,h2,_⟩:=p
  exact PySem.W.kia_one PySem.W.kitx_dict I.kIn ⟨o,h1,h2.1⟩ e (fun z=>nomatch z) h
 | @ins a C dx fs ea cl ha hn htk hm =>
  cases (show u = Value.ref a from rx)
  obtain ⟨mA,O,_⟩:=yJ I.hok ea
  obtain ⟨od,J,_⟩:=O.look
  exact PySem.W.kia_one (PySem.W.kitx_own (cl.get _) cl.hd ha hn htk hm) I.kIn J e (fun z=>nomatch z) h
end
end L2
namespace L2
open PySem PySem.Spec PyProof.Rows
structure fW (k:Nat) (A:Around):Prop where
 hd:A.handled = none
 dp:A.depth + 3 * k + 5 < recursionLimit
 un:A.units + 16 * k + 200 < cLine
theorem fW.mono {j k:Nat} {A:Around} (r:fW k A) (h:j <= k):fW j A:=⟨r.hd,by have:=r.dp; omega,by have:=r.un; omega⟩
theorem fW.deeper {k:Nat} {A:Around} (r:fW (k + 1) A) (env:Env):fW k (A.deeper env) :=
 ⟨r.hd,by have:=r.dp; show A.depth + 1 + 3 * k + 5 < _; omega,by have:=r.un; show A.units + 3 + 16 * k + 200 < _; omega⟩
theorem Ly {A:Around} {C:Addr} {us:List Value} {kw:List (Str × Value)} : (A.under (.builtin "type.__call__" ⟨.ref C :: us,kw⟩)).depth = A.depth + 1:=by
 first | rfl | simp [Around.under,Code.weight,Code.isCreation,Code.isGuard,Code.isCaller,Code.frames,Code.isFrame,guardIds]
theorem Kc {A:Around} {C:Addr} {us:List Value} {kw:List (Str × Value)} : (A.under (.builtin "type.__call__" ⟨.ref C :: us,kw⟩)).units = A.units + 1:=by
 first | rfl | simp [Around.under,Code.cUnits,Code.frames,Code.isFrame]
theorem fW.make {k:Nat} {A:Around} (r:fW (k + 1) A) (C:Addr) (us:List Value) (kw:List (Str × Value)):fW k (A.under (.builtin "type.__call__" ⟨.ref C :: us,kw⟩)) :=
 ⟨r.hd,by have:=r.dp; rw [Ly]; omega,by have:=r.un; rw [Kc]; omega⟩
theorem fW.depth {k:Nat} {A:Around} (r:fW k A):A.depth < recursionLimit:=by have:=r.dp; omega
theorem fW.units {k:Nat} {A:Around} (r:fW k A):A.units + 64 < cLine:=by have:=r.un; omega
noncomputable def wX:TA:=fun _ H Q=>Q [] H
noncomputable def xM (ta:TE) (tr:TA):TA:=fun σ H Q=>ta σ H fun x H1=>tr σ H1 fun xs H2=>Q (x :: xs) H2
section
variable {X:Cx} {e:Expr} {es:List Expr} {te:TE} {t:TA} {pos:Pos}
theorem bD:PA X [] wX:=fun _ _ _ _ H Q I h=>Calls.spliced_nil ⟨[],H,I,.nil,h⟩
theorem bw (ha:PE X e te) (hr:PA X es t) (hs:starEach (e :: es) X.env = (false,eval e X.env) :: starEach es X.env:=by rfl):PA X (e :: es) (xM te t):=by
 intro pos pins s σ H Q I h
 rw [hs]
 show wpAny _ _ (spliced ((false,eval e X.env) :: backTo pos (starEach es X.env))) _ _ s
 refine Calls.spliced_cons (thn (ha pins s σ H _ I h) fun u s1 ⟨x,H1,I1,r1,q1⟩=>?_)
 exact thn (hr pos pins s1 σ H1 _ I1 q1) fun us s2 ⟨xs,H2,I2,r2,q2⟩=>⟨x :: xs,H2,I2,.cons r1 r2,q2⟩
noncomputable def X6 (t:TA):TE:=fun σ H Q=>t σ H fun xs H1=>xs.length <= sizeLine/\∀ p,H1 p = none->Q (.ref p) (upd H1 p (.tup xs))
noncomputable def Tf (t:TA):TE:=fun σ H Q=>t σ H fun xs H1=>xs.length <= sizeLine/\∀ p,H1 p = none->Q (.ref p) (upd H1 p (.lst xs))
theorem c7 {x1} (h:PA X es t):PE X (.Tuple es x1 pos) (X6 t):=by
 intro pins s σ H Q I hq
 refine wpAny_Tuple_spliced (thn (h pos pins s σ H _ I hq) fun us s1 ⟨xs,H1,I1,r,z,q⟩=>⟨by rw [<- r.length]; exact z,?_⟩)
 have hf:H1 s1.heap.objs.size = none:=I1.hok.fresh (aD _)
 refine ⟨.ref s1.heap.objs.size,upd H1 s1.heap.objs.size (.tup xs),I1.laid (t':=s1.toks) (fun b u e=>aF _ e) (aD _) ?_,rfl,q _ hf⟩
 exact ⟨z,us,r,⟨_,aW _ rfl,rfl,_,rfl⟩⟩
theorem iH (h:PA X es t):PE X (.List es pos) (Tf t):=by
 intro pins s σ H Q I hq
 refine wpAny_List_spliced (thn (h pos pins s σ H _ I hq) fun us s1 ⟨xs,H1,I1,r,z,q⟩=>⟨by rw [<- r.length]; exact z,?_⟩)
 have hf:H1 s1.heap.objs.size = none:=I1.hok.fresh (aD _)
 refine ⟨.ref s1.heap.objs.size,upd H1 s1.heap.objs.size (.lst xs),I1.laid (t':=s1.toks) (fun b u e=>aF _ e) (aD _) ?_,rfl,q _ hf⟩
 exact ⟨z,us,0,r,aW _ rfl⟩
end
noncomputable abbrev Sp:=List V->Hp->VK->XK->Prop
noncomputable abbrev CXT:=List Env->Hp->Shared->XK->Value->Shared->Prop
structure K4 (P:Program) (w:World) (K:Frag) (mg:Str->Option Value) (base:Heap) (A:Around) (outer:List Env) (s:Shared) (H:Hp):Prop where
 frames:A.frames = some outer
 mod:Mod K mg base
 bs:∀ b o,base.get? b = some o->s.heap.get? b = some o/\H b = none
 bsz:base.objs.size <= s.heap.objs.size
 funs:s.heap.FunFrames base outer
 frf:∀ b ∈ frs outer,H b = none
 hok:HOk P w H s.heap
 bare:AllBare s.gens
noncomputable def CE (outer:List Env) (P:Program) (w:World) (H:Hp) (s:Shared) (Q:VK) (u:Value) (s':Shared):Prop :=
 ∃ v H',s'.os = s.os/\AllBare s'.gens/\Un (frs outer) [] H H' s.heap s'.heap/\HOk P w H' s'.heap/\RelV v u/\Q v H'
noncomputable def CR (CX:CXT) (outer:List Env) (P:Program) (w:World) (H:Hp) (s:Shared) (Q:VK) (E:XK) (r:Result) (s':Shared):Prop :=
 match r with
 | .ok (.ret u)=>CE outer P w H s Q u s'
 | .ok _=>False
 | .error e=>CX outer H s E e s'
structure cj (P:Program) (w:World) (K:Frag) (mg:Str->Option Value) (base:Heap) (CX:CXT) (k:Nat) (f:Addr) (fd:FuncData) (ps:List Str) (sp:Sp):Prop where
 len:∀ vs H Q E,sp vs H Q E->vs.length = ps.length
 run:∀ (A:Around) (outer:List Env) (s:Shared) (H:Hp) (args:Args) (us:List Value) (vs:List V) (Q:VK) (E:XK),fW k A->K4 P w K mg base A outer s H->BindsTo s fd args (ps.zip us)->Vals vs us->sp vs H Q E ->
  codeAny (model P w) A (.call (.ref f) args) (CR CX outer P w H s Q E) s
theorem cj.imp {P:Program} {w:World} {K:Frag} {mg:Str->Option Value} {base:Heap} {CX:CXT} {k:Nat} {f:Addr} {fd:FuncData} {ps:List Str} {sp sp':Sp} (F:cj P w K mg base CX k f fd ps sp)
  (h:∀ vs H Q E,sp' vs H Q E->sp vs H Q E):cj P w K mg base CX k f fd ps sp' :=
 ⟨fun vs H Q E q=>F.len vs H Q E (h _ _ _ _ q),fun A outer s H args us vs Q E hr he hb hv hs=>F.run A outer s H args us vs Q E hr he hb hv (h _ _ _ _ hs)⟩
theorem K4.make {P:Program} {w:World} {K:Frag} {mg:Str->Option Value} {base:Heap} {A:Around} {outer:List Env} {s:Shared} {H:Hp} (e:K4 P w K mg base A outer s H) (C:Addr) (us:List Value) (kw:List (Str × Value)) :
  K4 P w K mg base (A.under (.builtin "type.__call__" ⟨.ref C :: us,kw⟩)) outer s H:=⟨by first | exact e.frames | (simpa [Around.under,Code.envs,Code.isFrame,pushEnvs] using e.frames),e.mod,e.bs,e.bsz,e.funs,e.frf,e.hok,e.bare⟩
section
variable {X:Cx} {pins:List (Addr × Obj)} {σ:St} {H:Hp} {s s':Shared}
theorem Inv.env0 (I:Inv X pins σ H s):K4 X.prog X.w X.K X.mg X.base X.A X.stack s H :=
 ⟨I.ok.frames,I.ok.mod,I.bs,aK I.ok.bsz I.sz,I.stack,I.stkFree,I.hok,I.bare⟩
theorem Inv.after {Q:VK} {u:Value} (I:Inv X pins σ H s) (h:CE X.stack X.prog X.w H s Q u s'):EP X pins σ Q u s':=by
 obtain ⟨v,H',os,bare,un,hok,r,q⟩:=h
 obtain ⟨hh,g,d,t,os'⟩:=s'
 obtain rfl:os' = s.os:=os
 exact ⟨v,H',I.call (h':=hh) (g':=g) (d':=d) (t':=t) (ch:=[]) un hok bare (fun b z=>absurd z (by simp)),r,q⟩
end
noncomputable def aaO (sp:Sp) (dvs:List V) (E:XK) (t:TA):TE:=fun σ H Q=>t σ H fun vs H1=>sp (vs ++ dvs) H1 Q E
noncomputable def acD (C:Addr) (m:Str) (sp:Sp) (dvs:List V) (E:XK) (ta:TE) (t:TA):TE:=fun σ H Q=>ta σ H fun x H1=>∃ a dx fs,x = .ref a/\H1 a = some (.ins C dx fs)/\fs.lookup m = none /\
 t σ H1 fun vs H2=>sp (x :: (vs ++ dvs)) H2 Q E
noncomputable def Binds (K:Frag) (fd:FuncData) (ps:List Str) (ds:List Value):Prop :=
 ∀ (s:Shared) (us:List Value),K.In s.heap->(us ++ ds).length = ps.length->BindsTo s fd ⟨us,[]⟩ (ps.zip (us ++ ds))
theorem Binds.all {K:Frag} {fd:FuncData} {ps:List Str} (h:∀ us:List Value,us.length = ps.length->bindArgs fd ⟨us,[]⟩ = pure (ps.zip us)):Binds K fd ps []:=fun s us _ hl=>by
 rw [List.append_nil] at hl ⊢
 exact .of_eq (h us hl)
noncomputable def Passes (CX:CXT) (X:Cx) (E:XK):Prop:=∀ (pins:List (Addr × Obj)) (σ:St) (H:Hp) (s:Shared) (e:Value) (s':Shared),Inv X pins σ H s->CX X.stack H s E e s'->X.xe e s'
section
variable {X:Cx} {CX:CXT} {k:Nat} {f C:Addr} {fd:FuncData} {ps:List Str} {sp:Sp} {dvs:List V} {ds:List Value} {E:XK} {x m:Str} {p pos apos:Pos} {e o:Expr} {es:List Expr} {ta:TE} {t:TA}
theorem Uy {pins:List (Addr × Obj)} {σ:St} {H:Hp} {s:Shared} {Q:VK} {us:List Value} {vs:List V} (F:cj X.prog X.w X.K X.mg X.base CX k f fd ps sp) (hr:fW k X.A) (hb:Binds X.K fd ps ds) (hd:Vals dvs ds) (hx:Passes CX X E)
  (I:Inv X pins σ H s) (r:Vals vs us) (h:sp (vs ++ dvs) H Q E):wpAny (model X.prog X.w) X.A (call (.ref f) us) (EP X pins σ Q) X.xe s:=by
 have r2:Vals (vs ++ dvs) (us ++ ds):=r.append hd
 have hl:(us ++ ds).length = ps.length:=by rw [<- r2.length]; exact F.len _ _ _ _ h
 refine wpAny_call (codeAny_mono (F.run X.A X.stack s H ⟨us,[]⟩ (us ++ ds) (vs ++ dvs) Q E hr I.env0 (hb s us I.kIn hl) r2 h) fun r s' hq=>?_)
 cases r with
 | error e=>exact hx pins σ H s e s' I hq
 | ok fl =>
  cases fl with
  | ret u=>exact I.after hq
  | next=>exact False.elim hq
  | brk=>exact False.elim hq
  | cont=>exact False.elim hq
theorem XD (F:cj X.prog X.w X.K X.mg X.base CX k f fd ps sp) (hr:fW k X.A) (hg:Gl X x) (hm:X.mg x = some (.ref f)) (hk:PySem.W.keepIn X.K (.ref f) = true) (hb:Binds X.K fd ps ds) (hd:Vals dvs ds) (hx:Passes CX X E)
  (ha:PA X (e :: es) t) (hdb:(x == ("__debug__" : Str)) = false:=by decide) (he:starEach (e :: es) X.env = (false,eval e X.env) :: starEach es X.env:=by rfl) (hpl:(backTo pos (starEach es X.env)).any (·.1) = false:=by rfl) :
  PE X (.Call (.Name x p) (e :: es) [] pos) (aaO sp dvs E t):=by
 intro pins s σ H Q I h
 refine wpAny_Call_Name_kw (lU I hg hm ?_ hdb)
 refine PySem.W.callWith_K (h₀:=X.base) I.ok.mod.kin hk (thn (ha pos pins s σ H _ I h) fun us s1 ⟨vs,H1,I1,r,q⟩=>⟨I1.kIn,?_⟩) he hpl
 exact Uy F hr hb hd hx I1 r q
theorem Rz {pl:Sem Bool} (he:PE X o ta) (c:Cls X.K C) (hm:Meth X.K C m f) (F:cj X.prog X.w X.K X.mg X.base CX k f fd ps sp) (hr:fW k X.A) (hb:Binds X.K fd ps ds) (hd:Vals dvs ds) (hx:Passes CX X E)
  (ht:eval (.Call (.Attribute o m apos) [] [] pos) X.env = (do
   let ov <- eval o X.env
   standAt apos.atName
   let (f,first) <- holding [ov] (getMethod ov m pl)
   callWith pos f first (backTo pos (starEach [] X.env)) (backToKw pos (keywordEach [] X.env))):=by rfl) :
  PE X (.Call (.Attribute o m apos) [] [] pos) (acD C m sp dvs E ta wX):=by
 intro pins s σ H Q I h
 refine PySem.W.methodCall_KW (pl:=pl) (thn (he pins s σ H _ I h) fun u s1 ⟨x,H1,I1,rx,a,dx,fs,ex,ea,l,q⟩=>?_) ht
 subst ex
 obtain rfl:u = Value.ref a:=rx
 refine Bh I1 ea c hm l ?_
 exact PySem.W.callWith_K0 (first:=[.ref a]) I1.kIn hm.kp (Uy (us:=[.ref a]) (vs:=[.ref a]) F hr hb hd hx I1 (.cons rfl .nil) q)
structure Mk (K:Frag) (C f:Addr):Prop where
 makes:PySem.W.makesIn K C = true
 init:PySem.W.findIn K (.ref C) "__init__" = some (some (.ref f))
 fn:PySem.W.isFn K (.ref f) = true
 kp:PySem.W.keepIn K (.ref C) = true
end
section
variable {X:Cx} {CX:CXT} {k:Nat} {f C:Addr} {fd:FuncData} {ps ks:List Str} {sp:Sp} {E:XK} {x m:Str} {p pos apos kpos:Pos} {e o:Expr} {es:List Expr} {kws:List Keyword} {te ta:TE} {t tk:TA} {nm:Option Str}
variable {g:List Value->List Value->List Value} {gV:List V->List V->List V}
end
structure bO (N P:List Str) (sc:Scope):Prop where
 kind:sc.kind = .function
 co:sc.isCoroutine = false
 gen:sc.isGenerator = false
 nd:N.Nodup
 pre:N.take P.length = P
 par:∀ x ∈ P,sc.names.lookup x = some .local\/sc.names.lookup x = some .cell
 nofree:∀ y ∈ sc.names,y.2 ≠ .free
theorem Dk {kindOf:Str->Option NameKind} {x:Str} : ∀ {binds:List (Str × Value)} {m:Str->Option Value},(∀ v,(x,v) ∉ binds)->bindL kindOf binds m x = m x
 | [],_,_=>rfl
 | (n,v) :: r,m,h=>by
  unfold bindL
  rw [Dk fun w hw=>h w (aG _ hw)]
  split
  .have:x ≠ n:=by rintro rfl; exact h v aM
   simp [this]
  .rfl
theorem Dh {kindOf:Str->Option NameKind} {x:Str} : ∀ {binds:List (Str × Value)} {m:Str->Option Value},(∀ v,(x,v) ∉ binds)->bindC kindOf binds m x = m x
 | [],_,_=>rfl
 | (n,v) :: r,m,h=>by
  unfold bindC
  rw [Dh fun w hw=>h w (aG _ hw)]
  split
  .rfl
  .have:x ≠ n:=by rintro rfl; exact h v aM
   simp [this]
theorem CV {kindOf:Str->Option NameKind} {x:Str} {v:Value} : ∀ {P:List Str} {vs:List Value} {i:Nat} {m:Str->Option Value},P.Nodup->P[i]? = some x->vs[i]? = some v->kindOf x = some .local ->
  bindL kindOf (P.zip vs) m x = some v
 | [],_,_,_,_,h,_,_=>by simp at h
 | _ :: _,[],_,_,_,_,h,_=>by simp at h
 | p :: P,w :: vs,0,m,nd,h1,h2,hk=>by
  simp at h1 h2; subst h1; subst h2
  show bindL kindOf ((p,w) :: P.zip vs) m p = _
  unfold bindL
  rw [Dk fun v hv=>(List.nodup_cons.mp nd).1 (List.of_mem_zip hv).1,if_pos hk]
  simp
 | p :: P,w :: vs,i + 1,m,nd,h1,h2,hk=>by
  show bindL kindOf ((p,w) :: P.zip vs) m x = _
  unfold bindL
  exact CV (i:=i) (List.nodup_cons.mp nd).2 (by simpa using h1) (by simpa using h2) hk
theorem Dl {kindOf:Str->Option NameKind} {x:Str} {v:Value} : ∀ {P:List Str} {vs:List Value} {i:Nat} {m:Str->Option Value},P.Nodup->P[i]? = some x->vs[i]? = some v->kindOf x ≠ some .local ->
  bindC kindOf (P.zip vs) m x = some v
 | [],_,_,_,_,h,_,_=>by simp at h
 | _ :: _,[],_,_,_,_,h,_=>by simp at h
 | p :: P,w :: vs,0,m,nd,h1,h2,hk=>by
  simp at h1 h2; subst h1; subst h2
  show bindC kindOf ((p,w) :: P.zip vs) m p = _
  unfold bindC
  rw [Dh fun v hv=>(List.nodup_cons.mp nd).1 (List.of_mem_zip hv).1,if_neg hk]
  simp
 | p :: P,w :: vs,i + 1,m,nd,h1,h2,hk=>by
  show bindC kindOf ((p,w) :: P.zip vs) m x = _
  unfold bindC
  exact Dl (i:=i) (List.nodup_cons.mp nd).2 (by simpa using h1) (by simpa using h2) hk
noncomputable def start (N:List Str) (vs:List V):St:=vs.map some ++ List.replicate (N.length - vs.length) none
noncomputable def A_ (CX:CXT) (P:Program) (w:World) (K:Frag) (mg:Str->Option Value) (base:Heap) (N:List Str) (qual:Str) (scope:Scope) (f:Addr) (cd:Value) (A:Around) (outer:List Env) (s:Shared) (H:Hp) (E:XK):Cx where
 prog:=P
 w:=w
 K:=K
 mg:=mg
 base:=base
 A:=A.deeper (envOfC qual scope s.heap.objs.size f cd)
 N:=N
 s₀:=s
 H₀:=H
 env:=envOfC qual scope s.heap.objs.size f cd
 outer:=outer
 stack:=envOfC qual scope s.heap.objs.size f cd :: outer
 ex:=[]
 calm:=true
 fn:=fun _=>true
 pn:=[]
 xe:=fun e s'=>wpAny (model P w) (A.deeper (envOfC qual scope s.heap.objs.size f cd)) (leaving (envOfC qual scope s.heap.objs.size f cd) e) (fun _ s''=>CX outer H s E e s'') (fun e' s''=>CX outer H s E e' s'') s'
theorem Jo {sc:Scope} {n:Nat} {x:Str} (h:sc.names.lookup x = some .cell):∃ c,(cellsFrom n sc.names []).lookup x = some c:=by
 have q:=PySem.W.cellsFrom_some sc.names n [] (.inl h)
 exact Option.isSome_iff_exists.mp q
theorem Pq {CX:CXT} {P:Program} {w:World} {K:Frag} {mg:Str->Option Value} {base:Heap} {N ps:List Str} {qual:Str} {scope:Scope} {f:Addr} {cd:Value} {A:Around} {outer:List Env} {s s1:Shared} {H:Hp} {E:XK} {us:List Value} {vs:List V}
  (S:bO N ps scope) (hd:A.handled = none) (e0:K4 P w K mg base A outer s H) (hl:vs.length = ps.length) (r:Vals vs us)
  (x:InCallC s s.heap.objs.size (bindL (envOfC qual scope s.heap.objs.size f cd).kindOf (ps.zip us) fun _=>none) (cellsFrom (s.heap.objs.size + 1) scope.names []) (bindC (envOfC qual scope s.heap.objs.size f cd).kindOf (ps.zip us) fun _=>none) s1) :
  Inv (A_ CX P w K mg base N qual scope f cd A outer s H E) [] (start N vs) H s1:=by
 have hpl:ps.length <= N.length:=by have:=congrArg List.length S.pre; rw [aY] at this; omega
 obtain ⟨h1,tk,rfl,hk⟩:=x.done
 have noA:∀ b:Addr,b ∉ (A_ CX P w K mg base N qual scope f cd A outer s H E).ex:=fun b z=>absurd (show b ∈ ([] : List Addr) from z) (by simp)
 refine ⟨⟨e0.mod,S.kind,rfl,rfl,aD _,fun y z c h1 h2=>?_,fun y hy=>?_,fun y c _ h=>?_,fun _=>hd,Around.frames_deeper e0.frames,.inr ⟨rfl,rfl⟩,fun b z=>absurd z (noA b),e0.bs,e0.bsz,fun b _ _=>noA b,fun b z=>absurd z (noA b),e0.funs,e0.frf⟩,
  rfl,e0.bare,Un.kept hk,⟨_,x.toInCall.ns,fun i y v h1 h2 h3=>?_⟩,fun y c h=>⟨_,x.cell y c h⟩,e0.hok.fresh (aD _),fun y c h=>?_,fun p hp=>absurd (show p ∈ ([] : List (Addr × Obj)) from hp) (by simp),e0.hok.kept hk,?_⟩
 .exact name_of_addr x.apart (PySem.mem_of_lookup h1) (PySem.mem_of_lookup h2)
 .have hy:scope.names.lookup y = some .cell\/scope.names.lookup y = some .free:=hy
  rcases hy with hy | hy
  .exact Jo hy
  .exact absurd rfl (S.nofree _ (PySem.mem_of_lookup hy))
 .exact Nat.le_of_lt (x.above y c (PySem.mem_of_lookup h))
 .have hi:i < vs.length:=by
   unfold start at h2
   by_cases hi:i < vs.length
   .exact hi
   .rw [aB (by simpa using hi)] at h2
    rw [List.getElem?_replicate] at h2
    split at h2 <;> cases h2
  have ha:vs[i]? = some v:=by
   unfold start at h2
   rw [aC (by simpa using hi),aq] at h2
   cases e:vs[i]? with
   | none=>rw [e] at h2; cases h2
   | some a=>rw [e] at h2; cases h2; rfl
  obtain ⟨u,hu,rv⟩:=r.get ha
  have hp:ps[i]? = some y:=by
   rw [<- S.pre,List.getElem?_take_of_lt (by omega)]; exact h1
  have ndP:ps.Nodup:=by rw [<- S.pre]; exact S.nd.sublist (List.take_sublist _ _)
  refine ⟨u,rv,?_⟩
  rcases S.par y (aA hp) with k | k
  .exact .inl ⟨k,CV ndP hp hu k⟩
  .obtain ⟨c,e⟩:=Jo (n:=s.heap.objs.size + 1) k
   refine .inr ⟨.inl k,c,e,?_⟩
   have q:=x.cell y c e
   rw [Dl ndP hp hu (by show scope.names.lookup y ≠ _; rw [k]; decide)] at q
   exact q
 .exact e0.hok.fresh (Nat.le_of_lt (x.above y c (PySem.mem_of_lookup h)))
 .unfold start
  show _ = N.length
  rw [au,ak,aL]
  omega
theorem Yt {CX:CXT} {P:Program} {w:World} {K:Frag} {mg:Str->Option Value} {base:Heap} {k:Nat} {f:Addr} {name qual:Str} {params:Arguments} {body:List Stmt} {scope:Scope} {dV kV doc pm cdv ct oc:Value} {an od:Option Addr}
  {osl:Array (Option Value)} {N ps:List Str} {sp:Sp} (lk:K.lookup f = some ⟨oc,od,.func (PySem.W.fnOf name qual params body scope dV kV doc pm an cdv ct),osl⟩) (hcd:PySem.W.codeIn K cdv qual = true) (S:bO N ps scope)
  (len:∀ vs H Q E,sp vs H Q E->vs.length = ps.length)
  (hbody:∀ (A:Around) (outer:List Env) (s:Shared) (H:Hp) (vs:List V) (Q:VK) (E:XK),fW k (A.deeper (envOfC qual scope s.heap.objs.size f cdv))->sp vs H Q E ->
   ∃ t,PSs (A_ CX P w K mg base N qual scope f cdv A outer s H E) body t/\t { nx:=fun _ H'=>Q .non H',rt:=Q } (start N vs) H) :
  cj P w K mg base CX (k + 1) f (PySem.W.fnOf name qual params body scope dV kV doc pm an cdv ct) ps sp:=by
 refine ⟨len,fun A outer s H args us vs Q E hr e0 hb r hsp=>?_⟩
 have hl:=len _ _ _ _ hsp
 have KX:K.In s.heap:=e0.mod.kin.keeps fun b o e=>(e0.bs b o e).1
 have lim:s.heap.NoLimit:=e0.mod.nolimit.keeps fun b o e=>(e0.bs b o e).1
 have hkind:∀ y ∈ ps.zip us,scope.names.lookup y.1 = some .local\/(scope.names.lookup y.1 = some .cell/\((cellsFrom (s.heap.objs.size + 1) scope.names []).lookup y.1).isSome = true):=fun ⟨n,v⟩ hy=>by
  rcases S.par n (List.of_mem_zip hy).1 with q | q
  .exact .inl q
  .exact .inr ⟨q,PySem.W.cellsFrom_some _ _ _ (.inl q)⟩
 refine codeAny_call_function hr.depth (KX _ _ lk) rfl S.co S.gen rfl (PySem.W.codeRec_of KX hcd) (hb _ _ _ _ ?_)
 refine wpAny_newFunctionEnv_cells S.kind hkind fun env he s1 x=>?_
 subst he
 refine ⟨lim.keeps x.toInCall.keep,codeAny_func ?_⟩
 obtain ⟨t,ht,hq⟩:=hbody A outer s H vs Q E (hr.deeper _) hsp
 have I:Inv (A_ CX P w K mg base N qual scope f cdv A outer s H E) [] (start N vs) H s1:=Pq S hr.hd e0 hl r x
 refine wpAny_mono (ht [] s1 (start N vs) H _ I hq) (fun fl s' hs=>?_) fun e s' hs=>hs
 have fin:∀ {σ':St} {H':Hp} {v:V} {u:Value},Inv (A_ CX P w K mg base N qual scope f cdv A outer s H E) [] σ' H' s'->RelV v u->Q v H'->CE outer P w H s Q u s' :=
  fun {σ' H' v u} J rv q=>⟨v,H',J.os,J.bare,J.base,J.hok,rv,q⟩
 cases fl with
 | ret u =>
  obtain ⟨v,σ',H',J,rv,q⟩:=hs
  exact fin J rv q
 | next =>
  obtain ⟨σ',H',J,q⟩:=hs
  exact fin (v:=V.non) (u:=Value.none) J rfl q
 | brk =>
  obtain ⟨_,_,_,q⟩:=hs
  exact False.elim q
 | cont =>
  obtain ⟨_,_,_,q⟩:=hs
  exact False.elim q
end L2
namespace L2
open PySem PySem.Spec PyProof.Rows
section
variable {X:Cx} {x:Str} {p pos:Pos} {e:Expr} {es:List Expr} {t:TA} {id T:String} {r:List V->Hp->VK->Prop}
noncomputable def tCB (r:List V->Hp->VK->Prop) (t:TA):TE:=fun σ H Q=>t σ H fun vs H1=>r vs H1 Q
theorem bR (hc:eG X (.builtin id) r) (hg:Gl X x) (hm:X.mg x = none) (hv:bootBuiltins x = some (.builtin id)) (ha:PA X (e :: es) t) (hn:x ≠ "__name__" := by decide) (hdb:(x == ("__debug__" : Str)) = false:=by decide)
  (he:starEach (e :: es) X.env = (false,eval e X.env) :: starEach es X.env:=by rfl) (hpl:(backTo pos (starEach es X.env)).any (·.1) = false:=by rfl):PE X (.Call (.Name x p) (e :: es) [] pos) (tCB r t):=by
 intro pins s σ H Q I h
 refine wpAny_Call_Name_kw (yX I hg hm hv ?_ hn hdb)
 exact PyProof.Rows.callWith_builtin1 (thn (ha pos pins s σ H _ I h) fun us s1 ⟨vs,H1,I1,r1,q1⟩=>hc pins s1 σ H1 vs us Q I1 r1 q1) he hpl
theorem n8 (hc:eG X (.type T) r) (hg:Gl X x) (hm:X.mg x = none) (hv:bootBuiltins x = some (.type T)) (ha:PA X (e :: es) t) (hn:x ≠ "__name__" := by decide) (hdb:(x == ("__debug__" : Str)) = false:=by decide)
  (he:starEach (e :: es) X.env = (false,eval e X.env) :: starEach es X.env:=by rfl) (hpl:(backTo pos (starEach es X.env)).any (·.1) = false:=by rfl):PE X (.Call (.Name x p) (e :: es) [] pos) (tCB r t):=by
 intro pins s σ H Q I h
 refine wpAny_Call_Name_kw (yX I hg hm hv ?_ hn hdb)
 exact PyProof.Rows.callWith_type1 (thn (ha pos pins s σ H _ I h) fun us s1 ⟨vs,H1,I1,r1,q1⟩=>hc pins s1 σ H1 vs us Q I1 r1 q1) he hpl
end
end L2
namespace HT
open PySem PyProof.Rows
section
open PySem.SeqAt
open PySem.AutoSeq1 (wpAny_loadPart')
open PySem.MeetsSeq PySem.MeetsSeq2 PySem.MeetsSeq3
end
section
variable {prog:Program} {w:World} {A:Around} {E:Value->Shared->Prop} {s:Shared}
noncomputable def sIx (n d:Nat):Option Int->Nat
 | none=>d
 | some v=>if v < 0 then (v + (n:Int)).toNat else min v.toNat n
theorem pC (n d k:Nat):sIx n d (some (k:Int)) = min k n:=by
 show (if (k:Int) < 0 then ((k:Int) + (n:Int)).toNat else min (k:Int).toNat n) = min k n
 rw [if_neg (by omega),Int.toNat_natCast]
theorem Z2 (n d:Nat) (hd:d <= n) (o:Option Int):sIx n d o <= n:=by
 cases o with
 | none=>exact hd
 | some v =>
  show (if v < 0 then (v + (n:Int)).toNat else min v.toNat n) <= n
  by_cases hv:v < 0
  .rw [if_pos hv]; omega
  .rw [if_neg hv]; exact Nat.min_le_right _ _
end
end HT
namespace L2
open PySem PySem.Spec PyProof.Rows
noncomputable abbrev TO:=St->Hp->(Option Int->Hp->Prop)->Prop
noncomputable def PO (X:Cx) (e:Option Expr) (t:TO):Prop :=
 ∀ (pins:List (Addr × Obj)) (s:Shared) (σ:St) (H:Hp) (Q:Option Int->Hp->Prop),Inv X pins σ H s->t σ H Q ->
  wpAny (model X.prog X.w) X.A (evalPart e X.env) (fun u s'=>∃ o H',Inv X pins σ H' s'/\IsPart u o/\Q o H') X.xe s
noncomputable def yL:TO:=fun _ H Q=>Q none H
noncomputable def Od (t:TE):TO:=fun σ H Q=>t σ H fun x H1=>∃ i,x = .int i/\Q (some i) H1
theorem intsAre_of {ns:List Int} : ∀ {us:List Value},Vals (ns.map V.int) us->IntsAre us ns:=by
 induction ns with
 | nil=>intro us r; rw [List.map_nil] at r; cases r; exact .nil
 | cons n ns ih =>
  intro us r
  rw [List.map_cons] at r
  cases r with
  | cons r1 r2 =>
   obtain ⟨t,e⟩:=r1
   subst e
   exact .cons n t (ih r2)
section
variable {X:Cx} {e:Expr} {te:TE} {lo hi:Option Expr} {tl th:TO} {pos p2:Pos}
theorem DP:PO X none yL:=by
 intro pins s σ H Q I h
 rw [evalPart_none]
 exact wpAny_pure ⟨none,H,I,.none,h⟩
theorem iB (h:PE X e te):PO X (some e) (Od te):=by
 intro pins s σ H Q I hw
 rw [evalPart_some]
 refine thn (h pins s σ H _ I hw) fun u s1 ⟨x,H1,I1,r1,q1⟩=>?_
 obtain ⟨i,rfl,q⟩:=q1
 obtain ⟨t,rfl⟩:=r1
 exact ⟨some i,H1,I1,.int i t,q⟩
noncomputable def SlR (X:Cx) (r:V->Option Int->Option Int->Hp->VK->Prop):Prop :=
 ∀ (pins:List (Addr × Obj)) (s:Shared) (σ:St) (H:Hp) (x:V) (v vl vu:Value) (lo hi:Option Int) (sl:Addr) (Q:VK),Inv X pins σ H s->RelV x v->s.heap.IsSliceOf sl vl vu .none->IsPart vl lo->IsPart vu hi->r x lo hi H Q ->
  ∃ T id,typeLookup (.type T) "__getitem__" = pure (some (.builtin id))/\s.TypeIs v T/\wpAny (model X.prog X.w) X.A (getItem v (.ref sl)) (EP X pins σ Q) X.xe s
noncomputable def tSl (r:V->Option Int->Option Int->Hp->VK->Prop) (te:TE) (tl th:TO):TE:=fun σ H Q=>te σ H fun x H1=>tl σ H1 fun l H2=>th σ H2 fun u H3=>r x l u H3 Q
theorem kZ {r:V->Option Int->Option Int->Hp->VK->Prop} (hr:SlR X r) (he:PE X e te) (hl:PO X lo tl) (hu:PO X hi th):PE X (.Subscript e (.Slice lo hi none p2) pos) (tSl r te tl th):=by
 intro pins s σ H Q I h
 refine Subscript_ (thn (he pins s σ H _ I h) fun v s1 ⟨x,H1,I1,r1,q1⟩=>?_)
 refine wpAny_Slice (thn (hl pins s1 σ H1 _ I1 q1) fun vl s2 ⟨l,H2,I2,pl,q2⟩=>thn (hu pins s2 σ H2 _ I2 q2) fun vu s3 ⟨u,H3,I3,pu,q3⟩=>?_)
 rw [evalPart_none]
 refine wpAny_pure ?_
 have I4:Inv X pins σ H3 { s3 with heap:=s3.heap.push { cls:=.type "slice",data:=.fields #[vl,vu,.none] } }:=I3.kept (t':=s3.toks) fun b ob q=>aF _ q
 obtain ⟨T,id,hT,ht,hg⟩:=hr pins { s3 with heap:=s3.heap.push { cls:=.type "slice",data:=.fields #[vl,vu,.none] } } σ H3 x v vl vu l u s3.heap.objs.size Q I4 r1 (Heap.IsSliceOf.new ..) pl pu q3
 show wpAny (model X.prog X.w) X.A (subscriptTail e (.Slice lo hi none p2) v (.ref s3.heap.objs.size)) (EP X pins σ Q) X.xe { s3 with heap:=s3.heap.push { cls:=.type "slice",data:=.fields #[vl,vu,.none] } }
 exact tail_any (ops:=[.ref s3.heap.objs.size,v]) ht hT hg (by with_unfolding_all rfl)
noncomputable def qY (xs:List V) (lo hi:Option Int):List V:=(xs.drop (HT.sIx xs.length 0 lo)).take (HT.sIx xs.length xs.length hi - HT.sIx xs.length 0 lo)
theorem xW (xs:List V) (lo hi:Option Int):(qY xs lo hi).length <= xs.length:=by
 unfold qY
 rw [aY,List.length_drop]
 omega
end
end L2
namespace L2
open PySem PySem.Spec PyProof.Rows
noncomputable def ixN (n:Nat) (i:Int):Option Nat:=if 0 <= i then (if i < n then some i.toNat else none) else if -(n:Int) <= i then some (i + n).toNat else none
noncomputable def atI {α:Type} (xs:List α) (i:Int):Option α:=(ixN xs.length i).bind fun j=>xs[j]?
theorem Mp {n:Nat} {i:Int} {j:Nat} (h:ixN n i = some j):seqIndex? i n = some j/\j < n/\-(n:Int) <= i/\i < n:=by
 unfold ixN at h
 by_cases h0:0 <= i
 .rw [if_pos h0] at h
  by_cases h1:i < n
  .rw [if_pos h1] at h
   have e:i.toNat = j:=Option.some.inj h
   exact ⟨by rw [seqIndex_of h0 h1,e],by omega,by omega,h1⟩
  .rw [if_neg h1] at h; cases h
 .rw [if_neg h0] at h
  by_cases h1 : -(n:Int) <= i
  .rw [if_pos h1] at h
   have e:(i + n).toNat = j:=Option.some.inj h
   exact ⟨by rw [seqIndex_neg (by omega) h1,e],by omega,h1,by omega⟩
  .rw [if_neg h1] at h; cases h
theorem Ey {α:Type} {xs:List α} {i:Int} {v:α} (h:atI xs i = some v):∃ j,seqIndex? i xs.length = some j/\xs[j]? = some v/\j < xs.length/\-(xs.length:Int) <= i/\i < xs.length:=by
 unfold atI at h
 cases e:ixN xs.length i with
 | none=>rw [e] at h; cases h
 | some j =>
  rw [e] at h
  obtain ⟨h1,h2,h3,h4⟩:=Mp e
  exact ⟨j,h1,h,h2,h3,h4⟩
theorem bY {α:Type} {xs:List α} {j:Nat} {v:α} (h:xs[j]? = some v):atI xs (j:Int) = some v:=by
 have hj:j < xs.length:=(ao.mp h).1
 have e:ixN xs.length (j:Int) = some j:=by
  unfold ixN
  rw [if_pos (by omega),if_pos (by omega)]; simp
 unfold atI; rw [e]; exact h
noncomputable def M_ (b:Expr):Prop:=∀ o i,subscripted b false o i = operate [o,i] (getItem o i)
noncomputable def IxR (X:Cx) (r:R2):Prop :=
 ∀ (value slice:Expr) (pins:List (Addr × Obj)) (s:Shared) (σ:St) (H:Hp) (x y:V) (v u:Value) (Q:VK),Inv X pins σ H s->RelV x v->RelV y u->r x y H Q ->
  subscripted slice false v u = operate [v,u] (getItem v u)->wpAny (model X.prog X.w) X.A (subscriptTail value slice v u) (EP X pins σ Q) X.xe s
noncomputable def MtR (X:Cx) (id:String) (r:V->List V->Hp->VK->Prop):Prop :=
 ∀ (pins:List (Addr × Obj)) (s:Shared) (σ:St) (H:Hp) (x:V) (xs:List V) (v:Value) (us:List Value) (Q:VK),Inv X pins σ H s->RelV x v->Vals xs us->r x xs H Q ->
  wpAny (model X.prog X.w) X.A (call (.builtin id) (v :: us)) (EP X pins σ Q) X.xe s
section
variable {X:Cx} {a b:Expr} {ta tb:TE} {pos:Pos}
theorem bM {r:R2} (hr:IxR X r) (ha:PE X a ta) (hb:PE X b tb) (hs:M_ b):PE X (.Subscript a b pos) (tOp r ta tb):=by
 intro pins s σ H Q I h
 exact Subscript_ (aah ha hb I h fun v u s2 x y H2 I2 rx ry q=>hr a b pins s2 σ H2 x y v u Q I2 rx ry q (hs _ _))
noncomputable def Xc (K:Frag):R2:=fun x y H Q=>∃ p xs i v,x = .ref p/\y = .int i/\SqL K H p xs/\atI xs i = some v/\Q v H
noncomputable def Jx (K:Frag):R2:=fun x y H Q=>∃ p xs i v,x = .ref p/\y = .int i/\SqT K H p xs/\atI xs i = some v/\Q v H
noncomputable def Yq:R2:=fun x y H Q=>∃ z i c,x = .str z/\y = .int i/\z.length <= sizeLine/\atI z.cps.toList i = some c/\Q (.str ⟨#[c]⟩) H
theorem W3:IxR X (Xc X.K):=by
 intro value slice pins s σ H x y v u Q I rx ry h hs
 obtain ⟨p,xs,i,z,rfl,rfl,hq,he,q⟩:=h
 cases rx
 obtain ⟨t,rfl⟩:=ry
 obtain ⟨its,r,pl,hz⟩:=I.list hq
 obtain ⟨j,h1,h2,h3,h4,h5⟩:=Ey he
 obtain ⟨w,ew,rw'⟩:=r.get h2
 have hl:=r.length
 have hn:=qb
 have fin:EP X pins σ Q w s:=⟨z,H,I,rw',q⟩
 by_cases h0:0 <= i
 .have hj:i.toNat = j:=by
   rw [seqIndex_of h0 h5] at h1
   exact Option.some.inj h1
  exact item_listR pl.isList h0 (by omega) (by rw [hj]; simpa using ew) fin hs
 .have hj:(i + (its.toArray.size:Int)).toNat = j:=by
   rw [seqIndex_neg (by omega) h4] at h1
   rw [aX,<- hl]
   exact Option.some.inj h1
  exact subscriptTail_builtinR (x:=w) pl.isList.typeIs slot_list_getitem.lookup
   (wpAny_getItem_list_neg (Q:=fun r s'=>r = w/\EP X pins σ Q r s') pl.isList (by omega) (by rw [aX] <;> omega) (by omega) (by rw [hj]; simpa using ew) ⟨rfl,fin⟩) hs
theorem d7:IxR X (Jx X.K):=by
 intro value slice pins s σ H x y v u Q I rx ry h hs
 obtain ⟨p,xs,i,z,rfl,rfl,hq,he,q⟩:=h
 cases rx
 obtain ⟨t,rfl⟩:=ry
 obtain ⟨its,r,pl,hz⟩:=I.tuple hq
 obtain ⟨j,h1,h2,h3,h4,h5⟩:=Ey he
 obtain ⟨w,ew,rw'⟩:=r.get h2
 have hl:=r.length
 have hn:=qb
 have fin:EP X pins σ Q w s:=⟨z,H,I,rw',q⟩
 exact subscriptTail_builtinR (x:=w) pl.typeIs slot_tuple_getitem.lookup
  (getItem_tuple (j:=j) (Q:=fun r s'=>r = w/\EP X pins σ Q r s') pl (by omega) (by omega) (by rw [aX,<- hl]; exact h1) (by simpa using ew) ⟨rfl,fin⟩) hs
theorem Kq:IxR X Yq:=by
 intro value slice pins s σ H x y v u Q I rx ry h hs
 obtain ⟨z,i,c,rfl,rfl,hz,he,q⟩:=h
 obtain ⟨t,rfl⟩:=rx
 obtain ⟨t',rfl⟩:=ry
 obtain ⟨j,h1,h2,h3,h4,h5⟩:=Ey he
 have hl:z.cps.toList.length = z.length:=by simp [Str.length]
 rw [hl] at h1 h4 h5
 have hn:=qb
 exact tail_any (typeIs_str s z t) slot_str_getitem.lookup (getItem_str (c:=c) (by
  have e1:decide (i < -(2 ^ 63:Int)) = false:=decide_eq_false (by omega)
  have e2:decide (i >= 2 ^ 63) = false:=decide_eq_false (by omega)
  rw [e1,e2,Bool.or_false]) (by rw [h1]; simpa using h2) ⟨.str ⟨#[c]⟩,H,I.tok _,⟨_,rfl⟩,q⟩) hs
theorem KY (its:List Value) (n j:Nat) (u:Value):Obj.mapSeq (·.setIfInBounds j u) { cls:=.type "list",data:=.seq its.toArray n } = { cls:=.type "list",data:=.seq (its.set j u).toArray n }:=by
 simp [Obj.mapSeq]
theorem Inv.lst {pins:List (Addr × Obj)} {σ:St} {H:Hp} {s:Shared} {p:Addr} {xs:List V} (I:Inv X pins σ H s) (h:H p = some (.lst xs)) :
  ∃ (its:List Value) (n:Nat),Vals xs its/\s.heap.get? p = some { cls:=.type "list",data:=.seq its.toArray n }/\xs.length <= sizeLine:=by
 obtain ⟨z,its,n,r,e⟩:=I.hok p _ h
 exact ⟨its,n,r,e,z⟩
theorem Inv.lstUpd {pins:List (Addr × Obj)} {σ:St} {H:Hp} {s:Shared} {p:Addr} {xs ys:List V} {its its':List Value} {n n':Nat} {f:Obj->Obj} (I:Inv X pins σ H s) (h:H p = some (.lst xs))
  (ho:s.heap.get? p = some { cls:=.type "list",data:=.seq its.toArray n }) (hf:f { cls:=.type "list",data:=.seq its.toArray n } = { cls:=.type "list",data:=.seq its'.toArray n' }) (r:Vals ys its') (hz:ys.length <= sizeLine) (t:Nat) :
  Inv X pins σ (upd H p (.lst ys)) { s with heap:=s.heap.update p f,toks:=t }:=by
 have e:(s.heap.update p f).get? p = some { cls:=.type "list",data:=.seq its'.toArray n' }:=by
  rw [Heap.get?_update_self f ho (by rw [hf] <;> rfl),hf]
 refine I.write (x:=p) (e:=p) (by rw [h]; trivial) (.inl rfl) (fun b u hb q=>(Heap.get?_update_other _ _ (Ne.symm hb)).trans q) ⟨_,e⟩ ?_
 exact ⟨hz,its',n',r,e⟩
noncomputable def Np:V->V->V->Hp->(Hp->Prop)->Prop:=fun o i v H Q=>∃ p xs k j,o = .ref p/\i = .int k/\H p = some (.lst xs)/\ixN xs.length k = some j/\Q (upd H p (.lst (xs.set j v)))
theorem set_list:acP X Np:=by
 intro pins s σ H o i v ov iv u Q I ro ri rv h
 obtain ⟨p,xs,k,j,rfl,rfl,hp,hj,q⟩:=h
 cases ro
 obtain ⟨t,rfl⟩:=ri
 obtain ⟨its,n,r,ho,hz⟩:=I.lst hp
 obtain ⟨h1,h2,h3,h4⟩:=Mp hj
 have hl:=r.length
 have hn:=qb
 have I':Inv X pins σ (upd H p (.lst (xs.set j v))) { s with heap:=s.heap.update p (Obj.mapSeq (·.setIfInBounds j u)) } :=
  I.lstUpd hp ho (KY its n j u) (r.set rv j) (by rw [List.length_set]; exact hz) s.toks
 by_cases h0:0 <= k
 .have hk:k.toNat = j:=by
   rw [seqIndex_of h0 h4] at h1
   exact Option.some.inj h1
  exact PySem.W.ki_setAt ho h0 (by omega) (by rw [aX,<- hl]; exact h4) (by rw [hk]; exact ⟨_,I',q⟩)
 .have hk:(k + (its.toArray.size:Int)).toNat = j:=by
   rw [seqIndex_neg (by omega) h3] at h1
   rw [aX,<- hl]
   exact Option.some.inj h1
  exact PySem.W.ki_setBack ho (by omega) (by rw [aX,<- hl]; exact h3) (by omega) (by rw [hk]; exact ⟨_,I',q⟩)
theorem FZ (lo hi:Option Int) (n:Nat):(sliceBounds lo hi none n).1 = ((HT.sIx n 0 lo:Nat):Int)/\(sliceBounds lo hi none n).2.1 = ((HT.sIx n n hi:Nat):Int)/\(sliceBounds lo hi none n).2.2 = 1:=by
 refine ⟨?_,?_,rfl⟩
 .cases lo with
  | none=>simp [sliceBounds,HT.sIx]
  | some i =>
   simp only [sliceBounds,HT.sIx,Option.getD_none,show (1:Int) > 0 by decide,if_true]
   by_cases h:i < 0
   .simp only [h,if_true] <;> omega
   .simp only [h,if_false] <;> omega
 .cases hi with
  | none=>simp [sliceBounds,HT.sIx]
  | some i =>
   simp only [sliceBounds,HT.sIx,Option.getD_none,show (1:Int) > 0 by decide,if_true]
   by_cases h:i < 0
   .simp only [h,if_true] <;> omega
   .simp only [h,if_false] <;> omega
theorem Ca (its:List Value) (lo hi:Option Int):slicePick its.toArray lo hi none = ((its.drop (HT.sIx its.length 0 lo)).take (HT.sIx its.length its.length hi - HT.sIx its.length 0 lo)).toArray:=by
 obtain ⟨h1,h2,h3⟩:=FZ lo hi its.toArray.size
 unfold slicePick
 rw [h1,h2,h3]
 simp only [sliceRange_one,pick_run,aX] <;> rfl
noncomputable def WT (K:Frag):V->Option Int->Option Int->Hp->VK->Prop:=fun x lo hi H Q=>∃ a xs,x = .ref a/\SqL K H a xs/\∀ p,H p = none->Q (.ref p) (upd H p (.lst (qY xs lo hi)))
theorem sJ:SlR X (WT X.K):=by
 intro pins s σ H x v vl vu lo hi sl Q I rx hs pl pu h
 obtain ⟨a,xs,rfl,hx,q⟩:=h
 cases rx
 obtain ⟨its,r,ht,hz⟩:=I.list hx
 have hlen:=r.length
 refine ⟨"list",_,slot_list_getitem.lookup,ht.isList.typeIs,?_⟩
 refine wpAny_getItem_list_slice ht.isList hs pl pu .none (by simp) ?_ (by rw [aX] <;> omega)
 rw [Ca,<- hlen]
 refine ⟨.ref s.heap.objs.size,_,I.laid (t':=s.toks) (o:=.lst (qY xs lo hi)) (fun b ob q=>aF _ q) (aD _) ?_,rfl,q _ (I.hok.fresh (aD _))⟩
 exact ⟨aK (xW xs lo hi) hz,_,0,(r.drop (HT.sIx xs.length 0 lo)).take (HT.sIx xs.length xs.length hi - HT.sIx xs.length 0 lo),aW _ rfl⟩
noncomputable def m8:V->Bool
 | .non=>true
 | .bl _=>true
 | .int _=>true
 | .str _=>true
 | _=>false
noncomputable def eqV:V->V->Bool
 | .non,.non=>true
 | .bl a,.bl b=>a == b
 | .bl a,.int b=>(if a then 1 else 0) == b
 | .int a,.bl b=>a == (if b then 1 else 0)
 | .int a,.int b=>a == b
 | .str a,.str b=>a == b
 | _,_=>false
theorem YJ {A:Around} {s:Shared} {y x:V} {u v:Value} (ry:RelV y u) (rx:RelV x v) (fy:m8 y = true) (fx:m8 x = true):SeqAt.EqAt A s u v (eqV y x):=by
 cases y with
 | non =>
  cases ry
  cases x with
  | non=>cases rx; exact SeqAt.EqAt.same _
  | bl b=>cases rx; exact SeqAt.EqAt.none_bool b
  | int b=>obtain ⟨t,rfl⟩:=rx; exact SeqAt.EqAt.none_int b t
  | str b=>obtain ⟨t,rfl⟩:=rx; exact SeqAt.EqAt.none_str b t
  | _=>exact absurd (show false = true from fx) bh
 | bl a =>
  cases ry
  cases x with
  | non=>cases rx; exact SeqAt.EqAt.bool_none a
  | bl b=>cases rx; exact SeqAt.EqAt.bool_bool a b
  | int b=>obtain ⟨t,rfl⟩:=rx; exact SeqAt.EqAt.bool_int a b t
  | str b=>obtain ⟨t,rfl⟩:=rx; exact SeqAt.EqAt.bool_str a b t
  | _=>exact absurd (show false = true from fx) bh
 | int a =>
  obtain ⟨t',rfl⟩:=ry
  cases x with
  | non=>cases rx; exact SeqAt.EqAt.int_none a t'
  | bl b=>cases rx; exact SeqAt.EqAt.int_bool a t' b
  | int b=>obtain ⟨t,rfl⟩:=rx; exact SeqAt.EqAt.int_int a t' b t
  | str b=>obtain ⟨t,rfl⟩:=rx; exact SeqAt.EqAt.int_str a t' b t
  | _=>exact absurd (show false = true from fx) bh
 | str a =>
  obtain ⟨t',rfl⟩:=ry
  cases x with
  | non=>cases rx; exact SeqAt.EqAt.str_none a t'
  | bl b=>cases rx; exact SeqAt.EqAt.str_bool a t' b
  | int b=>obtain ⟨t,rfl⟩:=rx; exact SeqAt.EqAt.str_int a t' b t
  | str b=>obtain ⟨t,rfl⟩:=rx; exact SeqAt.EqAt.str_str a t' b t
  | _=>exact absurd (show false = true from fx) bh
 | _=>exact absurd (show false = true from fy) bh
noncomputable def eqU (x:V) (u:Value):Bool:=match u with
 | .none=>eqV .non x
 | .bool b=>eqV (.bl b) x
 | .int i _=>eqV (.int i) x
 | .str z _=>eqV (.str z) x
 | _=>false
theorem UJ {x y:V} {u:Value} (r:RelV y u) (f:m8 y = true):eqU x u = eqV y x:=by
 cases y with
 | non=>cases r; rfl
 | bl b=>cases r; rfl
 | int i=>obtain ⟨t,rfl⟩:=r; rfl
 | str z=>obtain ⟨t,rfl⟩:=r; rfl
 | _=>exact absurd (show false = true from f) bh
theorem G8 {x:V} : ∀ {xs:List V} {us:List Value},Vals xs us->xs.all m8 = true->us.any (eqU x) = xs.any fun y=>eqV y x
 | _,_,.nil,_=>rfl
 | y :: xs,u :: us,.cons r t,f=>by
  rw [List.all_cons,Bool.and_eq_true] at f
  rw [List.any_cons,List.any_cons,UJ r f.1,G8 t f.2]
theorem Bf {A:Around} {s:Shared} {x:V} {v:Value} (rx:RelV x v) (fx:m8 x = true):∀ {xs:List V} {us:List Value},Vals xs us->xs.all m8 = true->∀ u ∈ us,SeqAt.EqAt A s u v (eqU x u)
 | _,_,.nil,_=>fun u hu=>by cases hu
 | y :: xs,u :: us,.cons r t,f=>fun u' hu=>by
  rw [List.all_cons,Bool.and_eq_true] at f
  rcases List.mem_cons.mp hu with rfl | hu
  .rw [UJ r f.1]; exact YJ r rx f.1 fx
  .exact Bf rx fx t f.2 u' hu
noncomputable def inV (x:V) (xs:List V):Bool:=xs.any fun y=>eqV y x
noncomputable def rIn (K:Frag) (neg:Bool):R2:=fun x y H Q=>∃ p xs,y = .ref p/\(SqL K H p xs\/SqT K H p xs)/\m8 x = true/\xs.all m8 = true/\Q (.bl (if neg then !inV x xs else inV x xs)) H
theorem Qd:OpR X (compareOp .In) (rIn X.K false):=by
 intro pins s σ H x y v u Q I rx ry h
 obtain ⟨p,xs,rfl,hq,fx,fs,q⟩:=h
 cases ry
 rcases hq with hq | hq
 .obtain ⟨its,r,pl,hz⟩:=I.list hq
  refine SeqAt.in_listAt (eqU x) pl.isList (fun w hw=>Bf rx fx r fs w (by simpa using hw)) ⟨.bl _,H,I,rfl,?_⟩
  rw [show its.toArray.any (eqU x) = its.any (eqU x) by simp,G8 r fs]
  exact q
 .obtain ⟨its,r,pl,hz⟩:=I.tuple hq
  refine SeqAt.in_tupleAt (eqU x) pl (fun w hw=>Bf rx fx r fs w (by simpa using hw)) ⟨.bl _,H,I,rfl,?_⟩
  rw [show its.toArray.any (eqU x) = its.any (eqU x) by simp,G8 r fs]
  exact q
theorem oU:eG X (.builtin "len") (fun xs H Q=>∃ p ys,xs = [.ref p]/\(SqL X.K H p ys\/SqT X.K H p ys)/\Q (.int ys.length) H):=by
 intro pins s σ H xs us Q I r h
 obtain ⟨p,ys,rfl,hq,q⟩:=h
 obtain ⟨u,rfl,rx⟩:=vals1 r
 cases rx
 have hn:=qb
 rcases hq with hq | hq
 .obtain ⟨its,r',pl,hz⟩:=I.list hq
  have hlen:=r'.length
  exact Calls.call_len_list pl.isList (by simp only [aX] <;> omega) ⟨.int ys.length,H,I.tok _,⟨s.toks + 1,by rw [aX,hlen]⟩,q⟩
 .obtain ⟨its,r',pl,hz⟩:=I.tuple hq
  have hlen:=r'.length
  exact len_tuple pl (by simp only [aX] <;> omega) ⟨.int ys.length,H,I.tok _,⟨s.toks + 1,by rw [aX,hlen]⟩,q⟩
theorem Ed:eG X (.builtin "len") (fun xs H Q=>∃ z,xs = [.str z]/\z.length <= sizeLine/\Q (.int z.length) H):=by
 intro pins s σ H xs us Q I r h
 obtain ⟨z,rfl,hz,q⟩:=h
 obtain ⟨u,rfl,t,rfl⟩:=vals1 r
 have hn:=qb
 exact len_str (by omega) ⟨.int z.length,H,I.tok _,⟨_,rfl⟩,q⟩
theorem eG.or {f:Value} {r r':List V->Hp->VK->Prop} (h:eG X f r) (h':eG X f r'):eG X f (fun xs H Q=>r xs H Q\/r' xs H Q):=by
 intro pins s σ H xs us Q I rs q
 rcases q with q | q
 .exact h pins s σ H xs us Q I rs q
 .exact h' pins s σ H xs us Q I rs q
theorem G3:eG X (.type "list") (fun xs H Q=>∃ p ys,xs = [.ref p]/\(SqL X.K H p ys\/SqT X.K H p ys)/\∀ l,H l = none->Q (.ref l) (upd H l (.lst ys))):=by
 intro pins s σ H xs us Q I r h
 obtain ⟨p,ys,rfl,hq,q⟩:=h
 obtain ⟨u,rfl,rx⟩:=vals1 r
 cases rx
 have fin:∀ (its:List Value),Vals ys its->ys.length <= sizeLine->∀ (h':Heap) (c':Nat),(∀ b o',s.heap.get? b = some o'->h'.get? b = some o') ->
   h'.get? s.heap.objs.size = some { cls:=.type "list",dict:=none,data:=.seq its.toArray c',slots:=#[] }->EP X pins σ Q (.ref s.heap.objs.size) { s with heap:=h' }:=fun its r' hz h' c' kp e =>
  ⟨.ref s.heap.objs.size,_,I.laid (t':=s.toks) kp (aD _) (show cZ X.prog X.w _ h' _ (.lst ys) from ⟨hz,its,c',r',e⟩),rfl,q _ (I.hok.fresh (aD _))⟩
 rcases hq with hq | hq
 .obtain ⟨its,r',pl,hz⟩:=I.list hq
  have hlen:=r'.length
  obtain ⟨o,ho,hc,n,hd⟩:=pl.isList
  exact call_list_seq p (.inl rfl) ho hc hd (fun h' c' kp e=>fin its r' hz h' c' kp e) (by simp only [aX] <;> omega)
 .obtain ⟨its,r',pl,hz⟩:=I.tuple hq
  have hlen:=r'.length
  obtain ⟨o,ho,hc,n,hd⟩:=pl
  exact call_list_seq p (.inr rfl) ho hc hd (fun h' c' kp e=>fin its r' hz h' c' kp e) (by simp only [aX] <;> omega)
noncomputable def tyV (K:Frag) (T:String) (x:V) (H:Hp):Prop:=match x with
 | .str _=>T = "str"
 | .int _=>T = "int"
 | .ref p=>(T = "list" /\ ∃ xs,SqL K H p xs)\/(T = "tuple" /\ ∃ o,K.lookup p = some o/\o.cls = .type "tuple" /\ o.dict = none) \/
   (T = "dict" /\ (∃ kvs,H p = some (.dK kvs)))\/(T = "set" /\ ∃ S n,H p = some (.set S n))
 | _=>False
theorem QL {pins:List (Addr × Obj)} {σ:St} {H:Hp} {s:Shared} {T:String} {x:V} {v:Value} (I:Inv X pins σ H s) (r:RelV x v) (ty:tyV X.K T x H) :
  s.TypeIs v T/\∀ a,v = .ref a->∃ ob,s.heap.get? a = some ob/\ob.dict = none:=by
 cases x with
 | str z =>
  obtain ⟨t,rfl⟩:=r
  cases (show T = "str" from ty)
  exact ⟨typeIs_str s z t,fun _ e=>nomatch e⟩
 | int i =>
  obtain ⟨t,rfl⟩:=r
  cases (show T = "int" from ty)
  exact ⟨typeIs_int s i t,fun _ e=>nomatch e⟩
 | ref p =>
  cases r
  rcases ty with ⟨rfl,xs,hq⟩ | ⟨rfl,o,hk,hc,hd⟩ | ⟨rfl,hk⟩ | ⟨rfl,S,n,hk⟩
  .obtain ⟨its,_,pl,_⟩:=I.list hq
   refine ⟨pl.isList.typeIs,fun a e=>?_⟩
   cases e
   obtain ⟨o,n,e,c,hd,_⟩:=pl
   exact ⟨o,e,hd⟩
  .refine ⟨⟨o,I.kIn p o hk,hc⟩,fun a e=>?_⟩
   cases e
   exact ⟨o,I.kIn _ o hk,hd⟩
  .have z:∃ o,s.heap.get? p = some o/\o.ExactDict:=by
    obtain ⟨kvs,hk⟩:=hk
    obtain ⟨_,_,_,_,o,_,_,e,ex,_⟩:=I.hok p _ hk
    exact ⟨o,e,ex⟩
   obtain ⟨o,e,ex⟩:=z
   refine ⟨⟨o,e,ex.1⟩,fun a e2=>?_⟩
   cases e2
   exact ⟨o,e,ex.2.1⟩
  .obtain ⟨o,_,_,_,e,ex,_⟩:=I.hok p _ hk
   refine ⟨⟨o,e,ex.1⟩,fun a e2=>?_⟩
   cases e2
   exact ⟨o,e,ex.2.1⟩
 | _=>exact False.elim ty
noncomputable def aeA (K:Frag) (T:String) (r:V->List V->Hp->VK->Prop) (to:TE):TE:=fun σ H Q=>to σ H fun x H1=>tyV K T x H1/\r x [] H1 Q
noncomputable def tBM (K:Frag) (T:String) (r:V->List V->Hp->VK->Prop) (to:TE) (t:TA):TE:=fun σ H Q=>to σ H fun x H1=>tyV K T x H1/\t σ H1 fun xs H2=>r x xs H2 Q
variable {o e:Expr} {es:List Expr} {to:TE} {t:TA} {name:Str} {apos cpos:Pos} {T id:String} {r:V->List V->Hp->VK->Prop}
theorem YT (pa:PlainAttrs T) (slot:Slot T name id) (hty:typeOf (.builtin id) = pure (.type "method_descriptor")) (hm:MtR X id r) (ho:PE X o to)
  (hbase:attributeBase o name X.env (eval o X.env) = eval o X.env:=by rfl) (hline:(apos.endLine == cpos.line) = true:=by rfl):PE X (.Call (.Attribute o name apos) [] [] cpos) (aeA X.K T r to):=by
 intro pins s σ H Q I h
 refine wpAny_Call_method0_late hbase hline (thn (ho pins s σ H _ I h) fun v s1 ⟨x,H1,I1,r1,ty,q1⟩=>?_)
 obtain ⟨h1,h2⟩:=QL I1 r1 ty
 exact ⟨T,id,pa,slot,hty,h1,h2,Calls.callWith_builtin rfl (PySem.evalArgs_none (hm pins s1 σ H1 x [] v [] Q I1 r1 .nil q1))⟩
theorem YB (pa:PlainAttrs T) (slot:Slot T name id) (hty:typeOf (.builtin id) = pure (.type "method_descriptor")) (hm:MtR X id r) (ho:PE X o to) (ha:PA X (e :: es) t)
  (hbase:attributeBase o name X.env (eval o X.env) = eval o X.env:=by rfl)
  (hfew:((backTo cpos (starEach (e :: es) X.env)).all (fun x=>!x.1) && (backToKw cpos (keywordEach [] X.env)).all (fun x=>x.1.isSome)
   && decide ((e :: es).length + ([] : List Keyword).length + (if ([] : List Keyword).isEmpty then 0 else 1) < 30)) = true:=by rfl)
  (hline:(apos.endLine == cpos.line) = true:=by rfl) (hs:starEach (e :: es) X.env = (false,eval e X.env) :: starEach es X.env:=by rfl) (hplain:(backTo cpos (starEach es X.env)).any (·.1) = false:=by rfl) :
  PE X (.Call (.Attribute o name apos) (e :: es) [] cpos) (tBM X.K T r to t):=by
 intro pins s σ H Q I h
 refine wpAny_Call_method_late hbase hfew hline rfl (thn (ho pins s σ H _ I h) fun v s1 ⟨x,H1,I1,r1,ty,q1⟩=>?_)
 obtain ⟨h1,h2⟩:=QL I1 r1 ty
 refine ⟨T,id,pa,slot,hty,h1,h2,?_⟩
 have hA:=ha cpos pins s1 σ H1 _ I1 q1
 rw [hs] at hA ⊢
 refine Calls.callWith_builtin (by show (false || (backTo cpos (starEach es X.env)).any (·.1)) = false; rw [hplain] <;> rfl) (Calls.evalArgs_plain ?_)
 exact thn hA fun us s2 ⟨vs,H2,I2,r2,q2⟩=>hm pins s2 σ H2 x vs v us Q I2 r1 r2 q2
/- xs.append(e),list.index on a module's tuple .. are MtR facts of 06m -/
end
end L2
namespace L2
open PySem PySem.Spec PyProof.Rows
noncomputable def MtM (X:Cx) (id:String) (r:V->List V->Hp->VK->Prop):Prop :=
 ∀ (pins:List (Addr × Obj)) (s:Shared) (σ:St) (H:Hp) (x:V) (xs:List V) (v:Value) (us:List Value) (Q:VK),Inv X pins σ H s->RelV x v->Vals xs us->r x xs H Q ->
  wpAny (model X.prog X.w) X.A (call (.builtin id) (v :: us)) (EP X pins σ Q) X.xe s
theorem Vals.one:∀ {x:V} {us:List Value},Vals [x] us->∃ u,us = [u]/\RelV x u
 | _,_,.cons r .nil=>⟨_,rfl,r⟩
theorem Vals.two {x y:V} {us:List Value} (h:Vals [x,y] us):∃ u v,us = [u,v]/\RelV x u/\RelV y v:=by
 cases h with | cons r t=>cases t with | cons q t=>cases t; exact ⟨_,_,rfl,r,q⟩
theorem Vals.zero:∀ {us:List Value},Vals [] us->us = []
 | _,.nil=>rfl
theorem Vals.eraseIdx:∀ {xs:List V} {us:List Value} (i:Nat),Vals xs us->Vals (xs.eraseIdx i) (us.eraseIdx i)
 | _,_,_,.nil=>.nil
 | _,_,0,.cons _ t=>t
 | _,_,i + 1,.cons r t=>.cons r (Vals.eraseIdx i t)
theorem Vals.reverse {xs:List V} {us:List Value} (h:Vals xs us):Vals xs.reverse us.reverse:=by
 induction h with
 | nil=>exact .nil
 | cons r t ih=>rw [List.reverse_cons,List.reverse_cons]; exact Vals.append ih (.cons r .nil)
theorem Ds {α:Type} : ∀ (l:List α) (i:Nat),(l.eraseIdx i).length <= l.length
 | [],_=>aD _
 | _ :: _,0=>Nat.le_succ _
 | _ :: r,i + 1=>Nat.succ_le_succ (Ds r i)
section
variable {X:Cx} {pins:List (Addr × Obj)} {σ:St} {H:Hp} {s:Shared} {l b:Addr} {xs ys zs:List V}
theorem Inv.lset {its its':List Value} {n:Nat} {f:Array Value->Array Value} {t':Nat} (I:Inv X pins σ H s) (hH:H l = some (.lst xs))
  (e:s.heap.get? l = some { cls:=.type "list",data:=.seq its.toArray n }) (hf:f its.toArray = its'.toArray) (hv:Vals ys its') (hz:ys.length <= sizeLine) :
  Inv X pins σ (upd H l (.lst ys)) { s with heap:=s.heap.update l (Obj.mapSeq f),toks:=t' }:=by
 have q:=PySem.IsL.update e f
 rw [hf] at q
 refine I.write (x:=l) (e:=l) (by rw [hH]; exact trivial) (.inl rfl) (fun b' u hb hu=>(Heap.get?_update_other s.heap (Obj.mapSeq f) (Ne.symm hb)).trans hu) ⟨_,q⟩ ?_
 exact ⟨hz,its',_,hv,q⟩
theorem Inv.lnew {its:List Value} {t':Nat} (I:Inv X pins σ H s) (hv:Vals ys its) (hz:ys.length <= sizeLine) :
  Inv X pins σ (upd H s.heap.objs.size (.lst ys)) { s with heap:=s.heap.push { cls:=.type "list",data:=.seq its.toArray },toks:=t' } :=
 I.laid (fun _ _ q=>aF _ q) (aD _) ⟨hz,its,0,hv,aW _ rfl⟩
theorem Inv.fresh (I:Inv X pins σ H s):H s.heap.objs.size = none:=I.hok.fresh (aD _)
theorem Inv.lstM (I:Inv X pins σ H s) (hH:H l = some (.lst xs)):xs.length <= sizeLine/\∃ (its:List Value) (n:Nat),Vals xs its/\xs.length = its.length/\s.heap.get? l = some { cls:=.type "list",data:=.seq its.toArray n }:=by
 obtain ⟨z,its,n,r,e⟩:=I.hok l _ hH
 exact ⟨z,its,n,r,r.length,e⟩
end
section
variable {X:Cx}
noncomputable def V0:V->List V->Hp->VK->Prop:=fun x vs H Q=>∃ l xs y,x = .ref l/\vs = [y]/\H l = some (.lst xs)/\xs.length < sizeLine/\Q .non (upd H l (.lst (xs ++ [y])))
theorem CN:MtM X "list.append" V0:=by
 intro pins s σ H x vs v us Q I rx rv h
 obtain ⟨l,xs,y,rfl,rfl,hH,hz,q⟩:=h
 cases rx
 obtain ⟨u,rfl,ru⟩:=rv.one
 obtain ⟨z,its,n,r,hl,e⟩:=I.lstM hH
 refine call_meets F.slot_list_append ⟨_,e,rfl⟩ F.entry_list_append (F.args_list_append_2 _ _) (PySem.list_append l its.toArray n u (by rw [aX]; omega)) ⟨e,?_⟩
 refine ⟨.non,_,I.lset (its':=its ++ [u]) hH e (by simp) (r.append (.cons ru .nil)) ?_,rfl,q⟩
 rw [au,List.length_singleton]
 omega
noncomputable def RW:V->List V->Hp->VK->Prop:=fun x vs H Q=>∃ l xs,x = .ref l/\vs = []/\H l = some (.lst xs)/\Q .non (upd H l (.lst xs.reverse))
theorem K7:MtM X "list.reverse" RW:=by
 intro pins s σ H x vs v us Q I rx rv h
 obtain ⟨l,xs,rfl,rfl,hH,q⟩:=h
 cases rx
 have hus:=rv.zero
 subst hus
 obtain ⟨z,its,n,r,hl,e⟩:=I.lstM hH
 refine call_meets F.slot_list_reverse ⟨_,e,rfl⟩ F.entry_list_reverse (F.args_list_reverse_1 _) (AutoSeq1.list_reverse_list_0 l its.toArray n (by rw [aX]; omega)) ⟨e,?_⟩
 refine ⟨.non,_,I.lset (its':=its.reverse) hH e (by simp) r.reverse ?_,rfl,q⟩
 rw [List.length_reverse]
 omega
noncomputable def X3:R2:=fun x y H Q=>∃ l b xs zs,x = .ref l/\y = .ref b/\H l = some (.lst xs)/\H b = some (.lst zs)/\xs.length + zs.length <= sizeLine/\∀ p,H p = none->Q (.ref p) (upd H p (.lst (xs ++ zs)))
theorem LK:OpR X (binaryOp .Add) X3:=by
 intro pins s σ H x y v u Q I rx ry h
 obtain ⟨l,b,xs,zs,rfl,rfl,hH,hB,hz,q⟩:=h
 cases rx
 cases ry
 obtain ⟨z,its,n,r,hl,e⟩:=I.lstM hH
 obtain ⟨z2,its2,n2,r2,hl2,e2⟩:=I.lstM hB
 refine PySem.P.add_list e e2 ?_ (by rw [aX,aX]; omega)
 have ea:its.toArray ++ its2.toArray = (its ++ its2).toArray:=by simp
 rw [ea]
 exact ⟨.ref _,_,I.lnew (t':=s.toks) (r.append r2) (by rw [au]; omega),rfl,q _ I.fresh⟩
theorem oA {pins:List (Addr × Obj)} {s:Shared} {σ:St} {H:Hp} {l:Addr} {xs:List V} {i:Int} {t:Tok} {k:Nat} {Q:Unit->Shared->Prop} (I:Inv X pins σ H s) (hH:H l = some (.lst xs))
  (h1 : -(2 ^ 63) <= i) (h2:i < 2 ^ 63) (hk:seqIndex? i xs.length = some k) (h:∀ s',Inv X pins σ (upd H l (.lst (xs.eraseIdx k))) s'->Q () s') :
  wpAny (model X.prog X.w) X.A (delItem (.ref l) (.int i t)) Q X.xe s:=by
 obtain ⟨z,its,n,r,hl,e⟩:=I.lstM hH
 refine PySem.P.delItem_list (k:=k) e (fitsIndex_both h1 h2) (by rw [aX,<- hl]; exact hk) (h _ ?_) (by rw [aX]; omega)
 refine I.lset (its':=its.eraseIdx k) (t':=s.toks) hH e ?_ (r.eraseIdx k) ?_
 .show its.toArray.eraseIdxIfInBounds k = (its.eraseIdx k).toArray
  rw [List.eraseIdxIfInBounds_toArray]
 .have:=Ds xs k
  omega
end
section
variable {prog:Program} {w:World} {A:Around} {E:Value->Shared->Prop} {s:Shared}
end
section
variable {X:Cx}
end
end L2
namespace Att
open PySem PySem.W PySem.Calls PyProof.Rows
theorem yC {P:Params} {h:Heap} : ∀ (ns:List Int) (vs:List Value),WellAll P h vs (ns.map WData.int)->IntsAre vs ns:=by
 intro ns
 induction ns with
 | nil =>
  intro vs w
  rw [List.map_nil] at w
  cases w
  exact .nil
 | cons n ns ih =>
  intro vs w
  rw [List.map_cons] at w
  cases w with
  | cons a b =>
   cases a
   exact .cons _ _ (ih _ b)
theorem O8 {l:OpenLaw} {n:Nat} (hn:l.most = some n) {P:Params} {h:Heap} {args:List WData} {vals:List Value}
  (hpre:l.row.toRowW.claim.pre args = true) (hwl:WellAll P h vals args) :
  ∃ a vs ns,vals = [Value.ref a]/\args = [WData.list (ns.map WData.int)]/\h.get? a = some { cls:=.type "list",data:=.seq vs.toArray }/\IntsAre vs ns/\ns.length <= n:=by
 have hsh:WShape.hasAll [] args [.list .int] = true:=(pre_splitW hpre).1
 have hc:l.pre.holds [] { args:=args } = true:=(pre_splitW hpre).2
 obtain ⟨d,r,rfl,h1,h2⟩:=hasAllW_cons hsh
 obtain rfl:=hasAllW_nil h2
 obtain ⟨xs,rfl,h3⟩:=hasW_list h1
 obtain ⟨ns,rfl⟩:=items_int h3
 have hlen:ns.length <= n:=by
  unfold OpenLaw.pre at hc
  have h4:(WTm.not (.lt (.lit (.int (n:Int))) (.len (.arg 0)))).holds [] { args:=[.list (ns.map .int)] } = true:=by
   have h4:=(holds_andW hc).1
   rw [hn] at h4
   exact h4
  have h5:=condW_of h4 (w_not (w_lt w_lit (w_len_list (w_arg rfl))))
  rw [ak] at h5
  refine Nat.le_of_not_lt fun q=>?_
  have q':(n:Int) < ((ns.length:Nat):Int):=by omega
  first
   | (rw [decide_eq_true q'] at h5; exact absurd h5 (by decide))
   | (simp at h5; omega)
 cases hwl with
 | cons w1 w2 =>
  cases w2
  cases w1 with
  | list ho hall=>exact ⟨_,_,ns,rfl,rfl,ho,yC ns _ hall,hlen⟩
theorem Ov (l:OpenLaw) (args:List WData):l.row.toRowW.claim.post args (.bool true) args = true :=
 postW_of (r:=l.row.toRowW) (X:=(true == true))
  (show WShape.has [] (.bool true) .bool = true by first | rfl | decide | simp [WShape.has,WShape.arms,WShape.armsAll])
  (show (WTm.eq .res (.lit (.bool true))).value [] { args:=args,res:=some (.bool true),after:=args } = some (.bool (true == true)) from w_eq_bool (w_res rfl) w_lit) rfl
theorem Jt {l:OpenLaw} {n:Nat} {q:Program} {loose:List Str} {XP:(Str->Option Value)->Heap->Prop} {YP:World->Heap->Prop} {d:DefRec}
  (hn:l.most = some n) (hdf:d.params.defaults = [])
  (call:∀ (w:World) (s₀ s₁:Shared) (mg mb:Str->Option Value) (fa:Addr) (o:Obj) (pm cd doc:Value) (a:Addr) (vs:List Value) (ns:List Int),
   Ground q loose [] XP w s₀ mg mb s₁.heap->YP w s₁.heap ->
   s₁.heap.get? fa = some o->o.data = .func (docDef d.name d.params d.body d.scope pm cd doc)->s₁.heap.CodeRec cd d.name->mg d.name = some (.ref fa) ->
   s₁.heap.get? a = some { cls:=.type "list",data:=.seq vs.toArray }->IntsAre vs ns->ns.length <= n->s₁.gens = #[] ->
   codeAny (model l.prog w) callerA (.call (.ref fa) ⟨[.ref a],[]⟩) (fun r s'=>r = .ok (.ret (.bool true))/\OldK s₁.heap s'.heap/\s'.os = s₁.os/\AllBare s'.gens) s₁) :
  WalkO q loose XP YP l.row.toRowW d [] (fun f vs=>PySem.call f vs):=by
 intro w s₀ s₁ mg mb G Y fa o pm cd doc dV kV ho hd hcd hD hmg hg args vals as hpre hlay hrd hwl hlo
 obtain rfl:dV = .none:=Dflts.none hD hdf
 obtain rfl:kV = .none:=Dflts.noKw hD
 obtain ⟨a,vs,ns,rfl,rfl,hobj,hints,hlen⟩:=O8 hn hpre hwl
 refine enter_call (codeAny_mono (call w s₀ s₁ mg mb fa o pm cd doc a vs ns G Y ho (fd_plain hd) hcd hmg hobj hints hlen hg) fun r s' hq=>?_)
 obtain ⟨rfl,h2,h3,h4⟩:=hq
 exact ⟨.inl ⟨.bool true,.bool true,[],rfl,fun _=>rfl,.bool true,Ov l _,fun _=>⟨List.Pairwise.nil,fun _ hm=>(nomatch hm)⟩⟩,h2,h3,h4⟩
section
variable {prog:Program} {w:World} {A:Around} {E:Value->Shared->Prop} {s:Shared} {K:Frag}
end
end Att
namespace L2
open PySem PySem.Spec PyProof.Rows
theorem wA:∀ {vs:List Value} {ns:List Int},IntsAre vs ns->Vals (ns.map V.int) vs
 | _,_,.nil=>.nil
 | _,_,.cons n t h=>.cons ⟨t,rfl⟩ (wA h)
noncomputable def Only (H:Hp):Prop:=∀ b,H b = none\/∃ o xs,H b = some (.frz o (.lst xs))
theorem Vb {P:Program} {w:World} {K:Frag} {mg mb:Str->Option Value} {CX:CXT} {k:Nat} {fa a:Addr} {fd:FuncData} {x:Str} {sp:Sp} {s₁:Shared} {vs:List Value} {ns:List Int}
  (KX:K.In s₁.heap) (hns:s₁.heap.Ns mainGlobals mg) (hb:s₁.heap.Ns builtinsNs mb) (hbb:∀ x:Str,x ≠ "__name__" -> mb x = bootBuiltins x) (hlim:s₁.heap.NoLimit) (hg:s₁.gens = #[])
  (ha:s₁.heap.get? a = some { cls:=.type "list",data:=.seq vs.toArray }) (hi:IntsAre vs ns) (hl:ns.length <= sizeLine) (hr:fW k callerA)
  (F:∀ base:Heap,K.In base->base.Ns mainGlobals mg->cj P w K mg base CX k fa fd [x] sp) (hbind:∀ (s:Shared) (u:Value),BindsTo s fd ⟨[u],[]⟩ [(x,u)])
  (hsp:∀ H:Hp,Only H->SqL K H a (ns.map V.int)->sp [.ref a] H (fun v _=>v = .bl true) fun _ _ _=>False)
  (hCX:∀ H e s',CX [] H s₁ (fun _ _ _=>False) e s'->False) :
  codeAny (model P w) callerA (.call (.ref fa) ⟨[.ref a],[]⟩) (fun r s'=>r = .ok (.ret (.bool true))/\OldK s₁.heap s'.heap/\s'.os = s₁.os/\AllBare s'.gens) s₁:=by
 have rv:=wA hi
 have lenV:=hi.length
 -- from an abstract heap in which nothing but the script may be tracked
 have core:∀ H:Hp,Only H->SqL K H a (ns.map V.int)->HOk P w H s₁.heap->(∀ b,H b ≠ none->b = a)->(H a ≠ none->K.lookup a = none) ->
   codeAny (model P w) callerA (.call (.ref fa) ⟨[.ref a],[]⟩) (fun r s'=>r = .ok (.ret (.bool true))/\OldK s₁.heap s'.heap/\s'.os = s₁.os/\AllBare s'.gens) s₁:=by
  intro H hO hS hok hA hK
  have base_of:∀ {b:Addr} {o:Obj},s₁.heap.get? b = some o->H b = none->(DK s₁.heap H).get? b = some o:=fun e n=>S_ e n
  have noA:∀ {b:Addr} {o:Obj} {es:Array DictEntry} {ep:Nat},s₁.heap.get? b = some o->o.data = .dict es ep->H b = none:=fun {b o es ep} e d=>by
   cases q:H b with
   | none=>rfl
   | some u =>
    have e':b = a:=hA b (by rw [q]; simp)
    subst e'
    rw [ha] at e; cases e
    have d':Data.seq vs.toArray _ = Data.dict es ep:=d
    cases d'
  have nsK:∀ {b:Addr} {m:Str->Option Value},s₁.heap.Ns b m->(DK s₁.heap H).Ns b m:=fun {b m} ⟨o,es,ep,e,d,r⟩=>⟨o,es,ep,base_of e (noA e d),d,r⟩
  have hKb:K.In (DK s₁.heap H):=fun b o e=>base_of (KX b o e) (by
   cases q:H b with
   | none=>rfl
   | some u =>
    have e':b = a:=hA b (by rw [q]; simp)
    subst e'
    rw [hK (by rw [q]; simp)] at e; cases e)
  have hM:Mod K mg (DK s₁.heap H):=⟨hKb,nsK hns,⟨mb,nsK hb,hbb⟩,let ⟨mc,h1,h2⟩:=hlim; ⟨mc,nsK h1,h2⟩⟩
  have e0:K4 P w K mg (DK s₁.heap H) callerA [] s₁ H:=⟨rfl,hM,fun b o e=>X5 e,Nat.le_of_eq (Qo _ _),trivial,fun b hb=>absurd (show b ∈ ([] : List Addr) from hb) (by simp),hok,.of_eq hg⟩
  refine codeAny_mono ((F _ hKb (nsK hns)).run callerA [] s₁ H ⟨[.ref a],[]⟩ [.ref a] [.ref a] _ _ hr e0 (hbind s₁ (.ref a)) (.cons rfl .nil) (hsp H hO hS)) fun r s' h=>?_
  cases r with
  | error e=>exact (hCX H e s' h).elim
  | ok fl =>
   cases fl with
   | next=>exact False.elim h
   | brk=>exact False.elim h
   | cont=>exact False.elim h
   | ret u =>
    obtain ⟨v,H',os,bare,un,hok',r',q⟩:=h
    have q':v = .bl true:=q
    subst q'
    obtain rfl:u = Value.bool true:=r'
    refine ⟨rfl,OldK.of_keep fun b o e=>?_,os,bare⟩
    cases q:H b with
    | none=>exact un.keep b o e q (by intro z; exact absurd (show b ∈ ([] : List Addr) from z) (by simp)) (by simp)
    | some u =>
     rcases hO b with z | ⟨ob,xs,z⟩
     .rw [q] at z; cases z
     .have z2:=un.frzs b ob _ z
      obtain ⟨e1,_⟩:=hok b _ z
      obtain ⟨e2,_⟩:=hok' b _ z2
      rw [e] at e1; cases e1
      exact e2
 cases hk:K.lookup a with
 | some o =>
  -- the script is one of the module's own objects
  have e:=KX a o hk
  rw [ha] at e
  cases e
  refine core (fun _=>none) (fun _=>.inl rfl) (.inr ⟨_,vs.toArray,_,hk,rfl,rfl,rfl,by rw [aX,lenV]; exact hl,by simpa using rv⟩) (fun b u z=>by have z':(none:Option HO) = some u:=z; cases z') (fun b z=>absurd rfl z) fun z=>absurd rfl z
 | none =>
  refine core (fun b=>if b = a then some (.frz { cls:=.type "list",data:=.seq vs.toArray } (.lst (ns.map V.int))) else none) (fun b=>?_) (.inl (.inr ⟨{ cls:=.type "list",data:=.seq vs.toArray },if_pos rfl⟩)) (fun b u z=>?_) (fun b z=>?_) fun _=>hk
  .by_cases hb:b = a
   .exact .inr ⟨_,_,if_pos hb⟩
   .exact .inl (if_neg hb)
  .by_cases hb:b = a
   .have z':=(if_pos hb).symm.trans z
    cases z'
    subst hb
    exact ⟨ha,by rw [ak]; exact hl,vs,_,rv,ha⟩
   .have z':=(if_neg hb).symm.trans z
    cases z'
  .by_cases hb:b = a
   .exact hb
   .exact absurd (if_neg hb) z
end L2
namespace L2
open PySem PySem.Spec PyProof.Rows
noncomputable abbrev KOf {K:Frag} {h:Heap} (_:K.In h):Frag:=K
theorem Nb {l:PySem.W.OpenLaw} {n k:Nat} {q:Program} {loose:List Str} {XP:(Str->Option Value)->Heap->Prop} {YP:World->Heap->Prop} {d:DefRec} {K:Params->Frag} {CX:World->CXT} {sp:World->Sp} {x:Str}
  (hn:l.most = some n) (hn2:n <= sizeLine) (hdf:d.params.defaults = []) (hr:fW k callerA)
  (hY:∀ (w:World) (h:Heap),YP w h->(K w.params).In h)
  (F:∀ (w:World) (mg:Str->Option Value) (fa:Addr) (h:Heap),(K w.params).In h->h.Ns mainGlobals mg->mg d.name = some (.ref fa) ->
   ∃ fd:FuncData,(∀ (s:Shared) (u:Value),BindsTo s fd ⟨[u],[]⟩ [(x,u)]) /\
    ∀ base:Heap,(K w.params).In base->base.Ns mainGlobals mg->cj l.prog w (K w.params) mg base (CX w) k fa fd [x] (sp w))
  (hsp:∀ (w:World) (H:Hp) (a:Addr) (ns:List Int),ns.length <= n->Only H->SqL (K w.params) H a (ns.map V.int)->sp w [.ref a] H (fun v _=>v = .bl true) fun _ _ _=>False)
  (hCX:∀ (w:World) (H:Hp) (s:Shared) (e:Value) (s':Shared),CX w [] H s (fun _ _ _=>False) e s'->False) :
  PySem.W.WalkO q loose XP YP l.row.toRowW d [] (fun f vs=>PySem.call f vs):=by
 refine Att.Jt hn hdf fun w s₀ s₁ mg mb fa o pm cd doc a vs ns G Y ho hd hcd hmg hobj hints hlen hg=>?_
 have KX:=hY w _ Y
 obtain ⟨fd,hb,hF⟩:=F w mg fa _ KX G.T.g hmg
 exact Vb KX G.T.g G.T.b G.T.builtins G.T.nolimit hg hobj hints (aK hlen hn2) hr hF hb (fun H hO hS=>hsp w H a ns hlen hO hS) fun H e s'=>hCX w H s₁ e s'
end L2
/- THE LAST THEOREM (shape; LID,My.* are yours):
   My.Adr: a structure of the addresses that your layer names (classes,functions); My.Txt K t: a structure (Prop) of the equations over K;
   My.txt_mk : {K} {implicit addresses ..} (e1:nsIn K mainGlobals "law" = some (some (.ref f))) (e2:K.lookup f = some ⟨oc,od,.func (fnOf "law" "law" params body scope dV kV doc pm an cdv ct),sl⟩) (e3:codeIn K cdv "law" = true) .. : ∃ t,My.Txt K t
set_option maxRecDepth 100000 in
set_option maxHeartbeats 0 in
theorem PySem.Challenge.cw_LID_holds : PySem.Challenge.rw_LID.Holds := by
 w_on; o_law; k_head; (case hw=>w_witness2)
 k_fill
 refine L2.Nb (l:=PySem.Challenge.rw_LID) (n:=63) (k:=40) (x := "script") (CX:=fun w=>..) (sp:=fun _=>My.aeF) rfl (by decide) rfl ⟨rfl,by decide,by decide⟩ (fun w h Y=>PySem.W.kIn_of Y) ?F ?S ?C
 case F =>
  intro w mg fa h KX G hmg
  have T:∃ t,My.Txt (L2.KOf KX) t:=by
   dsimp only [L2.KOf]                          -- K must stand as «<heap const> w.params» for k_is
   refine' My.txt_mk ?e1 ?e2 ?e3 ..
   (case e1=>PySem.W.k_is)                    -- in the order: a name -> its address -> its object -> its parts
   (case e2=>PySem.W.k_is)
   ..
  obtain ⟨t,T⟩:=T
  have e0:=hmg.symm.trans (PySem.W.mg_of KX G T.law)
  cases e0                                       -- fa is the law's own address
  exact ⟨_,fun s u=>.of_eq rfl,fun base kb nb=>My.law_fn T kb nb⟩     -- if «.of_eq rfl» comes too early: refine' ⟨_,?b,fun base kb nb=>My.law_fn T kb nb⟩; exact fun s u=>.of_eq rfl
 case S=>exact fun w H a ns hl hO hS=>..
 case C=>exact ..
(the tactic k_is has no namespace: write k_is) -/
namespace L2
open PySem PySem.Spec PyProof.Rows
noncomputable abbrev CX0:CXT:=fun _ _ _ _ _ _=>False
noncomputable abbrev E0:XK:=fun _ _ _=>False
theorem Uk {X:Cx} : Passes CX0 X E0:=fun _ _ _ _ _ _ _ h=>h.elim
structure Fun (K:Frag) (x qual:Str) (st:Stmt) (f:Addr) (fd:FuncData):Prop where
 ex:∃ (oc:Value) (od:Option Addr) (kV doc pm:Value) (an:Option Addr) (cdv ct:Value) (osl:Array (Option Value)),
  fd = PySem.W.fnOf x qual (iG st) (eX st) (bH st) .none kV doc pm an cdv ct/\K.lookup f = some ⟨oc,od,.func fd,osl⟩/\PySem.W.codeIn K cdv qual = true
 kp:PySem.W.keepIn K (.ref f) = true
section
variable {P:Program} {w:World} {K:Frag} {mg:Str->Option Value} {base:Heap}
theorem Fun.ok {x qual:Str} {st:Stmt} {f:Addr} {fd:FuncData} {N ps:List Str} {k:Nat} {sp:Sp} (F:Fun K x qual st f fd) (S:bO N ps (bH st)) (len:∀ vs H Q E,sp vs H Q E->vs.length = ps.length)
  (hbody:∀ (cdv:Value) (A:Around) (outer:List Env) (s:Shared) (H:Hp) (vs:List V) (Q:VK) (E:XK),fW k (A.deeper (envOfC qual (bH st) s.heap.objs.size f cdv))->sp vs H Q E ->
   ∃ t,PSs (A_ CX0 P w K mg base N qual (bH st) f cdv A outer s H E).nox (eX st) t/\t { nx:=fun _ H'=>Q .non H',rt:=Q } (start N vs) H):cj P w K mg base CX0 (k + 1) f fd ps sp:=by
 obtain ⟨oc,od,kV,doc,pm,an,cdv,ct,osl,rfl,lk,hcd⟩:=F.ex
 refine Yt lk hcd S len fun A outer s H vs Q E hr hsp=>?_
 obtain ⟨t,h,q⟩:=hbody cdv A outer s H vs Q E hr hsp
 exact ⟨t,h.nox,q⟩
theorem RN {x qual:Str} {st:Stmt} {f:Addr} {oc:Value} {od an:Option Addr} {osl:Array (Option Value)} {kV doc pm cdv ct:Value} (l:K.lookup f = some ⟨oc,od,.func (PySem.W.fnOf x qual (iG st) (eX st) (bH st) .none kV doc pm an cdv ct),osl⟩)
  (c:PySem.W.codeIn K cdv qual = true) (k:PySem.W.keepIn K (.ref f) = true):Fun K x qual st f (PySem.W.fnOf x qual (iG st) (eX st) (bH st) .none kV doc pm an cdv ct):=⟨⟨oc,od,kV,doc,pm,an,cdv,ct,osl,rfl,l,c⟩,k⟩
end
theorem sZ {A:Around} {k:Nat} (hr:fW k A):A.units + 1 < cLine:=Nat.lt_of_le_of_lt (Nat.add_le_add_left (by decide:1 <= 64) _) hr.units
section
variable {X:Cx}
noncomputable def YW (sc:Scope) (x:Str):Bool:=(sc.names.lookup x).any fun k=>k == .local || k == .cell || k == .free
theorem Y_ {sc:Scope} {x:Str} (h:YW sc x = true):Vis sc x:=by
 unfold YW at h
 unfold Vis
 cases e:sc.names.lookup x with
 | none=>rw [e] at h; cases h
 | some k=>rw [e] at h; cases k <;> first | exact .inl rfl | exact .inr (.inl rfl) | exact .inr (.inr rfl) | cases h
theorem pv (i:Nat) {x:Str} {pos:Pos} (hN:X.N[i]? = some x:=by rfl) (hv:YW X.env.scope x = true:=by rfl) (hd:(x == ("__debug__" : Str)) = false:=by decide)
  (hcd:(x == ("__classdict__" : Str)) = false:=by decide):PE X (.Name x pos) (Aa i):=Zk hN (Y_ hv) hd hcd
end
theorem Xo {c A B:Prop} [Decidable c] (h1:c->A) (h2:¬ c->B):if c then A else B:=by
 by_cases h:c
 .rw [if_pos h]
  exact h1 h
 .rw [if_neg h]
  exact h2 h
noncomputable def Same (H H':Hp):Prop:=∀ b o,H b = some o->H' b = some o
theorem Same.refl (H:Hp):Same H H:=fun _ _ h=>h
theorem Same.trans {H H1 H2:Hp} (a:Same H H1) (b:Same H1 H2):Same H H2:=fun c o h=>b c o (a c o h)
theorem Same.free {H H':Hp} (e:Same H H') {l:Addr} (h:H' l = Option.none):H l = Option.none:=by
 cases q:H l with
 | none=>rfl
 | some o =>
  rw [e l o q] at h
  cases h
end L2
namespace L2
open PySem PySem.Spec PyProof.Rows
noncomputable def Bd (i:Int):Prop:=i.natAbs < 2 ^ 8000
theorem Bd.log2 {i:Int} (h:Bd i):i.natAbs.log2 < 8000:=by
 by_cases h0:i.natAbs = 0
 .rw [h0,Nat.log2_zero]; omega
 .exact (Nat.log2_lt h0).mpr h
theorem Bd.bits {i:Int} (h:Bd i):Builtin.Int.intBits i <= 2 ^ 20:=by
 have e:(2:Nat) ^ 20 = 1048576:=by decide
 have:=h.log2
 unfold Builtin.Int.intBits
 split
 .exact aZ _
 .omega
section
variable {X:Cx}
theorem cC:OpR X (binaryOp .Mult) (rI (fun i j=>Bd i/\Bd j) fun i j=>.int (i * j)):=opI fun _ _ _ _ _ _ _ hc q=>mul_int q (.of_bits hc.1.bits hc.2.bits)
theorem jt:OpR X (binaryOp .FloorDiv) (rI (fun _ j=>j ≠ 0/\Bd j) fun i j=>.int (i.fdiv j)):=opI fun _ _ _ _ _ _ _ hc q=>floordiv_int hc.1 q (.inl (PyProof.noPylong_of_log2 (by have:=hc.2.log2; omega)))
theorem Iv:eG X (.builtin "isinstance") (fun xs H Q=>∃ x c cv t b,xs = [x,c]/\((∃ T,c = .ty T/\cv = Value.type T)\/∃ C,c = .ref C/\cv = Value.ref C)/\wW X.K H x t/\PySem.W.kitOne X.K t cv = some b/\Q (.bl b) H):=by
 intro pins s σ H xs us Q I r h
 obtain ⟨x,c,cv,t,b,rfl,rc,ty,e,q⟩:=h
 obtain ⟨u,v,rfl,ru,rv⟩:=r.two
 have e2:v = cv:=by
  rcases rc with ⟨T,rfl,rfl⟩ | ⟨T,rfl,rfl⟩
  .exact rv
  .exact rv
 subst e2
 exact Py I ru ty e fun tk=>⟨.bl b,H,I.tok _,rfl,q⟩
theorem Js:eG X (.builtin "sorted") (fun xs H Q=>∃ l ns,xs = [.ref l]/\SqL X.K H l (ns.map V.int)/\ns.length < 64/\∀ (ms:List Int) p,H p = none->ms.Perm ns->ms.Pairwise (· <= ·)->Q (.ref p) (upd H p (.lst (ms.map V.int)))):=by
 intro pins s σ H xs us Q I r h
 obtain ⟨l,ns,rfl,hl,h64,q⟩:=h
 obtain ⟨u,rfl,ru⟩:=r.one
 cases ru
 obtain ⟨its,rv,p,hz⟩:=I.list hl
 have hI:=intsAre_of rv
 have hlen:its.length = ns.length:=by have:=rv.length; simpa using this.symm
 refine sorted_ints (vs:=its) p.isList hI (by omega) fun out ns' a1 a2 a3=>?_
 obtain ⟨e,he⟩:=sortedAll_at s.heap its out
 have hfr:H (s.heap.objs.size + 1) = none:=I.hok.fresh (Nat.le_succ _)
 refine ⟨.ref _,_,I.laid (a:=s.heap.objs.size + 1) (o:=.lst (ns'.map V.int)) (t':=s.toks) (fun b u e=>sortedAll_old e) (Nat.le_succ _) ?_,rfl,q ns' _ hfr a2 a3⟩
 refine ⟨?_,out.toList,e,wA a1,he⟩
 rw [ak,a2.length_eq]
 rw [ak] at hz
 exact hz
end
section
variable {prog:Program} {w:World} {A:Around} {E:Value->Shared->Prop} {s:Shared}
theorem CG {it t:Addr} {items:Array Value} (hne:t ≠ it):∀ (n i:Nat) (s:Shared) (Q:List Value->Shared->Prop),s.heap.IsListIter it t i->PlainL s.heap t items->i + n <= items.size ->
  (∀ h',h'.IsListIter it t (i + n)->Heap.SameBut it s.heap h'->Q ((items.toList.drop i).take n) { s with heap:=h' })->wpAny (model prog w) A (draw (.ref it) n) Q E s
 | 0,i,s,Q,hit,_,_,hQ=>by
  show wpAny _ _ (pure []) Q E s
  exact wpAny_pure (by simpa using hQ s.heap hit (Heap.SameBut.refl ..))
 | n + 1,i,s,Q,hit,ht,hle,hQ=>by
  have hlt:i < items.size:=by omega
  show wpAny _ _ (pyNext (.ref it) >>= _) Q E s
  refine wpAny_bind (wpAny_pyNext_list_item hit ht.isList (x:=items[i]) (by simp [hlt]) fun h₁ hit₁ hs₁=>?_)
  have ht₁:PlainL h₁ t items:=by
   obtain ⟨o,k,e,r⟩:=ht
   exact ⟨o,k,(hs₁.2 t hne).trans e,r⟩
  refine wpAny_bind (wpAny_holding (CG hne n (i + 1) _ _ hit₁ ht₁ (by omega) fun h₂ hit₂ hs₂=>wpAny_pure ?_))
  have hd:items.toList.drop i = items[i] :: items.toList.drop (i + 1):=by simp [List.drop_eq_getElem_cons,hlt]
  have:=hQ h₂ (by rw [show i + (n + 1) = i + 1 + n by omega]; exact hit₂) (hs₁.trans hs₂)
  rw [hd,List.take_succ_cons] at this
  exact this
theorem wF {t:Addr} {items:Array Value} {Q:List Value->Shared->Prop} (hh:A.handled = none) (ht:PlainL s.heap t items)
  (hQ:∀ h',Heap.ExtBut s.heap.objs.size s.heap h'->Q items.toList { s with heap:=h' }):wpAny (model prog w) A (unpackItems (.ref t) items.size none) Q E s:=by
 have hlt:t ≠ s.heap.objs.size:=by obtain ⟨o,_,ho,_⟩:=ht; exact aP (aH ho)
 unfold unpackItems
 refine wpAny_bind ?_
 .unfold notIterableAtAll
  refine wpAny_bind (wpAny_specialOf ht.isList.typeIs slot_list_iter.lookup ?_)
  refine wpAny_pure ?_
  simp only [Bool.false_eq_true,if_false]
  refine wpAny_bind (wpAny_holding (wpAny_pyIter_list ht.isList ?_))
  have ht0:PlainL (s.heap.push { cls:=.type "list_iterator",data:=.fields #[.ref t,.int 0 0] }) t items:=by
   obtain ⟨o,k,e,r⟩:=ht
   exact ⟨o,k,aF _ e,r⟩
  refine wpAny_bind (wpAny_holding (CG hlt items.size 0 _ _ ⟨_,aW _ rfl,rfl,rfl⟩ ht0 (by omega) fun h₁ hit₁ hs₁=>?_))
  have hall:List.take items.size (List.drop 0 items.toList) = items.toList:=by
   rw [List.drop_zero]; exact aJ (by simp)
  rw [hall]
  rw [if_neg (by simp)]
  have ht₁:PlainL h₁ t items:=by
   obtain ⟨o,k,e,r⟩:=ht0
   exact ⟨o,k,(hs₁.2 t hlt).trans e,r⟩
  refine wpAny_bind (wpAny_holding (wpAny_pyNext_list_end hh hit₁ ht₁.isList (by simp) fun h₂ he₂=>?_))
  simp only [Option.isSome_none,Bool.false_eq_true,if_false]
  refine wpAny_pure (hQ h₂ fun b o hb e=>he₂ b o hb (hs₁.extBut b o hb (aF _ e)))
theorem vd {env:Env} {elts:List Expr} {x1} {pos:Pos} {t:Addr} {items:Array Value} {Q:Unit->Shared->Prop} (hh:A.handled = none) (ht:PlainL s.heap t items)
  (hn:(assignEach elts env).length = items.size) (hstar:(assignEach elts env).findIdx? (·.1) = none)
  (h:∀ h',Heap.ExtBut s.heap.objs.size s.heap h'->wpAny (model prog w) A (assignInOrder ((assignEach elts env).map (·.2)) items.toList) Q E { s with heap:=h' }) :
  wpAny (model prog w) A (assign (.Tuple elts x1 pos) env (.ref t)) Q E s:=by
 rw [assign_Tuple]
 refine wpAny_bind (wpAny_standAt ?_)
 unfold unpack
 rw [hn,hstar]
 exact wpAny_bind (wpAny_holding (wF hh ht h))
end
section
variable {X:Cx} {pos:Pos}
noncomputable def acW (K:Frag) (n:Nat) (t:TGs):TG:=fun v σ H Q=>∃ a xs,v = .ref a/\SqL K H a xs/\xs.length = n/\t xs σ H Q
theorem Vy {es:List Expr} {k:Nat} {t:TGs} {n:Nat} (hc:X.calm = true) (h:PGs X es t)
  (hn:(assignEach es X.env).length = n:=by rfl) (hst:(assignEach es X.env).findIdx? (·.1) = none:=by rfl):PG X (.Tuple es k pos) (acW X.K n t):=by
 intro pins s σ H v u Q I r hw
 obtain ⟨a,xs,e1,hq,hl,hw⟩:=hw
 subst e1
 cases r
 obtain ⟨its,rv,ht,hz⟩:=I.list hq
 refine vd (I.ok.hd hc) ht (by simp [hn,<- hl,rv.length]) hst fun h' hx=>?_
 have I1:Inv X pins σ H { s with heap:=h' }:=I.kept (t':=s.toks) fun b o e=>hx b o (aP (aH e)) e
 exact h pins _ σ H xs _ Q I1 (by simpa using rv) hw
end
theorem cZ.btw {P:Program} {w:World} {H H2 H':Hp} {h h':Heap} {a:Addr} {o:HO} (x:cZ P w H h a o) (y:cZ P w H' h' a o) (s1:Same H H2):cZ P w H2 h' a o:=by
 induction o with
 | ins C dx fs=>exact ⟨s1 dx _ x.1,y.2⟩
 | frz ob u ih=>exact ⟨y.1,ih x.2 y.2⟩
 | _=>exact y
noncomputable def Plus (H H2:Hp):Prop:=Same H H2/\∀ a o,H2 a = some o->H a = some o\/(∃ xs,o = .tup xs)\/∃ xs,o = .lst xs
theorem Plus.refl (H:Hp):Plus H H:=⟨Same.refl H,fun _ _ e=>.inl e⟩
theorem Plus.tup {H H1:Hp} {p:Addr} {xs:List V} (h:Plus H H1) (hp:H1 p = none):Plus H (upd H1 p (.tup xs)):=by
 refine ⟨fun b o e=>?_,fun a o e=>?_⟩
 .rw [bF (bA (h.1 b o e) hp)]; exact h.1 b o e
 .by_cases z:a = p
  .subst z; rw [bB] at e; cases e; exact .inr (.inl ⟨xs,rfl⟩)
  .rw [bF z] at e; exact h.2 a o e
theorem cj.forget {P:Program} {w:World} {K:Frag} {mg:Str->Option Value} {base:Heap} {CX:CXT} {k:Nat} {f:Addr} {fd:FuncData} {ps:List Str} {sp sp':Sp} (F:cj P w K mg base CX k f fd ps sp)
  (hs:∀ vs H Q E,sp' vs H Q E->∃ Q',sp vs H Q' E/\∀ v H',Q' v H'->∃ H2,Plus H H2/\Same H2 H'/\Q v H2):cj P w K mg base CX k f fd ps sp':=by
 refine ⟨fun vs H Q E h=>?_,fun A outer s H args us vs Q E hr e0 hb r h=>?_⟩
 .obtain ⟨Q',h',_⟩:=hs vs H Q E h
  exact F.len vs H Q' E h'
 obtain ⟨Q',h',hq⟩:=hs vs H Q E h
 refine codeAny_mono (F.run A outer s H args us vs _ E hr e0 hb r h') fun res s' hs=>?_
 cases res with
 | error e=>exact hs
 | ok fl =>
  cases fl with
  | ret u =>
   obtain ⟨v,H',ho,hbr,un,hok,rv,q'⟩:=hs
   obtain ⟨H2,⟨s1,cl⟩,s2,q⟩:=hq v H' q'
   have fr:∀ b,H' b = none->H2 b = none:=fun b e=>s2.free e
   refine ⟨v,H2,ho,hbr,⟨un.keep,un.slot,fun b o e n hx=>fr b (un.free b o e n hx),un.there,fun b xs e=>s1 b _ e,fun b o u e=>s1 b _ e,fun b ps e=>⟨#[],by rw [s1 b _ e]; simp⟩⟩,fun a o e=>?_,rv,q⟩
   have z:=hok a o (s2 a o e)
   rcases cl a o e with c | ⟨xs,rfl⟩ | ⟨xs,rfl⟩
   .exact (e0.hok a o c).btw z s1
   .exact z
   .exact z
  | next=>exact hs
  | brk=>exact hs
  | cont=>exact hs
theorem cj.clean {P:Program} {w:World} {K:Frag} {mg:Str->Option Value} {base:Heap} {CX:CXT} {k:Nat} {f:Addr} {fd:FuncData} {ps:List Str} {sp sp':Sp} (F:cj P w K mg base CX k f fd ps sp)
  (h:∀ vs H Q E,sp' vs H Q E->sp vs H (fun v H'=>Same H H'/\Q v H) E):cj P w K mg base CX k f fd ps sp' :=
 F.forget fun vs H Q E hs=>⟨_,h vs H Q E hs,fun v H' ⟨s,q⟩=>⟨H,Plus.refl H,s,q⟩⟩
theorem Same.upd {H:Hp} {p:Addr} {o:HO} (hp:H p = none):Same H (upd H p o):=fun b u e=>by
 rw [bF (bA e hp)]; exact e
theorem cj.cleanP {P:Program} {w:World} {K:Frag} {mg:Str->Option Value} {base:Heap} {CX:CXT} {k:Nat} {f:Addr} {fd:FuncData} {ps:List Str} {sp sp':Sp} (F:cj P w K mg base CX k f fd ps sp)
  (h:∀ vs H Q E,sp' vs H Q E->sp vs H (fun v H'=>Same H H'/\∃ p xs,H' p = some (.tup xs)/\H p = none/\Q v (upd H p (.tup xs))) E):cj P w K mg base CX k f fd ps sp' :=
 F.forget fun vs H Q E hs=>⟨_,h vs H Q E hs,fun v H' ⟨s,p,xs,e,z,q⟩=>by
  refine ⟨_,(Plus.refl H).tup (xs:=xs) z,fun b o y=>?_,q⟩
  by_cases c:b = p
  .subst c; rw [bB] at y; cases y; exact e
  .rw [bF c] at y; exact s b o y⟩
section
variable {X:Cx}
theorem IxR.imp {r r':R2} (h:IxR X r) (i:∀ x y H Q,r' x y H Q->r x y H Q):IxR X r':=by
 intro b pos pins s σ H x y v u Q I rx ry q hs
 exact h _ _ _ _ _ _ _ _ _ _ _ I rx ry (i _ _ _ _ q) hs
noncomputable def Oa:R2:=fun x y H Q=>∃ p xs i v,x = .ref p/\y = .int i/\H p = some (.tup xs)/\atI xs i = some v/\Q v H
noncomputable def I_:R2:=fun x y H Q=>∃ p xs i v,x = .ref p/\y = .int i/\H p = some (.lst xs)/\atI xs i = some v/\Q v H
theorem bV:IxR X Oa:=d7.imp fun x y H Q ⟨p,xs,i,v,a,b,c,d⟩=>⟨p,xs,i,v,a,b,.of c,d⟩
theorem bN:IxR X I_:=W3.imp fun x y H Q ⟨p,xs,i,v,a,b,c,d⟩=>⟨p,xs,i,v,a,b,.of c,d⟩
theorem cV {α:Type} {x:α} {xs:List α} : atI (x :: xs) 0 = some x:=bY (j:=0) rfl
theorem cG {α:Type} {x y:α} {xs:List α} : atI (x :: y :: xs) 1 = some y:=bY (j:=1) rfl
theorem eG.imp {f:Value} {r r':List V->Hp->VK->Prop} (h:eG X f r) (i:∀ xs H Q,r' xs H Q->r xs H Q):eG X f r':=fun pins s σ H xs us Q I rx q=>h pins s σ H xs us Q I rx (i _ _ _ q)
noncomputable def NP:List V->Hp->VK->Prop:=fun xs H Q=>∃ p ys,xs = [.ref p]/\H p = some (.tup ys)/\Q (.int ys.length) H
noncomputable def Nv:List V->Hp->VK->Prop:=fun xs H Q=>∃ p ys,xs = [.ref p]/\H p = some (.lst ys)/\Q (.int ys.length) H
theorem Qa:eG X (.builtin "len") NP:=oU.imp fun xs H Q ⟨p,ys,a,b,c⟩=>⟨p,ys,a,.inr (.of b),c⟩
theorem iC:eG X (.builtin "len") Nv:=oU.imp fun xs H Q ⟨p,ys,a,b,c⟩=>⟨p,ys,a,.inl (.of b),c⟩
noncomputable def tyS (H:Hp):V->Option String
 | .non=>some "NoneType"
 | .bl _=>some "bool"
 | .int _=>some "int"
 | .str _=>some "str"
 | .ref a=>match H a with
  | some (.lst _)=>some "list"
  | some (.tup _)=>some "tuple"
  | some (.dK _)=>some "dict"
  | _=>none
 | _=>none
theorem Zq {K:Frag} {H:Hp} {x:V} {t:String} (h:tyS H x = some t):wW K H x (.type t):=by
 cases x with
 | non=>cases h; exact .non
 | bl=>cases h; exact .bl _
 | int=>cases h; exact .int _
 | str=>cases h; exact .str _
 | byt=>cases h
 | flt=>cases h
 | ty=>cases h
 | ref a =>
  have h:(match H a with
   | some (.lst _)=>some "list"
   | some (.tup _)=>some "tuple"
   | some (.dK _)=>some "dict"
   | _=>none) = some t:=h
  split at h
  .cases h; exact .lst (by assumption)
  .cases h; exact .tup (by assumption)
  .cases h; exact .dK (by assumption)
  .cases h
noncomputable def Qg (t T:String):Bool:=(t == T) || (t == "bool" && T == "int")
theorem MJ {K:Frag} {t T:String} (ht:t ∈ ["NoneType", "bool", "int", "str", "list", "tuple", "dict"]) (hT:T ∈ ["bool", "int", "str", "list", "tuple", "dict"]):PySem.W.kitOne K (.type t) (.type T) = some (Qg t T):=by
 simp only [List.mem_cons,List.not_mem_nil,or_false] at ht hT
 rcases ht with rfl | rfl | rfl | rfl | rfl | rfl | rfl <;> rcases hT with rfl | rfl | rfl | rfl | rfl | rfl <;> with_unfolding_all rfl
theorem Ss {H:Hp} {x:V} {t:String} (h:tyS H x = some t):t ∈ ["NoneType", "bool", "int", "str", "list", "tuple", "dict"]:=by
 cases x with
 | non=>cases h; decide
 | bl=>cases h; decide
 | int=>cases h; decide
 | str=>cases h; decide
 | byt=>cases h
 | flt=>cases h
 | ty=>cases h
 | ref a =>
  have h:(match H a with
   | some (.lst _)=>some "list"
   | some (.tup _)=>some "tuple"
   | some (.dK _)=>some "dict"
   | _=>none) = some t:=h
  split at h <;> cases h <;> decide
noncomputable def Xu:List V->Hp->VK->Prop:=fun xs H Q=>∃ x T t,xs = [x,.ty T]/\T ∈ ["bool", "int", "str", "list", "tuple", "dict"]/\tyS H x = some t/\Q (.bl (Qg t T)) H
theorem iJ:eG X (.builtin "isinstance") Xu:=Iv.imp fun xs H Q ⟨x,T,t,a,b,c,d⟩=>⟨x,.ty T,.type T,.type t,_,a,.inl ⟨T,rfl,rfl⟩,Zq c,MJ (Ss c) b,d⟩
theorem PG.imp {e:Expr} {t t':TG} (h:PG X e t) (i:∀ v σ H Q,t' v σ H Q->t v σ H Q):PG X e t':=fun pins s σ H v u Q I r q=>h pins s σ H v u Q I r (i _ _ _ _ q)
noncomputable def N_ (n:Nat) (t:TGs):TG:=fun v σ H Q=>∃ a xs,v = .ref a/\H a = some (.tup xs)/\xs.length = n/\t xs σ H Q
noncomputable def Oe (n:Nat) (t:TGs):TG:=fun v σ H Q=>∃ a xs,v = .ref a/\H a = some (.lst xs)/\xs.length = n/\t xs σ H Q
theorem fX {es:List Expr} {k:Nat} {t:TGs} {n:Nat} {pos:Pos} (hc:X.calm = true) (h:PGs X es t) (hn:(assignEach es X.env).length = n:=by rfl) (hst:(assignEach es X.env).findIdx? (·.1) = none:=by rfl):PG X (.Tuple es k pos) (N_ n t) :=
 (Z0 hc h hn hst).imp fun v σ H Q ⟨a,xs,e1,e2,e3⟩=>⟨a,xs,e1,.of e2,e3⟩
theorem X4 {es:List Expr} {k:Nat} {t:TGs} {n:Nat} {pos:Pos} (hc:X.calm = true) (h:PGs X es t) (hn:(assignEach es X.env).length = n:=by rfl) (hst:(assignEach es X.env).findIdx? (·.1) = none:=by rfl):PG X (.Tuple es k pos) (Oe n t) :=
 (Vy hc h hn hst).imp fun v σ H Q ⟨a,xs,e1,e2,e3⟩=>⟨a,xs,e1,.of e2,e3⟩
noncomputable def Mg:List V->Hp->VK->Prop:=fun xs H Q=>∃ l ns,xs = [.ref l]/\H l = some (.lst (ns.map V.int))/\ns.length < 64/\∀ (ms:List Int) p,H p = none->ms.Perm ns->ms.Pairwise (· <= ·)->Q (.ref p) (upd H p (.lst (ms.map V.int)))
theorem Qu:eG X (.builtin "sorted") Mg:=Js.imp fun xs H Q ⟨l,ns,a,b,c⟩=>⟨l,ns,a,.of b,c⟩
theorem Fv {H:Hp} : tyS H .non = some "NoneType" := rfl
theorem Ky {H:Hp} {b:Bool} : tyS H (.bl b) = some "bool" := rfl
theorem vL {H:Hp} {i:Int} : tyS H (.int i) = some "int" := rfl
theorem Er {H:Hp} {x:Str} : tyS H (.str x) = some "str" := rfl
theorem Xh {H:Hp} {p:Addr} {xs:List V} (h:H p = some (.tup xs)):tyS H (.ref p) = some "tuple" := by
 show (match H p with
   | some (.lst _)=>some "list"
   | some (.tup _)=>some "tuple"
   | some (.dK _)=>some "dict"
   | _=>none) = _
 rw [h]
theorem VB {H:Hp} {p:Addr} {xs:List V} (h:H p = some (.lst xs)):tyS H (.ref p) = some "list" := by
 show (match H p with
   | some (.lst _)=>some "list"
   | some (.tup _)=>some "tuple"
   | some (.dK _)=>some "dict"
   | _=>none) = _
 rw [h]
noncomputable def Tv:V->Option Bool
 | .bl b=>some b
 | .int i=>some (i != 0)
 | .non=>some false
 | _=>none
theorem Yl {K:Frag} {x:V} {H:Hp} {k:Bool} (h:Tv x = some k):aaC K x H k:=by
 cases x <;> cases h <;> rfl
noncomputable def Xk (ta:TE):TT:=fun σ H Q=>ta σ H fun x H'=>∃ k,Tv x = some k/\Q k H'
theorem dz {a:Expr} {ta:TE} (ha:PE X a ta) (he:∀ whole,isTrue a X.env whole = (do let v <- whole; standAt a.pos; holding [v] (truthy v))):PT X a (Xk ta):=by
 intro pins s σ H Q I h
 exact isTrue_plain (thn (ha pins s σ H _ I h) fun v s1 ⟨x,H1,I1,r1,k,e,q1⟩=>Zz pins s1 σ H1 x v Q I1 r1 ⟨k,Yl e,q1⟩) (he _)
end
section
variable {X:Cx} {st:Stmt} {rest:List Stmt} {t u:TS}
end
noncomputable def OkF (P:Program) (w:World) (K:Frag) (mg:Str->Option Value) (base:Heap) (k:Nat) (x:Str) (ps:List Str) (sp:Sp):Prop :=
 ∃ f fd,cj P w K mg base CX0 k f fd ps sp/\Binds K fd ps []/\mg x = some (.ref f)/\PySem.W.keepIn K (.ref f) = true
noncomputable def dI (K:Frag) (mg:Str->Option Value) (x:Str) (st:Stmt) (ps:List Str):Prop :=
 ∃ f fd,Fun K x x st f fd/\(∀ us:List Value,us.length = ps.length->bindArgs fd ⟨us,[]⟩ = pure (ps.zip us))/\mg x = some (.ref f)
theorem dI.ok {P:Program} {w:World} {K:Frag} {mg:Str->Option Value} {base:Heap} {k:Nat} {x:Str} {st:Stmt} {ps:List Str} {sp:Sp} (h:dI K mg x st ps)
  (hf:∀ f fd,Fun K x x st f fd->cj P w K mg base CX0 k f fd ps sp):OkF P w K mg base k x ps sp:=by
 obtain ⟨f,fd,a,b,c⟩:=h
 exact ⟨f,fd,hf f fd a,.all b,c,a.kp⟩
theorem Xb {K:Frag} {h:Heap} {mg:Str->Option Value} {x:Str} {st:Stmt} {ps:List Str} {f:Addr} {oc:Value} {od an:Option Addr} {osl:Array (Option Value)} {kV doc pm cdv ct:Value} (X:K.In h) (G:h.Ns mainGlobals mg)
  (a:PySem.W.nsIn K mainGlobals x = some (some (.ref f))) (l:K.lookup f = some ⟨oc,od,.func (PySem.W.fnOf x x (iG st) (eX st) (bH st) .none kV doc pm an cdv ct),osl⟩)
  (c:PySem.W.codeIn K cdv x = true) (k:PySem.W.keepIn K (.ref f) = true)
  (hb:∀ (kV doc pm:Value) (an:Option Addr) (cdv ct:Value) (us:List Value),us.length = ps.length->bindArgs (PySem.W.fnOf x x (iG st) (eX st) (bH st) .none kV doc pm an cdv ct) ⟨us,[]⟩ = pure (ps.zip us)):dI K mg x st ps :=
 ⟨f,_,RN l c k,hb kV doc pm an cdv ct,PySem.W.mg_of X G a⟩
noncomputable def Nx (K:Frag):Sp:=fun vs H Q _=>∃ (a:Addr) (ns:List Int),vs = [.ref a]/\SqL K H a (ns.map V.int)/\ns.length <= 63/\Only H/\∀ H',Q (.bl true) H'
theorem aaL {l:PySem.W.OpenLaw} {k:Nat} {x:Str} {q:Program} {loose:List Str} {XP:(Str->Option Value)->Heap->Prop} {YP:World->Heap->Prop} {d:DefRec} {K:Params->Frag} (hn:l.most = some 63) (hdf:d.params.defaults = [])
  (hr:fW k callerA) (hY:∀ (w:World) (h:Heap),YP w h->(K w.params).In h)
  (F:∀ (w:World) (mg:Str->Option Value) (fa:Addr) (h:Heap),(K w.params).In h->h.Ns mainGlobals mg->mg d.name = some (.ref fa) ->
   ∃ st,dI (K w.params) mg d.name st [x]/\∀ (base:Heap) (f:Addr) (fd:FuncData),Fun (K w.params) d.name d.name st f fd->cj l.prog w (K w.params) mg base CX0 k f fd [x] (Nx (K w.params))) :
  PySem.W.WalkO q loose XP YP l.row.toRowW d [] (fun f vs=>PySem.call f vs):=by
 refine L2.Nb (n:=63) (k:=k) (x:=x) (CX:=fun _=>CX0) (sp:=fun w=>Nx (K w.params)) hn (by decide) hdf hr hY (fun w mg fa h KX G hmg=>?_) (fun _ _ a ns hl hO hS=>⟨a,ns,rfl,hS,hl,hO,fun _=>rfl⟩) fun _ _ _ _ _ z=>z
 obtain ⟨st,⟨f,fd,hf,hb,hm⟩,ok⟩:=F w mg fa h KX G hmg
 rw [hm] at hmg
 have e:f = fa:=by injection hmg with z; injection z
 subst e
 exact ⟨fd,fun s u=>.of_eq (hb [u] rfl),fun base _ _=>ok base f fd hf⟩
section
variable {X:Cx} {p pos:Pos} {e:Expr} {es:List Expr} {t:TA} {x:Str} {k:Nat} {ps:List Str} {sp:Sp}
noncomputable def Ba (sp:Sp) (t:TA):TE:=fun σ H Q=>t σ H fun vs H1=>sp vs H1 Q E0
theorem bK (G:OkF X.prog X.w X.K X.mg X.base k x ps sp) (hr:fW k X.A) (hg:Gl X x) (ha:PA X (e :: es) t) (hdb:(x == ("__debug__" : Str)) = false:=by decide)
  (he:starEach (e :: es) X.env = (false,eval e X.env) :: starEach es X.env:=by rfl) (hpl:(backTo pos (starEach es X.env)).any (·.1) = false:=by rfl):PE X (.Call (.Name x p) (e :: es) [] pos) (Ba sp t):=by
 obtain ⟨f,fd,F,b,hm,kp⟩:=G
 intro pins s σ H Q I h
 refine XD F hr hg hm kp b .nil Uk ha hdb he hpl pins s σ H Q I ?_
 show t σ H fun vs H1=>sp (vs ++ []) H1 Q E0
 simp only [List.append_nil]
 exact h
end
theorem Fp (a:Int):(if a < 0 then -a else a) = ((a.natAbs:Nat):Int):=by split <;> omega
theorem Q8 {ms:List Int} {x y:Int} (h:ms.Perm [x,y]):ms = [x,y]\/ms = [y,x]:=by
 match ms,h.length_eq with
 | [l,k],_ =>
  have h1:l ∈ [x,y]:=h.mem_iff.mp (by simp)
  simp only [List.mem_cons,List.not_mem_nil,or_false] at h1
  rcases h1 with rfl | rfl
  .have h2:=(List.perm_cons l).mp h
   have h3:=h2.mem_iff.mp (aM)
   simp only [List.mem_cons,List.not_mem_nil,or_false] at h3
   exact .inl (by rw [h3])
  .have h2:=(List.perm_cons l).mp (h.trans (List.Perm.swap ..))
   have h3:=h2.mem_iff.mp (aM)
   simp only [List.mem_cons,List.not_mem_nil,or_false] at h3
   exact .inr (by rw [h3])
theorem uL (a b:Nat):Int.fmod (a:Int) (b:Int) = ((a % b:Nat):Int):=by
 rw [aV _ (Int.natCast_nonneg b)]; rfl
theorem mO (a:Int) {b:Int} (h:0 < b):Int.fdiv a b = a / b:=Int.fdiv_eq_ediv_of_nonneg a (Int.le_of_lt h)
theorem Bd.div {a b:Int} (h:Bd a) (hb:0 < b):Bd (a / b):=by
 unfold Bd at *
 refine Nat.lt_of_le_of_lt ?_ h
 have e:=Int.mul_ediv_add_emod a b
 have r0:=Int.emod_nonneg a (show b ≠ 0 by omega)
 have r1:=Int.emod_lt_of_pos a hb
 generalize a / b = q at *
 generalize a % b = r at *
 rcases (by omega:q = 0\/1 <= q\/q <= -1) with z | z | z
 .subst z; simp
 .have:=Int.mul_le_mul_of_nonneg_right (show 1 <= b by omega) (show 0 <= q by omega)
  omega
 .have h1:b * (q + 1) <= 1 * (q + 1):=Int.mul_le_mul_of_nonpos_right (show 1 <= b by omega) (show q + 1 <= 0 by omega)
  rw [Int.mul_add] at h1
  omega
end L2
namespace L2
open PySem PySem.Spec PyProof.Rows
noncomputable def TrD (h base:Heap) (e:Addr) (cls:Value) (d:Option Addr) (fl:Value):Prop :=
 ∃ oe vs T oT ts,h.get? e = some oe/\(oe.cls = cls/\oe.dict = d)/\oe.data = .fields vs/\vs[1]? = some (.ref T)/\base.get? T = none/\T ≠ e/\h.get? T = some oT/\oT.data = .fields ts/\ts[3]? = some fl
noncomputable def pG (base:Heap) (l:List Env) (e:Addr) (cls:Value) (d:Option Addr) (fl:Value) (h:Heap):Prop :=
 base.StaysIn h/\base.get? e = none/\h.FunFrames base l/\TrD h base e cls d fl
theorem pG.first {base h:Heap} {l:List Env} {e:Addr} {cls fl:Value} {d:Option Addr} (x:pG base l e cls d fl h):∃ oe vs,h.get? e = some oe/\oe.cls = cls/\oe.dict = d/\oe.data = .fields vs :=
 let ⟨_,_,_,oe,vs,_,_,_,he,hc,hd,_⟩:=x; ⟨oe,vs,he,hc.1,hc.2,hd⟩
section
variable {M:Model} {A:Around} {E:Value->Shared->Prop} {s:Shared} {base:Heap} {env:Env} {outer l:List Env} {L e:Addr} {cls:Value} {d:Option Addr} {Q:Unit->Shared->Prop}
theorem zE (o:Obj) (f:Array Value->Array Value):(Obj.mapFields f o).dict = o.dict:=by
 unfold Obj.mapFields
 split <;> rfl
theorem Ti {oe:Obj} {vs:Array Value} {head:Value} {hadNext:Bool} (hfr:A.frames = some (env :: outer)) (hl:s.heap.FunFrames base (env :: outer)) (hf:env.frame = some L) (he:s.heap.get? e = some oe)
  (hkb:base.StaysIn s.heap) (hen:base.get? e = none) (hd:oe.data = .fields vs) (hsz:1 < vs.size) (h:∀ h',pG base (env :: outer) e oe.cls oe.dict (rawInt L) h'->s.heap.UpToSlots h'->Q () { s with heap:=h' }) :
  wpAny M A (do let a <- frameOf env; let pl <- entryPlaceOf L hadNext; let b <- EntryCells.newEntry head a .none (rawInt L) .none pl; setField (.ref e) 1 b) Q E s:=by
 have nofr:e ∉ (env :: outer).filterMap (·.frame):=fun z=>by
  obtain ⟨_,o,ho,hnf⟩:=hl.mem z
  rw [he] at ho; cases ho; exact hnf vs hd
 refine wpAny_bind (wpAny_frameOf_fun hfr hl hf fun g hg=>wpAny_bind (wpAny_entryPlaceOf fun pl hpl=>?_))
 unfold EntryCells.newEntry newFields
 refine wpAny_bind (wpAny_newObj_type ?_ (hpl.sizeOk5 _ _ _ _ _))
 have eg:g.get? e = some oe:=(hg.2.1 e nofr).trans he
 have kg:base.StaysIn g:=fun b o q=>(hg.2.1 b fun z=>by rw [(hl.mem z).1] at q; cases q).trans (hkb b o q)
 generalize ho':({ cls:=.type "traceback",dict:=none,data:=.fields ([head,.ref L,.none,rawInt L,.none] ++ (if pl.isEmpty then List.replicate 6 Value.none else pl)).toArray } : Obj) = ot
 have nTe:g.objs.size ≠ e:=Nat.ne_of_gt (aH eg)
 have e2:(g.push ot).get? e = some oe:=aF _ eg
 refine wpAny_setField e2 hd hsz (h _ ?_ ?_)
 all_goals
  have d3:=Obj.data_mapFields hd (·.setIfInBounds 1 (Value.ref g.objs.size))
  have e3:=Heap.get?_update_self (Obj.mapFields (·.setIfInBounds 1 (Value.ref g.objs.size))) e2 (Obj.isFreed_of_fields d3)
  have keep:∀ b o,b ≠ e->g.get? b = some o->((g.push ot).update e (Obj.mapFields (·.setIfInBounds 1 (Value.ref g.objs.size)))).get? b = some o:=fun b o nb q=>by
   rw [Heap.get?_update_other _ _ (Ne.symm nb)]; exact aF _ q
  have nr:∀ b o,s.heap.get? b = some o->(∀ ws,o.data ≠ .fields ws)->b ≠ e:=fun b o q nf z=>by
   rw [z,he] at q; cases q; exact nf vs hd
 .refine ⟨fun b o q=>keep b o (fun z=>by rw [z,hen] at q; cases q) (kg b o q),hen,hl.of_keeps fun b o q nf=>?_,?_⟩
  .obtain ⟨sl,z⟩:=hg.2.2 b o q
   exact ⟨_,keep b _ (nr b o q nf) z,rfl⟩
  .refine ⟨_,_,g.objs.size,ot,_,e3,⟨Obj.cls_mapFields _ _,zE _ _⟩,d3,by simp [hsz],kg.fresh,nTe,?_,by rw [<- ho'],?_⟩
   .rw [Heap.get?_update_other _ _ (Ne.symm nTe)]; exact aW g (by rw [<- ho']; rfl)
   .first | (simp; done) | (rcases hpl with rfl | ⟨_,_,_,_,_,_,_,rfl⟩ <;> simp)
 .intro b o q nf
  obtain ⟨sl,z⟩:=hg.2.2 b o q
  exact ⟨sl,keep b _ (nr b o q nf) z⟩
theorem JZ {oe:Obj} {vs:Array Value} (hfr:A.frames = some (env :: outer)) (hl:s.heap.FunFrames base (env :: outer)) (hf:env.frame = some L) (he:s.heap.get? e = some oe)
  (hkb:base.StaysIn s.heap) (hen:base.get? e = none) (hd:oe.data = .fields vs) (h1:vs[1]? = some .none) (h:∀ h',pG base (env :: outer) e oe.cls oe.dict (rawInt L) h'->s.heap.UpToSlots h'->Q () { s with heap:=h' }) :
  wpAny M A (noteFrame (.ref e) env) Q E s:=by
 unfold noteFrame
 simp only [hf]
 refine wpAny_bind (wpAny_field he hd h1 ?_)
 rw [if_neg (by decide)]
 exact Ti hfr hl hf he hkb hen hd (Array.getElem?_eq_some_iff.mp h1).1 h
theorem Dc (hfr:A.frames = some (env :: outer)) (hf:env.frame = some L) (x:pG base (env :: outer) e cls d .none s.heap)
  (h:∀ h',pG base (env :: outer) e cls d (rawInt L) h'->s.heap.UpToSlots h'->Q () { s with heap:=h' }):wpAny M A (noteFrame (.ref e) env) Q E s:=by
 obtain ⟨hkb,hen,hl,oe,vs,T,oT,ts,he,⟨hc,hdd⟩,hd,h1,nT,nTe,hT,hdT,h3⟩:=x
 subst hc hdd
 unfold noteFrame
 simp only [hf]
 refine wpAny_bind (wpAny_field he hd h1 ?_)
 rw [if_pos (show (Value.ref T != Value.none) = true from by simp)]
 refine wpAny_bind (wpAny_field hT hdT h3 ?_)
 rw [if_neg (show ¬ ((Value.none == rawInt L) = true) from by simp [rawInt])]
 refine wpAny_bind (wpAny_setField hT hdT (Array.getElem?_eq_some_iff.mp h3).1 ?_)
 have other:∀ b,b ≠ T->(s.heap.update T (Obj.mapFields (·.setIfInBounds 3 Value.none))).get? b = s.heap.get? b:=fun b hb=>Heap.get?_update_other _ _ (Ne.symm hb)
 have nr:∀ b o,s.heap.get? b = some o->(∀ ws,o.data ≠ .fields ws)->b ≠ T:=fun b o q nf z=>by
  rw [z,hT] at q; cases q; exact nf ts hdT
 refine Ti (s:={ s with heap:=_ }) hfr (hl.of_keeps fun b o q nf=>⟨o,(other b (nr b o q nf)).trans q,rfl⟩) hf ((other e (Ne.symm nTe)).trans he)
  (fun b o q=>(other b fun z=>by rw [z,nT] at q; cases q).trans (hkb b o q)) hen hd (Array.getElem?_eq_some_iff.mp h1).1 fun h' y up=>h h' y fun b o q nf=>up b o ((other b (nr b o q nf)).trans q) nf
theorem Oo {fl:Value} (x:pG base l e cls d fl s.heap) (h:∀ h',pG base l e cls d .none h'->s.heap.UpToSlots h'->Q () { s with heap:=h' }):wpAny M A (setFlight (.ref e) none) Q E s:=by
 obtain ⟨hkb,hen,hl,oe,vs,T,oT,ts,he,hc,hd,h1,nT,nTe,hT,hdT,h3⟩:=x
 have z3:3 < ts.size:=(Array.getElem?_eq_some_iff.mp h3).1
 have other:∀ b,b ≠ T->(s.heap.update T (Obj.mapFields (·.setIfInBounds 3 ((none:Option Addr).elim Value.none fun f=>rawInt f)))).get? b = s.heap.get? b:=fun b hb=>Heap.get?_update_other _ _ (Ne.symm hb)
 have nr:∀ b o,s.heap.get? b = some o->(∀ ws,o.data ≠ .fields ws)->b ≠ T:=fun b o q nf z=>by
  rw [z,hT] at q; cases q; exact nf ts hdT
 unfold setFlight
 refine wpAny_bind (wpAny_field he hd h1 ?_)
 rw [if_pos (show (Value.ref T != Value.none) = true from by simp)]
 refine wpAny_setField hT hdT z3 (h _ ⟨fun b o q=>(other b fun z=>by rw [z,nT] at q; cases q).trans (hkb b o q),hen,hl.of_keeps fun b o q nf=>⟨o,(other b (nr b o q nf)).trans q,rfl⟩,?_⟩ fun b o q nf=>⟨o.slots,(other b (nr b o q nf)).trans q⟩)
 exact ⟨oe,vs,T,_,_,(other e (Ne.symm nTe)).trans he,hc,hd,h1,nT,nTe,Heap.get?_update_self _ hT (Obj.isFreed_of_fields (Obj.data_mapFields hdT _)),Obj.data_mapFields hdT _,by simp [z3]⟩
theorem pG.pop {fl:Value} {h:Heap} (x:pG base (env :: outer) e cls d fl h):pG base outer e cls d fl h:=⟨x.1,x.2.1,x.2.2.1.2.2,x.2.2.2⟩
theorem Te (hfr:A.frames = some (env :: outer)) (hf:env.frame = some L) (x:pG base (env :: outer) e cls d .none s.heap)
  (h:∀ h',pG base outer e cls d .none h'->s.heap.UpToSlots h'->Q () { s with heap:=h' }):wpAny M A (leaving env (.ref e)) Q E s:=by
 unfold leaving
 exact wpAny_bind (Dc hfr hf x fun h1 y up=>Oo y fun h2 z up2=>h h2 z.pop (up.trans up2))
theorem Cw {h0:Heap} {oe:Obj} {vs:Array Value} (hfr:A.frames = some (env :: outer)) (hf:env.frame = some L) (hkb:base.StaysIn h0) (hl:h0.FunFrames base (env :: outer)) (keeps:∀ b o,h0.get? b = some o->s.heap.get? b = some o)
  (new:h0.get? e = none) (he:s.heap.get? e = some oe) (hd:oe.data = .fields vs) (h1:vs[1]? = some .none)
  (h:∀ h',pG base outer e oe.cls oe.dict .none h'->s.heap.UpToSlots h'->Q () { s with heap:=h' }):wpAny M A (leaving env (.ref e)) Q E s:=by
 have hen:base.get? e = none:=by
  cases q:base.get? e with
  | none=>rfl
  | some o=>have:=hkb e o q; rw [new] at this; cases this
 unfold leaving
 exact wpAny_bind (JZ hfr (hl.of_keeps fun b o q _=>⟨o,keeps b o q,rfl⟩) hf he (fun b o q=>keeps b o (hkb b o q)) hen hd h1 fun h1 y up=>Oo y fun h2 z up2=>h h2 z.pop (up.trans up2))
end
theorem cZ.there {P:Program} {w:World} {H:Hp} {h:Heap} {a:Addr} {o:HO} (x:cZ P w H h a o):∃ ob,h.get? a = some ob:=by
 cases o with
 | lst xs=>obtain ⟨_,_,_,_,e⟩:=x; exact ⟨_,e⟩
 | tup xs=>obtain ⟨_,_,_,o,e,_⟩:=x; exact ⟨_,e⟩
 | dK kvs=>obtain ⟨_,_,_,_,o,_,_,e,_⟩:=x; exact ⟨_,e⟩
 | set S n=>obtain ⟨o,_,_,_,e,_⟩:=x; exact ⟨_,e⟩
 | ins C dx fs=>obtain ⟨_,_,_,e,_⟩:=x; exact ⟨_,e⟩
 | own y=>exact x
 | xd fs=>obtain ⟨_,⟨_,_,_,e,_⟩,_⟩:=x; exact ⟨_,e⟩
 | rng lo hi=>obtain ⟨_,_,_,e⟩:=x; exact ⟨_,e⟩
 | frz ob u=>obtain ⟨e,_⟩:=x; exact ⟨_,e⟩
 | tbl ps=>exact ⟨_,(show h.get? a = some _ from x)⟩
 | met f y=>exact ⟨_,(show h.get? a = some _ from x)⟩
 | ext φ=>obtain ⟨_,e,_⟩:=x; exact e
structure Fly (P:Program) (w:World) (l:List Env) (H:Hp) (s:Shared) (a:Addr) (C:Value) (H':Hp) (s':Shared) (B:Heap) (d:Option Addr):Prop where
 os:s'.os = s.os
 bare:AllBare s'.gens
 new:s.heap.get? a = none
 un:Un (frs l) [] H H' s.heap s'.heap
 hok:HOk P w H' s'.heap
 frf:∀ b ∈ frs l,H' b = none
 fl:pG B l a C d .none s'.heap
 cov:∀ b o,s'.heap.get? b = some o->b ∉ frs l->((∃ u,s.heap.get? b = some u)\/∃ u,H' b = some u)->B.get? b = some o
section
variable {P:Program} {w:World} {l:List Env} {H H':Hp} {s s':Shared} {a:Addr} {C:Value} {B:Heap} {d:Option Addr} {h':Heap}
theorem Fly.trk (F:Fly P w l H s a C H' s' B d) {b:Addr} {u:HO} {o:Obj} (e:H' b = some u) (q:s'.heap.get? b = some o):B.get? b = some o :=
 F.cov b o q (fun z=>by rw [F.frf b z] at e; cases e) (.inr ⟨u,e⟩)
theorem Fly.hok' (F:Fly P w l H s a C H' s' B d) (k:∀ b o,B.get? b = some o->h'.get? b = some o):HOk P w H' h':=fun b u e =>
 (F.hok b u e).stay (fun c v hc q=>k c v (by
  rcases hc with z | z
  .subst z; exact F.trk e q
  .exact F.trk z q)) (fun _ q=>q) fun _ _ q=>q
theorem Fly.un' (F:Fly P w l H s a C H' s' B d) (k:∀ b o,B.get? b = some o->h'.get? b = some o) (up:s'.heap.UpToSlots h'):Un (frs l) [] H H' s.heap h':=by
 have nf:∀ b ∈ frs l,∀ o,s'.heap.get? b = some o->∀ vs,o.data ≠ .fields vs:=fun b hb o e=>by
  obtain ⟨_,o',e',d⟩:=F.fl.2.2.1.mem hb
  rw [e] at e'
  cases e'
  exact d
 refine ⟨fun b o q n hb hx=>k b o (F.cov b o (F.un.keep b o q n hb hx) hb (.inl ⟨o,q⟩)),fun b o q n hb hx=>?_,F.un.free,fun b o q hx=>?_,F.un.tups,F.un.frzs,F.un.tbls⟩
 .obtain ⟨sl,e⟩:=F.un.slot b o q n hb hx
  obtain ⟨sl',e'⟩:=up b _ e (nf b hb _ e)
  exact ⟨sl',e'⟩
 .obtain ⟨o',e⟩:=F.un.there b o q hx
  by_cases hb:b ∈ frs l
  .obtain ⟨sl',e'⟩:=up b _ e (nf b hb _ e)
   exact ⟨_,e'⟩
  .exact ⟨o',k b o' (F.cov b o' e hb (.inl ⟨o,q⟩))⟩
end
section
variable {X:Cx} {pins:List (Addr × Obj)} {σ:List (Option V)} {H H':Hp} {s s':Shared} {a:Addr} {C:Value} {B:Heap} {d:Option Addr} {h':Heap}
theorem Inv.flown (I:Inv X pins σ H s) (F:Fly X.prog X.w X.stack H s a C H' s' B d) (k:∀ b o,B.get? b = some o->h'.get? b = some o) (up:s'.heap.UpToSlots h'):Inv X pins σ H' { s' with heap:=h' } :=
 I.call' (s':={ s' with heap:=h' }) (ch:=[]) F.os (F.un' k up) (F.hok' k) F.bare fun _ z=>nomatch z
theorem Inv.old (I:Inv X pins σ H s) (hx:X.ex = []) {b:Addr} {o:Obj} (e:X.s₀.heap.get? b = some o):(∃ u,s.heap.get? b = some u)/\b ≠ X.env.locals:=by
 obtain ⟨u,q⟩:=I.base.there b o e (by rw [hx]; simp)
 exact ⟨⟨u,q⟩,aP (aQ (aH e) I.ok.above)⟩
theorem Inv.nostk (I:Inv X pins σ H s) {b:Addr} (h1:b ≠ X.env.locals) (h2:b ∉ X.fs):b ∉ frs X.stack:=fun z=>by
 rcases List.mem_cons.mp (I.stkSub b z) with e | e
 .exact h1 e
 .exact h2 e
theorem Inv.flyOut (I:Inv X pins σ H s) (hx:X.ex = []) (F:Fly X.prog X.w X.stack H s a C H' s' B d) (fl:pG B X.outer a C d .none h') (up:s'.heap.UpToSlots h') :
  Fly X.prog X.w X.outer X.H₀ X.s₀ a C H' { s' with heap:=h' } B d:=by
 have J:=I.flown F fl.1 up
 refine ⟨J.os,J.bare,?_,by have:=J.base; rw [hx] at this; exact this,J.hok,fun b hb=>?_,fl,fun b o e hb hc=>?_⟩
 .cases q:X.s₀.heap.get? a with
  | none=>rfl
  | some o =>
   obtain ⟨⟨u,z⟩,_⟩:=I.old hx q
   rw [F.new] at z; cases z
 .obtain ⟨_,o,ho,_⟩:=I.ok.funs.mem hb
  exact J.base.free b o ho (I.ok.frf b hb) fun z=>I.ok.exfs b z hb
 .rcases hc with ⟨u,q⟩ | ⟨u,q⟩
  .obtain ⟨⟨v,z⟩,n⟩:=I.old hx q
   obtain ⟨o',e'⟩:=F.un.there b v z (by simp)
   have y:=F.cov b o' e' (I.nostk n hb) (.inl ⟨v,z⟩)
   have e2:=fl.1 b o' y
   rw [show ({ s' with heap:=h' } : Shared).heap.get? b = h'.get? b from rfl,e2] at e
   cases e
   exact y
  .obtain ⟨o',e'⟩:=(F.hok b u q).there
   have y:=F.trk q e'
   have e2:=fl.1 b o' y
   rw [show ({ s' with heap:=h' } : Shared).heap.get? b = h'.get? b from rfl,e2] at e
   cases e
   exact y
theorem Inv.flyNew (I:Inv X pins σ H s) (hx:X.ex = []) {h1:Heap} {t:Nat} (keeps:∀ b o,s.heap.get? b = some o->h1.get? b = some o) (new:s.heap.get? a = none) (hB:B = PySem.W.hideAll s.heap (frs X.stack)) (fl:pG B X.outer a C d .none h') (up:h1.UpToSlots h') :
  Fly X.prog X.w X.outer X.H₀ X.s₀ a C H { s with heap:=h',toks:=t } B d:=by
 have inB:∀ b o,s.heap.get? b = some o->b ∉ frs X.stack->B.get? b = some o:=fun b o e n=>by rw [hB]; exact PySem.W.hideAll_get _ e n
 have trk:∀ b u o,H b = some u->s.heap.get? b = some o->B.get? b = some o:=fun b u o e q=>inB b o q fun z=>by
  rw [I.stkFree b z] at e; cases e
 have up2:s.heap.UpToSlots h':=(Heap.UpToSlots.of_keeps keeps).trans up
 have nf:∀ b ∈ frs X.stack,∀ o,s.heap.get? b = some o->∀ vs,o.data ≠ .fields vs:=fun b hb o e=>by
  obtain ⟨_,o',e',d⟩:=I.stack.mem hb
  rw [e] at e'
  cases e'
  exact d
 have hok:HOk X.prog X.w H h':=fun b u e=>(I.hok b u e).stay (fun c v hc q=>fl.1 c v (by
  rcases hc with z | z
  .subst z; exact trk c u v e q
  .exact trk c _ v z q)) (fun _ q=>q) fun _ _ q=>q
 have un:Un (frs X.stack) [] H H s.heap h':=by
  refine ⟨fun b o q n hb _=>fl.1 b o (inB b o q hb),fun b o q n hb _=>up2 b o q (nf b hb o q),fun _ _ _ n _=>n,fun b o q _=>?_,fun _ _ q=>q,fun _ _ _ q=>q,fun _ ps q=>⟨#[],by rw [q]; simp⟩⟩
  by_cases hb:b ∈ frs X.stack
  .obtain ⟨sl,e⟩:=up2 b o q (nf b hb o q)
   exact ⟨_,e⟩
  .exact ⟨o,fl.1 b o (inB b o q hb)⟩
 have J:Inv X pins σ H { s with heap:=h',toks:=t }:=I.call' (s':={ s with heap:=h',toks:=t }) (ch:=[]) rfl un hok I.bare fun _ z=>nomatch z
 refine ⟨J.os,J.bare,?_,by have:=J.base; rw [hx] at this; exact this,J.hok,fun b hb=>?_,fl,fun b o e hb hc=>?_⟩
 .cases q:X.s₀.heap.get? a with
  | none=>rfl
  | some o =>
   obtain ⟨⟨u,z⟩,_⟩:=I.old hx q
   rw [new] at z; cases z
 .obtain ⟨_,o,ho,_⟩:=I.ok.funs.mem hb
  exact J.base.free b o ho (I.ok.frf b hb) fun z=>I.ok.exfs b z hb
 .rcases hc with ⟨u,q⟩ | ⟨u,q⟩
  .obtain ⟨⟨v,z⟩,n⟩:=I.old hx q
   have y:=inB b v z (I.nostk n hb)
   have e2:=fl.1 b v y
   rw [show ({ s with heap:=h',toks:=t } : Shared).heap.get? b = h'.get? b from rfl,e2] at e
   cases e
   exact y
  .obtain ⟨o',e'⟩:=(I.hok b u q).there
   have y:=trk b u o' q e'
   have e2:=fl.1 b o' y
   rw [show ({ s with heap:=h',toks:=t } : Shared).heap.get? b = h'.get? b from rfl,e2] at e
   cases e
   exact y
end
noncomputable def CXO (P:Program) (w:World):CXT:=fun l H s E e s'=>∃ a C d H' B,e = .ref a/\Fly P w l H s a C H' s' B d/\E C d H'
noncomputable def zN (X:Cx) (Ex:Value->Option Addr->L2.St->Hp->Prop):Prop :=
 ∀ pins σ H s a C H' s' B d,Inv X pins σ H s->Fly X.prog X.w X.stack H s a C H' s' B d->Ex C d σ H'->X.xe (.ref a) s'
noncomputable def Yw (X:Cx) (Ex:Value->Option Addr->L2.St->Hp->Prop):Prop :=
 ∀ pins σ H s a C vs h1,Inv X pins σ H s->Heap.MadeExcOf s.heap h1 a C vs->Ex C none σ H->X.xe (.ref a) { s with heap:=h1 }
section
variable {P:Program} {w:World} {K:Frag} {mg:Str->Option Value} {base:Heap} {N:List Str} {qual:Str} {scope:Scope} {f:Addr} {cd:Value} {A:Around} {outer:List Env} {s:Shared} {H:Hp} {E:XK}
theorem eF:zN (A_ (CXO P w) P w K mg base N qual scope f cd A outer s H E) (fun C d _ H'=>E C d H'):=by
 intro pins σ H1 s1 a C H' s' B d I F q
 show wpAny _ _ (leaving _ (.ref a)) _ _ _
 refine Te (outer:=outer) I.ok.frames rfl F.fl fun h' fl up=>?_
 exact ⟨a,C,d,H',B,rfl,I.flyOut rfl F fl up,q⟩
theorem qQ:Yw (A_ (CXO P w) P w K mg base N qual scope f cd A outer s H E) (fun C d _ H'=>E C d H'):=by
 intro pins σ H1 s1 a C vs h1 I M q
 show wpAny _ _ (leaving _ (.ref a)) _ _ _
 have hin:∀ env ∈ (envOfC qual scope s.heap.objs.size f cd :: outer),∀ b,env.frame = some b->b ∈ frs (envOfC qual scope s.heap.objs.size f cd :: outer):=fun env he b hb=>List.mem_filterMap.mpr ⟨env,he,hb⟩
 obtain ⟨t,he,_,_⟩:=M.there
 refine Cw (base:=PySem.W.hideAll s1.heap (frs (envOfC qual scope s.heap.objs.size f cd :: outer))) (h0:=s1.heap) (outer:=outer) I.ok.frames rfl (fun b o q=>PySem.W.of_hideAll _ q) (PySem.W.funFrames_hide I.stack hin) M.keeps M.new he rfl rfl fun h' fl up=>?_
 exact ⟨a,C,none,H1,_,rfl,I.flyNew rfl M.keeps M.new rfl fl up,q⟩
end
section
variable {P:Program} {w:World} {K:Frag} {mg:Str->Option Value} {base:Heap}
theorem Fun.okX {x qual:Str} {st:Stmt} {f:Addr} {fd:FuncData} {N ps:List Str} {k:Nat} {sp:Sp} (F:Fun K x qual st f fd) (S:bO N ps (bH st)) (len:∀ vs H Q E,sp vs H Q E->vs.length = ps.length)
  (hbody:∀ (cdv:Value) (A:Around) (outer:List Env) (s:Shared) (H:Hp) (vs:List V) (Q:VK) (E:XK),fW k (A.deeper (envOfC qual (bH st) s.heap.objs.size f cdv))->sp vs H Q E ->
   ∃ t,PSs (A_ (CXO P w) P w K mg base N qual (bH st) f cdv A outer s H E) (eX st) t/\t { nx:=fun _ H'=>Q .non H',rt:=Q } (L2.start N vs) H):cj P w K mg base (CXO P w) (k + 1) f fd ps sp:=by
 obtain ⟨oc,od,kV,doc,pm,an,cdv,ct,osl,rfl,lk,hcd⟩:=F.ex
 exact Yt lk hcd S len fun A outer s H vs Q E hr hsp=>hbody cdv A outer s H vs Q E hr hsp
noncomputable def OkX (P:Program) (w:World) (K:Frag) (mg:Str->Option Value) (base:Heap) (k:Nat) (x:Str) (ps:List Str) (sp:Sp):Prop :=
 ∃ f fd,cj P w K mg base (CXO P w) k f fd ps sp/\Binds K fd ps []/\mg x = some (.ref f)/\PySem.W.keepIn K (.ref f) = true
theorem dI.okX {k:Nat} {x:Str} {st:Stmt} {ps:List Str} {sp:Sp} (h:dI K mg x st ps)
  (hf:∀ f fd,Fun K x x st f fd->cj P w K mg base (CXO P w) k f fd ps sp):OkX P w K mg base k x ps sp:=by
 obtain ⟨f,fd,a,b,c⟩:=h
 exact ⟨f,fd,hf f fd a,.all b,c,a.kp⟩
end
section
variable {X:Cx} {p pos:Pos} {e:Expr} {es:List Expr} {t:TA} {x:Str} {k:Nat} {ps:List Str} {sp:Sp} {Ex:Value->Option Addr->L2.St->Hp->Prop}
noncomputable def xG (sp:Sp) (Ex:Value->Option Addr->L2.St->Hp->Prop) (t:TA):TE:=fun σ H Q=>t σ H fun vs H1=>sp vs H1 Q fun C d H'=>Ex C d σ H'
theorem fL (G:OkX X.prog X.w X.K X.mg X.base k x ps sp) (hr:fW k X.A) (hg:Gl X x) (hx:zN X Ex) (ha:PA X (e :: es) t) (hdb:(x == ("__debug__" : Str)) = false:=by decide)
  (he:starEach (e :: es) X.env = (false,eval e X.env) :: starEach es X.env:=by rfl) (hpl:(backTo pos (starEach es X.env)).any (·.1) = false:=by rfl):PE X (.Call (.Name x p) (e :: es) [] pos) (xG sp Ex t):=by
 obtain ⟨f,fd,F,hb,hm,kp⟩:=G
 intro pins s σ H Q I h
 refine wpAny_Call_Name_kw (lU I hg hm ?_ hdb)
 refine PySem.W.callWith_K (h₀:=X.base) I.ok.mod.kin kp (thn (ha pos pins s σ H _ I h) fun us s1 ⟨vs,H1,I1,r,q⟩=>⟨I1.kIn,?_⟩) he hpl
 have hl:us.length = ps.length:=by rw [<- r.length]; exact F.len _ _ _ _ q
 have hb':=hb s1 us I1.kIn (by simpa using hl)
 simp only [List.append_nil] at hb'
 refine wpAny_call (codeAny_mono (F.run X.A X.stack s1 H1 ⟨us,[]⟩ us vs Q _ hr I1.env0 hb' r q) fun r s' hq=>?_)
 cases r with
 | error e =>
  obtain ⟨a,C,d,H',B,rfl,Fl,q'⟩:=hq
  exact hx pins σ H1 s1 a C H' s' B d I1 Fl q'
 | ok fl =>
  cases fl with
  | ret u=>exact I1.after hq
  | next=>exact False.elim hq
  | brk=>exact False.elim hq
  | cont=>exact False.elim hq
end
abbrev bmV:List Value:=[.type "ValueError",.type "Exception",.type "BaseException",.type "object"]
noncomputable def GD (K:Frag) (C:Addr):Prop:=PySem.W.excIn K C bmV "ValueError.__new__" = true
theorem MF {K:Frag} {h:Heap} {C:Addr} (X:K.In h) (q:GD K C):∃ bm N nm qn bs hdct sn sub ab col dd k0 k1 k2 k3 k5 mN,h.get? C = some (excClassObj nm qn C N bs bm hdct sn sub ab col dd k0 k1 k2 k3 k5 "ValueError.__new__") /\
  h.Ns N mN/\mN "__init__" = none/\OwnTail h bmV bm:=by
 unfold GD PySem.W.excIn at q
 split at q
 .rename_i dd cd sl ho
  split at q
  .rename_i C' bm k0 k1 k2 k3 n k5 hm hs
   simp only [Bool.and_eq_true,beq_iff_eq,Bool.not_eq_true'] at q
   obtain ⟨⟨⟨⟨⟨rfl,rfl⟩,hdel⟩,ht⟩,hok⟩,hni⟩:=q
   obtain ⟨nm,bs,mro,ns,qn,hd,sn,sub,ab,col,del⟩:=cd
   dsimp only at hm hdel hok hni
   subst hm hdel
   have hsl:sl = #[k0,k1,k2,k3,some (.builtin "ValueError.__new__"),k5]:=by
    obtain ⟨l⟩:=sl
    simp only at hs
    rw [hs]
   subst hsl
   exact ⟨bm,ns,nm,qn,bs,hd,sn,sub,ab,col,dd,k0,k1,k2,k3,k5,_,X _ _ ho,.of_isNs (PySem.W.isNs_of_in X hok),PySem.W.nsMap_none_of_in X hok hni,PySem.W.tail_of_in X ht⟩
  .cases q
 .cases q
section
variable {X:Cx} {x:Str} {np cpos pos:Pos} {e₀:Expr} {rest:List Expr} {ta:TA} {C:Addr} {Ex:Value->Option Addr->L2.St->Hp->Prop}
noncomputable def Dz (C:Addr) (Ex:Value->Option Addr->L2.St->Hp->Prop) (ta:TA):TS:=fun _ σ H=>ta σ H fun vs H1=>vs.length <= sizeLine/\Ex (.ref C) none σ H1
theorem pX (hc:X.calm = true) (hg:Gl X x) (hm:X.mg x = some (.ref C)) (q:GD X.K C) (hx:Yw X Ex) (ha:PA X (e₀ :: rest) ta) (hd:(x == ("__debug__" : Str)) = false:=by decide)
  (he:starEach (e₀ :: rest) X.env = (false,eval e₀ X.env) :: starEach rest X.env:=by rfl) (hplain:(backTo cpos (starEach rest X.env)).any (·.1) = false:=by rfl) :
  PS X (.Raise (some (.Call (.Name x np) (e₀ :: rest) [] cpos)) none pos) (Dz C Ex ta):=by
 intro pins s σ H D I h
 obtain ⟨tl,N,nm,qn,bs,hdct,sn,sub,ab,col,dd,k0,k1,k2,k3,k5,mN,hC,hN,hni,T⟩:=MF I.ok.mod.kin q
 have FB:=PySem.F.excBase_ValueError
 refine wpAny_Raise_call_subT (C:=C) (nm:=nm) (q:=qn) (N:=N) (bs:=bs) (bm:=tl) (hdct:=hdct) (sn:=sn) (sub:=sub) (ab:=ab) (col:=col) (dd:=dd) (k0:=k0) (k1:=k1) (k2:=k2) (k3:=k3) (k5:=k5)
  FB (mN:=mN) (T.hasType FB.hasBase) (I.ok.hd hc) (by rw [he]; show (false || (backTo cpos (starEach rest X.env)).any (·.1)) = false; rw [hplain]; rfl) hni (lU I hg hm ⟨rfl,?_⟩ hd)
 have h2:=ha cpos pins s σ H _ I h
 rw [he] at h2 ⊢
 exact Calls.evalArgs_plain (wpAny_mono h2 (fun us s₂ ⟨vs,H1,I1,r,hl,ex⟩=>⟨rfl,by rw [<- r.length]; exact hl,I1.bk _ _ hC,hN.keeps I1.bk,T.keeps I1.bk,fun h' e M=>hx pins σ H1 s₂ e _ us h' I1 M ex⟩) fun _ _ y=>y)
end
noncomputable abbrev Cx.tryc (X:Cx) (pn:List (Addr × Obj)) (E:Value->Shared->Prop):Cx:={ X with pn:=pn,xe:=E }
noncomputable abbrev Cx.marked (X:Cx) (a:Addr) (E:Value->Shared->Prop):Cx:={ X with A:=X.A.mark (some (.ref a)),calm:=false,xe:=E }
section
variable {X:Cx} {pins pins' pn:List (Addr × Obj)} {σ:L2.St} {H H':Hp} {s:Shared} {E:Value->Shared->Prop} {a:Addr}
theorem Cx.Ok.tryc (ok:X.Ok):(X.tryc pn E).Ok:=⟨ok.mod,ok.kind,ok.glob,ok.blt,ok.above,ok.inj,ok.has,ok.cab,ok.hd,ok.frames,ok.stk,ok.exf,ok.bs,ok.bsz,ok.noex,ok.exfs,ok.funs,ok.frf⟩
theorem Cx.Ok.untry (ok:(X.tryc pn E).Ok):X.Ok:=⟨ok.mod,ok.kind,ok.glob,ok.blt,ok.above,ok.inj,ok.has,ok.cab,ok.hd,ok.frames,ok.stk,ok.exf,ok.bs,ok.bsz,ok.noex,ok.exfs,ok.funs,ok.frf⟩
theorem Inv.tryc (I:Inv X pins σ H s):Inv (X.tryc (X.pn ++ pins) E) [] σ H s:=⟨I.ok.tryc,I.os,I.bare,I.base,I.loc,I.cell,I.free,I.freeC,fun p hp=>I.pin p (by simpa using hp),I.hok,I.len⟩
theorem Inv.untry (I:Inv (X.tryc (X.pn ++ pins) E) pins' σ H s):Inv X pins σ H s:=⟨I.ok.untry,I.os,I.bare,I.base,I.loc,I.cell,I.free,I.freeC,fun p hp=>I.pin p (List.mem_append_left _ hp),I.hok,I.len⟩
theorem Cx.Ok.marked (ok:X.Ok):(X.marked a E).Ok:=⟨ok.mod,ok.kind,ok.glob,ok.blt,ok.above,ok.inj,ok.has,ok.cab,fun z=>(nomatch z),ok.frames,ok.stk,ok.exf,ok.bs,ok.bsz,ok.noex,ok.exfs,ok.funs,ok.frf⟩
theorem Inv.marked (I:Inv X pins σ H s):Inv (X.marked a E) pins σ H s:=⟨I.ok.marked,I.os,I.bare,I.base,I.loc,I.cell,I.free,I.freeC,I.pin,I.hok,I.len⟩
theorem Inv.unmarked (ok:X.Ok) (I:Inv (X.marked a E) pins σ H s):Inv X pins σ H s:=⟨ok,I.os,I.bare,I.base,I.loc,I.cell,I.free,I.freeC,I.pin,I.hok,I.len⟩
theorem Inv.track {o:HO} (I:Inv X pins σ H s) (hn:H a = none) (ha:X.s₀.heap.get? a = none) (hL:a ≠ X.env.locals) (hC:∀ x c,X.env.cells.lookup x = some c->c ≠ a) (hp:∀ p ∈ X.pn ++ pins,p.1 ≠ a)
  (ok:cZ X.prog X.w (upd H a o) s.heap a o):Inv X pins σ (upd H a o) s:=by
 have ne:∀ b u,H b = some u->b ≠ a:=fun b u e=>bA e hn
 have ne0:∀ b u,X.s₀.heap.get? b = some u->b ≠ a:=fun b u e z=>by rw [z,ha] at e; cases e
 refine ⟨I.ok,I.os,I.bare,⟨I.base.keep,I.base.slot,fun b ob e n hx=>by rw [bF (ne0 b ob e)]; exact I.base.free b ob e n hx,I.base.there,fun b xs e=>?_,fun b ob u e=>?_,fun b ps e=>?_⟩,I.loc,I.cell,by rw [bF hL.symm]; exact I.free,fun x c e=>by rw [bF (hC x c e)]; exact I.freeC x c e,fun p q=>?_,fun b u e=>?_,I.len⟩
 .have z:=I.base.tups b xs e
  rw [bF (ne b _ z)]; exact z
 .have z:=I.base.frzs b ob u e
  rw [bF (ne b _ z)]; exact z
 .obtain ⟨m,z⟩:=I.base.tbls b ps e
  exact ⟨m,by rw [bF (ne b _ z)]; exact z⟩
 .obtain ⟨h1,h2,h3⟩:=I.pin p q
  exact ⟨h1,by rw [bF (hp p q)]; exact h2,h3⟩
 .by_cases z:b = a
  .subst z; rw [bB] at e; cases e; exact ok
  .rw [bF z] at e
   exact (I.hok b u e).stay (fun _ _ _ q=>q) (fun c q=>by rw [bF (ne c _ q)]; exact q) fun c xs q=>by rw [bF (ne c _ q)]; exact q
theorem Inv.unname {M:Model} {A:Around} {E:Value->Shared->Prop} {i:Nat} {n:Str} {pos:Pos} {Q:Unit->Shared->Prop} (I:Inv X pins σ H s) (hN:X.N.Nodup) (hi:X.N[i]? = some n) (hk:X.env.scope.names.lookup n = some .local)
  (h:∀ s',Inv X pins (σ.set i none) H s'->Q () s'):wpAny M A (do bindName X.env n .none; unbindBehindTheSuite X.env n pos) Q E s:=by
 obtain ⟨m,hn,hl⟩:=id I.loc
 have hcls:(X.env.scope.kind == .class || (X.env.scope.kind == .module && X.env.locals != X.env.globals)) = false:=by rw [I.ok.kind]; rfl
 have cne:=I.cne
 have hiσ:i < σ.length:=by rw [I.len]; exact (ao.mp hi).1
 refine wpAny_nameGoes_keeps hk hn hcls fun h' v hn' hs=>?_
 have hok:HOk X.prog X.w H h':=fun b ob e=>(I.hok b ob e).stay (fun c w' hc q=>(hs.2 c (by
  rintro rfl
  rcases hc with rfl | hc
  .rw [I.free] at e; cases e
  .rw [I.free] at hc; cases hc)).trans q) (fun _ q=>q) fun _ _ q=>q
 refine h _ ⟨I.ok,I.os,I.bare,⟨fun b o e n' hb hx=>?_,fun b o e n' hb hx=>?_,I.base.free,fun b o e hx=>?_,I.base.tups,I.base.frzs,I.base.tbls⟩,⟨_,hn',fun j y v' e1 e2 e3=>?_⟩,fun y c e=>?_,I.free,I.freeC,fun p hp=>?_,hok,by simpa using I.len⟩
 .exact (hs.2 b (aP (aQ (aH e) I.ok.above))).trans (I.base.keep b o e n' hb hx)
 .obtain ⟨sl,e1⟩:=I.base.slot b o e n' hb hx
  exact ⟨sl,(hs.2 b (aP (aQ (aH e) I.ok.above))).trans e1⟩
 .obtain ⟨o',e1⟩:=I.base.there b o e hx
  exact ⟨o',(hs.2 b (aP (aQ (aH e) I.ok.above))).trans e1⟩
 .by_cases hj:j = i
  .subst hj
   rw [List.getElem?_set_self hiσ] at e2
   cases e2
  .rw [List.getElem?_set_ne (Ne.symm hj)] at e2
   obtain ⟨u',r',q⟩:=hl j y v' e1 e2 e3
   refine ⟨u',r',?_⟩
   rcases q with ⟨k,e⟩ | ⟨k,c,e,z⟩
   .refine .inl ⟨k,?_⟩
    have:y ≠ n:=fun e=>hj (oE hN e1 (e ▸ hi))
    simp [this,e]
   .exact .inr ⟨k,c,e,z.sameBut hs (cne y c e)⟩
 .obtain ⟨w',z⟩:=I.cell y c e
  exact ⟨w',z.sameBut hs (cne y c e)⟩
 .obtain ⟨e,n',ne,nf,d⟩:=I.pin p hp
  exact ⟨(hs.2 p.1 ne).trans e,n',ne,nf,d⟩
end
noncomputable def XO (a C:Addr) (d:Option Addr):HO:=.ext fun h=>∃ o,h.get? a = some o/\o.cls = .ref C/\o.dict = d/\∃ vs,o.data = .fields vs
theorem JH {M:Model} {A:Around} {E:Value->Shared->Prop} {K:Frag} {h:Heap} {g:Array GenState} {d:Drawn} {t:Nat} {os:OsState} {a C D:Addr} {oe:Obj} {Q:Bool->Shared->Prop} {b:Bool} (X:K.In h)
  (qD:PySem.W.mroIn K D (.type "BaseException") = some true) (tyD:PySem.W.typeIn K (.ref D) = some (.type "type")) (he:h.get? a = some oe) (hc:oe.cls = .ref C) (qS:PySem.W.mroIn K C (.ref D) = some b)
  (hq:Q b ⟨h,g,d,t,os⟩):wpAny M A (excMatches (.ref a) (.ref D)) Q E ⟨h,g,d,t,os⟩:=by
 have l1:PySem.W.Looks M h (isInstance (.ref D) (.type "tuple")) false:=(PySem.W.looks_typeIn X tyD).andThen (PySem.W.Looks.of_pure tc_notTuple)
 have l2:PySem.W.Looks M h (isType (.ref D)) true:=by
  obtain ⟨cdD,hcD,_⟩:=Option.bind_eq_some_iff.mp qD
  unfold PySem.W.clsIn at hcD
  split at hcD
  .rename_i c' d' cd' sl' ho
   intro A' Q' E' s' k q
   unfold isType loadHead
   exact wpAny_bind (wpAny_loadPart (k _ _ (X _ _ ho)) (wpAny_pure q))
  .cases hcD
 have l3:PySem.W.Looks M h (isSubtype (.ref D) (.type "BaseException")) true:=PySem.W.looks_mroIn X qD
 have l4:PySem.W.Looks M h (isSubtype (.ref C) (.ref D)) b:=PySem.W.looks_mroIn X qS
 have l5:PySem.W.Looks M h (typeOf (.ref a)) (.ref C):=by
  intro A' Q' E' s' k q
  rw [<- hc] at q
  unfold typeOf
  exact wpAny_bind (wpAny_loadPart (k _ _ he) (wpAny_pure q))
 unfold excMatches
 refine wpAny_bind (l1.at ?_)
 simp only [Bool.false_eq_true,if_false]
 refine wpAny_bind (wpAny_pure ?_)
 simp only [List.forIn_cons,List.forIn_nil]
 unfold isExcClass
 refine wpAny_bind (wpAny_bind (wpAny_bind (wpAny_bind (l2.at ?_))))
 simp only [if_true]
 refine l3.at ?_
 simp only [Bool.not_true,Bool.false_eq_true,if_false]
 refine wpAny_pure (wpAny_pure (wpAny_bind (l5.at ?_)))
 refine wpAny_bind (wpAny_bind (wpAny_bind (l4.at ?_)))
 cases b with
 | true =>
  simp only [if_true]
  exact wpAny_pure (wpAny_pure (wpAny_pure hq))
 | false =>
  simp only [Bool.false_eq_true,if_false]
  exact wpAny_pure (wpAny_pure (wpAny_pure hq))
section
variable {X:Cx} {pos hpos np:Pos} {body suite:List Stmt} {b₀:Stmt} {n Dn:Str} {D:Addr} {i:Nat} {tb:(Value->Option Addr->L2.St->Hp->Prop)->TS} {th:TS}
noncomputable def Ends.unset (R:Ends) (i:Nat):Ends:={ nx:=fun σ H=>R.nx (σ.set i none) H,rt:=R.rt,bk:=fun σ H=>R.bk (σ.set i none) H,ct:=fun σ H=>R.ct (σ.set i none) H }
noncomputable def FP (K:Frag) (D:Addr) (i:Nat) (tb:(Value->Option Addr->L2.St->Hp->Prop)->TS) (th:TS):TS:=fun R σ H =>
 ∃ Ex:Value->Option Addr->L2.St->Hp->Prop,tb Ex R σ H/\∀ C' d σ' H',Ex C' d σ' H'->∃ C,C' = .ref C/\PySem.W.mroIn K C (.ref D) = some true /\
  ∀ a,H' a = none->th (R.unset i) (σ'.set i (some (.ref a))) (upd H' a (XO a C d))
theorem U3 (hN:X.N.Nodup) (hi:X.N[i]? = some n) (hln:X.env.scope.names.lookup n = some .local) (hgD:Gl X Dn) (hmD:X.mg Dn = some (.ref D)) (qD:PySem.W.mroIn X.K D (.type "BaseException") = some true)
  (tyD:PySem.W.typeIn X.K (.ref D) = some (.type "type")) (hst:X.stack = X.env :: X.outer) (hfr:X.env.frame = some X.env.locals) (hex:X.ex = [])
  (hb:∀ pn' E' Ex,zN (X.tryc pn' E') Ex->PSs (X.tryc pn' E') body (tb Ex)) (hh:∀ a E',PSs (X.marked a E') (b₀ :: suite) th) (hdb:(Dn == ("__debug__" : Str)) = false:=by decide) :
  PS X (.Try body [.ExceptHandler (some (.Name Dn np)) (some n) (b₀ :: suite) hpos] [] [] pos) (FP X.K D i tb th):=by
 intro pins s σ H R I h
 obtain ⟨Ex,h1,h2⟩:=h
 refine wpAny_Try_except ?_
 have ends:∀ {Y:Cx} {pn:List (Addr × Obj)} {f:Flow} {s':Shared},(∀ {σ':L2.St} {H':Hp},Inv Y pn σ' H' s'->Inv X pins σ' H' s')->SP Y pn R f s'->SP X pins R f s':=fun {Y pn f s'} k q=>by
  cases f with
  | next=>obtain ⟨σ',H',J,z⟩:=q; exact ⟨σ',H',k J,z⟩
  | brk=>obtain ⟨σ',H',J,z⟩:=q; exact ⟨σ',H',k J,z⟩
  | cont=>obtain ⟨σ',H',J,z⟩:=q; exact ⟨σ',H',k J,z⟩
  | ret u=>obtain ⟨v,σ',H',J,z⟩:=q; exact ⟨v,σ',H',k J,z⟩
 refine wpAny_mono (hb (X.pn ++ pins) _ Ex ?_ [] s σ H R I.tryc h1) (fun f s1 q=>?_) fun _ _ z=>z
 rotate_left
 .have q':=ends (fun J=>J.untry) q
  cases f with
  | next=>exact wpAny_execs_nil q'
  | brk=>exact q'
  | cont=>exact q'
  | ret u=>exact q'
 intro pins' σ1 H1 s1 a C' H' s' B d J F ex
 have J0:Inv X pins σ1 H1 s1:=J.untry
 obtain ⟨C,rfl,qS,k⟩:=h2 C' d σ1 H' ex
 have F0:Fly X.prog X.w X.stack H1 s1 a (.ref C) H' s' B d:=F
 have fl0:pG B (X.env :: X.outer) a (.ref C) d .none s'.heap:=by rw [<- hst]; exact F0.fl
 show wpAny _ _ (noteFrame (.ref a) X.env) _ _ _
 refine Dc (outer:=X.outer) (L:=X.env.locals) (I.ok.frames.trans (by rw [hst])) hfr fl0 fun h₄ hheld₄ sm₄=>?_
 refine Oo hheld₄ fun h₅ fl₅ sm₅=>?_
 have J5:Inv X pins σ1 H' { s' with heap:=h₅ }:=J0.flown F0 fl₅.1 (sm₄.trans sm₅)
 obtain ⟨oe,vs,he,hcls,_,hd⟩:=fl₅.first
 refine wpAny_handleBy_cons (codeAny_handlers_test ?_) (by intro q; cases q)
 refine lU (X:=X.marked a (fun _ _=>False)) J5.marked hgD hmD ?_ hdb
 refine JH (K:=X.K) J5.kIn qD tyD he hcls qS ?_
 show codeAny _ _ _ _ _
 refine codeAny_handlers_suite_as ?_
 refine Oo fl₅ fun h₆ fl₆ sm₆=>?_
 have J6:Inv X pins σ1 H' { s' with heap:=h₆ }:=J0.flown F0 fl₆.1 ((sm₄.trans sm₅).trans sm₆)
 obtain ⟨oe6,vs6,he6,hcls6,hda,hd6⟩:=fl₆.first
 have na:H' a = none:=by
  cases q:H' a with
  | none=>rfl
  | some u =>
   obtain ⟨o',e'⟩:=(F0.hok a u q).there
   have y:=F0.trk q e'
   rw [F0.fl.2.1] at y; cases y
 have ns:X.s₀.heap.get? a = none:=by
  cases q:X.s₀.heap.get? a with
  | none=>rfl
  | some o =>
   obtain ⟨⟨u,z⟩,_⟩:=J0.old hex q
   rw [F0.new] at z; cases z
 have nL:a ≠ X.env.locals:=fun z=>by
  obtain ⟨m,⟨o,es,ep,e,dd,_⟩,_⟩:=J6.loc
  rw [<- z] at e
  have e':h₆.get? a = some o:=e
  rw [he6] at e'; cases e'; rw [hd6] at dd; cases dd
 have nC:∀ x c,X.env.cells.lookup x = some c->c ≠ a:=fun x c e z=>by
  obtain ⟨v,o,e',dd⟩:=J6.cell x c e
  rw [z] at e'
  have e2:h₆.get? a = some o:=e'
  rw [he6] at e2; cases e2; rw [hd6] at dd; cases dd
 have nP:∀ p ∈ X.pn ++ pins,p.1 ≠ a:=fun p hp z=>by
  have:=(J0.pin p hp).1
  rw [z,F0.new] at this; cases this
 have okx:cZ X.prog X.w (upd H' a (XO a C d)) h₆ a (XO a C d):=⟨⟨oe6,he6,hcls6,hda,vs6,hd6⟩,⟨oe6,he6⟩,fun g1 g2 ⟨o,e1,e2⟩ kk=>⟨o,kk o e1,e2⟩⟩
 have J7:Inv X pins σ1 (upd H' a (XO a C d)) { s' with heap:=h₆ }:=J6.track na ns nL nC nP okx
 refine qF (X:=X.marked a (fun _ _=>False)) J7.marked hN hi (.inl hln) (v:=.ref a) rfl (fun s8 J8=>?_) (.inr hln)
 have J8':Inv X pins (σ1.set i (some (.ref a))) (upd H' a (XO a C d)) s8:=J8.unmarked I.ok
 refine wpAny_mono (hh a _ pins s8 _ _ _ J8'.marked (k a na)) (fun f s9 q=>?_) fun _ _ z=>z
 cases f with
 | next =>
  obtain ⟨σ',H2,J9,z⟩:=q
  exact (J9.unmarked I.ok).unname hN hi hln fun s10 J10=>⟨_,_,J10,z⟩
 | brk =>
  obtain ⟨σ',H2,J9,z⟩:=q
  exact (J9.unmarked I.ok).unname hN hi hln fun s10 J10=>⟨_,_,J10,z⟩
 | cont =>
  obtain ⟨σ',H2,J9,z⟩:=q
  exact (J9.unmarked I.ok).unname hN hi hln fun s10 J10=>⟨_,_,J10,z⟩
 | ret u =>
  obtain ⟨v,σ',H2,J9,rv,z⟩:=q
  exact (J9.unmarked I.ok).unname hN hi hln fun s10 J10=>⟨v,_,_,J10,rv,z⟩
end
end L2
namespace L2
open PySem PySem.Spec PyProof.Rows
structure yx (K:Frag) (C:Addr):Prop where
 ga:PySem.W.findIn K (.ref C) "__getattribute__" = some (some (.builtin "BaseException.__getattribute__"))
 gn:PySem.W.findIn K (.ref C) "__getattr__" = some none
 cl:PySem.W.findIn K (.ref C) "__class__" = some (some (.builtin "object.__class__"))
 mo:PySem.W.mroIn K C (.type "object") = some true
 mb:PySem.W.mroIn K C (.type "BaseException") = some true
section
variable {prog:Program} {w:World} {A:Around} {E:Value->Shared->Prop} {h:Heap} {g:Array GenState} {d:Drawn} {t:Nat} {os:OsState} {a C:Addr} {o:Obj} {K:Frag}
theorem ig {M:Model} (hx:h.get? a = some o) (hc:o.cls = .ref C):PySem.W.Looks M h (typeOf (.ref a)) (.ref C):=by
 intro A' Q' E' s' k q
 rw [<- hc] at q
 unfold typeOf
 exact wpAny_bind (wpAny_loadPart (k _ _ hx) (wpAny_pure q))
theorem Ce {R:Result->Shared->Prop} (X:K.In h) (T:yx K C) (hx:h.get? a = some o) (hc:o.cls = .ref C) (hq:R (.ok (.ret (.ref C))) ⟨h,g,d,t,os⟩) :
  codeAny (model prog w) A (.call (.builtin "getset_descriptor.__get__") ⟨[.builtin "object.__class__",.ref a,.ref C],[]⟩) R ⟨h,g,d,t,os⟩:=by
 have hT5:(⟨h,g,d,t,os⟩ : Shared).TypeIs (.builtin "object.__class__") "getset_descriptor" := F.typeOf_object_class
 have LT:=ig (M:=model prog w) hx hc
 have LO:PySem.W.Looks (model prog w) h (isSubtype (.ref C) (.type (".".intercalate ("object.__class__".cutAt '.').dropLast))) true:=by
  rw [F.owner_object_class]; exact PySem.W.looks_mroIn X T.mo
 refine codeAny_call_builtin F.slot_gs_get.plain F.entry_gs_get (F.slot_gs_get.check _ _ _ _ _ _ _ _ hT5 (F.args_gs_get _ _ _) ?_)
 repeat (any_goals (first | assumption | with_reducible refine LT.at ?_ | with_reducible refine LO.at ?_ | (with_reducible refine wpAny_loadPart_at hx ?_; rw [hc]) | wp_step))
 refine ⟨Code.quiet_builtin _ (by decide +kernel),codeAny_builtin F.entry_object_class ?_⟩
 repeat (any_goals (first | assumption | with_reducible refine LT.at ?_ | (with_reducible refine wpAny_loadPart_at hx ?_; rw [hc]) | wp_step))
theorem yp {tk:Tok} {Q:Fin->Shared->Prop} (X:K.In h) (T:yx K C) (hx:h.get? a = some o) (hc:o.cls = .ref C) (hq:Q (.done (.ret (.ref C))) ⟨h,g,d,t,os⟩) :
  wpAny (model prog w) A (Builtin.«object.__getattribute__» ⟨[.ref a,.str "__class__" tk],[]⟩) Q E ⟨h,g,d,t,os⟩:=by
 have hT5:(⟨h,g,d,t,os⟩ : Shared).TypeIs (.builtin "object.__class__") "getset_descriptor" := F.typeOf_object_class
 have f5:=F.typeOf_object_class
 have f6:=F.slot_gs_get.lookup
 have f7:=F.slot_gs_set.lookup
 have LT:=ig (M:=model prog w) hx hc
 have LC:=PySem.W.looks_findIn (M:=model prog w) X T.cl
 repeat (any_goals (first | assumption | with_reducible refine LT.at ?_ | with_reducible refine LC.at ?_ | (with_reducible refine wpAny_loadPart_at hx ?_; rw [hc]) | wp_step))
 refine Ce X T hx hc ?_
 repeat (any_goals (first | assumption | wp_step))
theorem vQ {M:Model} {nameV:Value} {Q:Unit->Shared->Prop} (X:K.In h) (T:yx K C) (hx:h.get? a = some o) (hc:o.cls = .ref C) (hq:Q () ⟨h,g,d,t,os⟩) :
  wpAny M A (checkBuiltinCall "BaseException.__getattribute__" ⟨[.ref a,nameV],[]⟩) Q E ⟨h,g,d,t,os⟩:=by
 have hk:builtinKind "BaseException.__getattribute__" = some .slot:=by decide +kernel
 have hsplit:splitId "BaseException.__getattribute__" = some ("BaseException", "__getattribute__"):=by decide +kernel
 have ha:=F.args_bexc_ga (.ref a) nameV
 have LT:=ig (M:=M) hx hc
 have LB:=PySem.W.looks_mroIn (M:=M) X T.mb
 simp only [checkBuiltinCall,hk,hsplit]
 refine wpAny_bind ?_
 unfold isInstance
 repeat (first | with_reducible refine LT.at ?_ | with_reducible refine LB.at ?_ | (with_reducible refine wpAny_loadPart_at hx ?_; rw [hc]) | wp_step)
 exact hq
theorem Gf {tk:Tok} {Q:Value->Shared->Prop} (X:K.In h) (T:yx K C) (hx:h.get? a = some o) (hc:o.cls = .ref C) (hq:Q (.ref C) ⟨h,g,d,t,os⟩) :
  wpAny (model prog w) A (getAttrBy (.ref a) (.str "__class__" tk) false) Q E ⟨h,g,d,t,os⟩:=by
 have f3:=F.excAttr_ValueError.ga.bind (.ref a)
 have hx2:(Value.builtin "BaseException.__getattribute__" == Value.builtin "object.__getattribute__") = false:=by decide +kernel
 have hx1:(onTheHeap (Value.ref C) && Value.builtin "BaseException.__getattribute__" == Value.builtin "object.__getattribute__") = false:=by rw [hx2]; exact Bool.and_false _
 have LT:=ig (M:=model prog w) hx hc
 have LG:=PySem.W.looks_findIn (M:=model prog w) X T.ga
 have LN:=PySem.W.looks_findIn (M:=model prog w) X T.gn
 repeat (any_goals (first | assumption | with_reducible refine LT.at ?_ | with_reducible refine LG.at ?_ | with_reducible refine LN.at ?_ | (with_reducible refine wpAny_loadPart_at hx ?_; rw [hc]) | wp_step))
 refine codeAny_call_builtin F.excAttr_ValueError.ga.plain F.entry_bexc_ga (vQ X T hx hc (yp X T hx hc ?_))
 repeat (any_goals (first | assumption | wp_step))
theorem Bm {Q:Option Value->Shared->Prop} (X:K.In h) (T:yx K C) (hx:h.get? a = some o) (hc:o.cls = .ref C) (hq:Q (some (.ref C)) ⟨h,g,d,t + 1,os⟩) :
  wpAny (model prog w) A (getAttr? (.ref a) "__class__") Q E ⟨h,g,d,t,os⟩:=by
 unfold getAttr? getAttrBy?
 repeat (any_goals (first | assumption | with_reducible apply Gf X T hx hc | wp_step))
end
end L2
namespace L2
open PySem PySem.Spec PyProof.Rows
noncomputable def wH (cells:List (Str × Addr)):List (Str × NameKind)->List (Str × Addr)->List (Str × Addr)
 | [],acc=>acc
 | (n,k) :: r,acc=>wH cells r (if k == .free then (n,(cells.lookup n).getD 0) :: acc else acc)
theorem Ku {scope:Scope} {env:Env} (h:∀ y ∈ scope.names,y.2 = .free->∃ c,env.cells.lookup y.1 = some c):closureFor scope env = pure (wH env.cells scope.names []):=by
 unfold closureFor
 have go:∀ (l:List (Str × NameKind)) (acc:List (Str × Addr)),(∀ y ∈ l,y.2 = .free->∃ c,env.cells.lookup y.1 = some c) ->
   (forIn l acc (fun (x:Str × NameKind) (r:List (Str × Addr))=>if (x.2 == NameKind.free) = true then (do let a <- cellOf env x.1; pure (ForInStep.yield ((x.1,a) :: r))) else pure (ForInStep.yield r)):Sem (List (Str × Addr))) = pure (wH env.cells l acc):=by
  intro l
  induction l with
  | nil=>intro acc _; rfl
  | cons y r ih =>
   intro acc hy
   obtain ⟨n,k⟩:=y
   rw [List.forIn_cons]
   by_cases hk:k = .free
   .subst hk
    obtain ⟨c,hc⟩:=hy (n,.free) aM rfl
    have e1:cellOf env n = pure c:=by unfold cellOf; rw [show env.cells.lookup n = some c from hc]
    simp only [beq_self_eq_true,if_true,e1,pure_bind]
    rw [ih _ fun z hz=>hy z (aG _ hz)]
    show pure _ = pure (wH env.cells r (if (NameKind.free == NameKind.free) = true then (n,(env.cells.lookup n).getD 0) :: acc else acc))
    rw [show env.cells.lookup n = some c from hc]
    rfl
   .have hb:(k == NameKind.free) = false:=by simpa using hk
    simp only [hb,Bool.false_eq_true,if_false,pure_bind]
    rw [ih _ fun z hz=>hy z (aG _ hz)]
    show pure _ = pure (wH env.cells r (if (k == NameKind.free) = true then (n,(env.cells.lookup n).getD 0) :: acc else acc))
    rw [hb]
    rfl
 have e:=go scope.names [] h
 show (forIn scope.names [] (fun (x:Str × NameKind) (r:List (Str × Addr))=>if (x.2 == NameKind.free) = true then (do let a <- cellOf env x.1; pure (ForInStep.yield ((x.1,a) :: r))) else pure (ForInStep.yield r)):Sem (List (Str × Addr))) >>= (fun cs=>pure cs) = _
 rw [e]
 rfl
theorem JK {cells:List (Str × Addr)} : ∀ {names:List (Str × NameKind)} {acc:List (Str × Addr)} {x:Str} {c:Addr},(∀ y ∈ names,y.2 = .free->∃ c,cells.lookup y.1 = some c)->(x,c) ∈ wH cells names acc->(x,c) ∈ acc\/cells.lookup x = some c
 | [],_,_,_,_,h=>.inl h
 | (n,k) :: r,acc,x,c,hf,h=>by
  unfold wH at h
  rcases JK (fun y hy=>hf y (aG _ hy)) h with z | z
  .by_cases hk:k = .free
   .subst hk
    simp only [beq_self_eq_true,if_true] at z
    rcases List.mem_cons.mp z with e | e
    .obtain ⟨c',hc'⟩:=hf (n,.free) aM rfl
     cases e
     rw [show cells.lookup n = some c' from hc']
     exact .inr rfl
    .exact .inl e
   .have hb:(k == NameKind.free) = false:=by simpa using hk
    simp only [hb,Bool.false_eq_true,if_false] at z
    exact .inl z
  .exact .inr z
theorem Jw {cells:List (Str × Addr)} : ∀ {names:List (Str × NameKind)} {acc:List (Str × Addr)} {x:Str},((x,NameKind.free) ∈ names\/∃ c,(x,c) ∈ acc)->∃ c,(x,c) ∈ wH cells names acc
 | [],_,_,h=>by
  rcases h with h | h
  .cases h
  .exact h
 | (n,k) :: r,acc,x,h=>by
  unfold wH
  refine Jw ?_
  rcases h with h | ⟨c,h⟩
  .rcases List.mem_cons.mp h with e | e
   .cases e
    exact .inr ⟨_,by simp only [beq_self_eq_true,if_true]; exact aM⟩
   .exact .inl e
  .refine .inr ⟨c,?_⟩
   split
   .exact aG _ h
   .exact h
theorem mJ {α:Type} {x:Str} {c:α} : ∀ {l:List (Str × α)},(x,c) ∈ l->∃ c',l.lookup x = some c'
 | (y,d) :: r,h=>by
  rw [List.lookup_cons]
  cases hb:x == y with
  | true=>exact ⟨d,rfl⟩
  | false =>
   rcases List.mem_cons.mp h with e | e
   .cases e; simp at hb
   .exact mJ e
section
variable {X:Cx} {elt iter:Expr} {x:Str} {px pos:Pos} {scope:Scope} {wi:TI} {te:TE}
theorem Inv.nostk' {pins:List (Addr × Obj)} {σ:L2.St} {H:Hp} {s:Shared} (I:Inv X pins σ H s) {b:Addr} (h1:b ≠ X.env.locals) (h2:b ∉ X.fs):b ∉ frs X.stack:=fun z=>by
 rcases List.mem_cons.mp (I.stkSub b z) with e | e
 .exact h1 e
 .exact h2 e
theorem uH {env:Env} : ∀ {names:List (Str × NameKind)} {y:Str},(names.map fun (n,k)=>if (k == NameKind.free && env.scope.kind == .function && env.kindOf n == some .cell) then (n,NameKind.cell) else (n,k)).lookup y = some .cell \/
  (names.map fun (n,k)=>if (k == NameKind.free && env.scope.kind == .function && env.kindOf n == some .cell) then (n,NameKind.cell) else (n,k)).lookup y = some .free->(∀ z ∈ names,z.2 ≠ .cell)->(y,NameKind.free) ∈ names
 | [],y,h,_=>by rcases h with h | h <;> cases h
 | (n,k) :: r,y,h,hc=>by
  have ih:=@uH env r y
  simp only [List.map_cons] at h
  by_cases hcond:(k == NameKind.free && env.scope.kind == .function && env.kindOf n == some .cell) = true
  .rw [if_pos hcond] at h
   simp only [List.lookup_cons] at h
   cases hb:y == n with
   | true =>
    have hk:k = .free:=by
     simp only [Bool.and_eq_true,beq_iff_eq] at hcond
     exact hcond.1.1
    have:y = n:=by simpa using hb
    subst this hk
    exact aM
   | false =>
    rw [hb] at h
    exact aG _ (ih h fun z hz=>hc z (aG _ hz))
  .rw [if_neg hcond] at h
   simp only [List.lookup_cons] at h
   cases hb:y == n with
   | true =>
    rw [hb] at h
    have:y = n:=by simpa using hb
    subst this
    rcases h with h | h
    .exact absurd (Option.some.inj h) (hc (y,k) aM)
    .have:k = .free:=Option.some.inj h
     subst this
     exact aM
   | false =>
    rw [hb] at h
    exact aG _ (ih h fun z hz=>hc z (aG _ hz))
end
end L2
namespace L2
open PySem PySem.Spec PyProof.Rows
section
variable {X:Cx}
theorem pI {x:Str} {D:Addr} {pos:Pos} (hg:Gl X x) (hm:X.mg x = some (.ref D)) (hd:(x == ("__debug__" : Str)) = false:=by decide):PE X (.Name x pos) (tC (.ref D)):=GK hg hm rfl hd
theorem TX {K:Frag} {a C:Addr} (T:yx K C):PySem.W.KitX K (.ref a) (.ref C) (fun h=>∃ o,h.get? a = some o/\o.cls = .ref C) where
 ty:=fun M h _ ⟨o,e,c⟩=>ig e c
 it:=fun M h Y _=>by
  obtain ⟨cdD,hcD,_⟩:=Option.bind_eq_some_iff.mp T.mo
  unfold PySem.W.clsIn at hcD
  split at hcD
  .rename_i c' d' cd' sl' ho
   intro A' Q' E' s' k q
   unfold isType loadHead
   exact wpAny_bind (wpAny_loadPart (k _ _ (Y _ _ ho)) (wpAny_pure q))
  .cases hcD
 ne:=fun h tp dd its n sl Y htp=>by
  obtain ⟨cdD,hcD,_⟩:=Option.bind_eq_some_iff.mp T.mo
  refine Bool.eq_false_iff.mpr fun q=>?_
  have e:C = tp:=Value.ref.inj (beq_iff_eq.mp q)
  subst e
  unfold PySem.W.clsIn at hcD
  split at hcD
  .rename_i c' d' cd' sl' ho
   have z:=(Y _ _ ho).symm.trans htp
   cases z
  .cases hcD
 ca:=fun {prog w A E Q s} Y ⟨o,e,c⟩ k=>by
  obtain ⟨h,g,d,t,os⟩:=s
  exact Bm Y T e c k
noncomputable def YC (K:Frag):List V->Hp->VK->Prop:=fun xs H Q=>∃ a C d c cv b,xs = [.ref a,c]/\H a = some (XO a C d)/\((∃ T,c = .ty T/\cv = Value.type T)\/∃ D,c = .ref D/\cv = Value.ref D)/\yx K C/\PySem.W.kitOne K (.ref C) cv = some b/\Q (.bl b) H
theorem PB:eG X (.builtin "isinstance") (YC X.K):=by
 intro pins s σ H xs us Q I r h
 obtain ⟨a,C,d,c,cv,b,rfl,ha,rc,T,e,q⟩:=h
 obtain ⟨u,v,rfl,ru,rv⟩:=r.two
 cases ru
 have e2:v = cv:=by
  rcases rc with ⟨T,rfl,rfl⟩ | ⟨T,rfl,rfl⟩
  .exact rv
  .exact rv
 subst e2
 obtain ⟨⟨o,e1,e2,_⟩,_⟩:=I.hok a _ ha
 exact PySem.W.kia_one (TX T) I.kIn ⟨o,e1,e2⟩ e (fun z=>nomatch z) fun tk=>⟨.bl b,H,I.tok _,rfl,q⟩
noncomputable def Zn (neg:Bool):R2:=fun x y H Q=>∃ b,y = .bl b/\Q (.bl (if neg then !decide (x = .bl b) else decide (x = .bl b))) H
noncomputable def eqF:List V->List V->Bool
 | [],[]=>true
 | x :: xs,y :: ys=>eqV x y && eqF xs ys
 | _,_=>false
noncomputable def eqH (H:Hp) (x y:V):Option Bool :=
 match x,y with
 | .ref a,.ref b=>match H a,H b with
  | some (.tup xs),some (.tup ys)=>if xs.all m8 && ys.all m8 then some (eqF xs ys) else none
  | some (.lst xs),some (.lst ys)=>if xs.all m8 && ys.all m8 then some (eqF xs ys) else none
  | some (.lst _),some (.tup _)=>some false
  | some (.tup _),some (.lst _)=>some false
  | _,_=>none
 | .ref a,y=>if m8 y then (match H a with
  | some (.tup _)=>some false
  | some (.lst _)=>some false
  | _=>none) else none
 | x,.ref b=>if m8 x then (match H b with
  | some (.tup _)=>some false
  | some (.lst _)=>some false
  | _=>none) else none
 | x,y=>if Hq x y then some (decide (x = y)) else none
noncomputable def aac:R2:=fun x y H Q=>∃ k,eqH H x y = some k/\Q (.bl k) H
theorem Inv.tupIs {pins:List (Addr × Obj)} {σ:L2.St} {H:Hp} {s:Shared} {a:Addr} {xs:List V} (I:Inv X pins σ H s) (h:H a = some (.tup xs)):∃ its,Vals xs its/\IsTup s.heap a its.toArray/\s.heap.IsTuple a its.toArray:=by
 obtain ⟨its,rv,ht,_⟩:=I.tuple (SqT.of h)
 exact ⟨its,rv,ht,ht⟩
theorem Inv.lstIs {pins:List (Addr × Obj)} {σ:L2.St} {H:Hp} {s:Shared} {a:Addr} {xs:List V} (I:Inv X pins σ H s) (h:H a = some (.lst xs)):∃ its,Vals xs its/\s.heap.IsList a its.toArray:=by
 obtain ⟨its,rv,ht,_⟩:=I.list (SqL.of h)
 exact ⟨its,rv,ht.isList⟩
theorem uD:zN X (fun _ _ _ _=>False):=fun _ _ _ _ _ _ _ _ _ _ _ _ z=>z.elim
noncomputable def IsX (H:Hp) (a C:Addr):Prop:=∃ d,H a = some (XO a C d)
noncomputable def Ux (C D:Addr) (b:Bool):List V->Hp->VK->Prop:=fun xs H Q=>∃ a,xs = [.ref a,.ref D]/\IsX H a C/\Q (.bl b) H
noncomputable def Ug (C:Addr) (T:String) (b:Bool):List V->Hp->VK->Prop:=fun xs H Q=>∃ a,xs = [.ref a,.ty T]/\IsX H a C/\Q (.bl b) H
theorem yt:bootBuiltins "ValueError" = some (.type "ValueError"):=by decide +kernel
end
end L2
namespace L2
open PySem PySem.Spec PyProof.Rows
noncomputable def Lk (tk tv:TE):TE:=fun σ H Q=>∀ p,H p = none->tk σ (upd H p (.dK [])) fun x H1=>∃ i,x = .int i/\tv σ H1 fun y H2=>H2 p = some (.dK [])/\Q (.ref p) (upd H2 p (.dK [(.inl i,y)]))
open PySem.SeqAt in
section
variable {X:Cx}
structure PEB (X:Cx) (e:Expr) (t:TE):Prop where
 out:PE X e t
structure PAB (X:Cx) (es:List Expr) (t:TA):Prop where
 out:PA X es t
structure PSB (X:Cx) (st:Stmt) (t:TS):Prop where
 out:PS X st t
structure WM (X:Cx) (b:List Stmt) (t:TS):Prop where
 out:PSs X b t
theorem sO {i j pos} : PEB X (.Constant (.int i) j pos) (tC (.int i)):=⟨bC⟩
theorem Yp {es:List Expr} {t:TA} {pos:Pos} (h:PAB X es t):PEB X (.List es pos) (Tf t):=⟨iH h.out⟩
theorem X8:PAB X [] wX:=⟨bD⟩
theorem Dw {c:Const} {k:Nat} {p:Pos} {es:List Expr} {te:TE} {t:TA} (ha:PEB X (.Constant c k p) te) (hr:PAB X es t):PAB X (.Constant c k p :: es) (xM te t):=⟨bw ha.out hr.out rfl⟩
theorem Xg {i:Nat} {x:Str} {e:Expr} {te:TE} {pos pos':Pos} (hN:X.N.Nodup) (hi:X.N[i]? = some x) (hx:Loc X.env.scope x) (he:PEB X e te) (hs:swapsWith e (some (.Name x pos')) pos.line X.env = pure false:=by rfl) (hf:X.fn x = true\/X.env.scope.names.lookup x = some .local:=by first | exact .inl rfl | exact .inr rfl | assumption) :
  PSB X (.Assign [.Name x pos'] e pos) (G5 te (cL i)):=⟨bQ hN hi hx he.out hs hf⟩
theorem cg {st:Stmt} {rest:List Stmt} {t u:TS} (h1:PSB X st t) (h2:WM X rest u):WM X (st :: rest) (pR t u):=⟨bG h1.out h2.out⟩
end
section
variable {P:Program} {w:World} {K:Frag} {mg:Str->Option Value} {base:Heap}
theorem Fun.okB {x qual:Str} {st:Stmt} {f:Addr} {fd:FuncData} {N ps:List Str} {k:Nat} {sp:Sp} (F:Fun K x qual st f fd) (S:bO N ps (bH st)) (len:∀ vs H Q E,sp vs H Q E->vs.length = ps.length)
  (hbody:∀ (cdv:Value) (A:Around) (outer:List Env) (s:Shared) (H:Hp) (vs:List V) (Q:VK) (E:XK),fW k (A.deeper (envOfC qual (bH st) s.heap.objs.size f cdv))->sp vs H Q E ->
   ∃ t,WM (A_ CX0 P w K mg base N qual (bH st) f cdv A outer s H E).nox (eX st) t/\t { nx:=fun _ H'=>Q .non H',rt:=Q } (L2.start N vs) H):cj P w K mg base CX0 (k + 1) f fd ps sp :=
 F.ok S len fun cdv A outer s H vs Q E hr hsp=>let ⟨t,h1,h2⟩:=hbody cdv A outer s H vs Q E hr hsp; ⟨t,h1.out,h2⟩
end
end L2
namespace L2
open PySem PySem.Spec PyProof.Rows
mutual
inductive Shows (H:Hp):V->PyData->Prop
 | non:Shows H .non .none
 | bl (b:Bool):Shows H (.bl b) (.bool b)
 | int (i:Int):Shows H (.int i) (.int i)
 | str (x:Str):Shows H (.str x) (.str x)
 | lst {a:Addr} {xs:List V} {ds:List PyData} : H a = some (.lst xs)->dO H xs ds->Shows H (.ref a) (.list ds)
 | tup {a:Addr} {xs:List V} {ds:List PyData} : H a = some (.tup xs)->dO H xs ds->Shows H (.ref a) (.tuple ds)
inductive dO (H:Hp):List V->List PyData->Prop
 | nil:dO H [] []
 | cons {x:V} {xs:List V} {d:PyData} {ds:List PyData} : Shows H x d->dO H xs ds->dO H (x :: xs) (d :: ds)
end
mutual
theorem Shows.same {H H':Hp} (S:Same H H'):∀ {x:V} {d:PyData},Shows H x d->Shows H' x d
 | _,_,.non=>.non
 | _,_,.bl b=>.bl b
 | _,_,.int i=>.int i
 | _,_,.str x=>.str x
 | _,_,.lst e h=>.lst (S _ _ e) (dO.same S h)
 | _,_,.tup e h=>.tup (S _ _ e) (dO.same S h)
theorem dO.same {H H':Hp} (S:Same H H'):∀ {xs:List V} {ds:List PyData},dO H xs ds->dO H' xs ds
 | _,_,.nil=>.nil
 | _,_,.cons h t=>.cons (Shows.same S h) (dO.same S t)
end
theorem dO.ints (H:Hp):∀ ns:List Int,dO H (ns.map V.int) (ns.map PyData.int)
 | []=>.nil
 | n :: ns=>.cons (.int n) (dO.ints H ns)
section
variable {X:Cx} {pins:List (Addr × Obj)} {σ:L2.St} {H:Hp} {s:Shared}
mutual
theorem Inv.reads (I:Inv X pins σ H s):∀ {x:V} {d:PyData} {v:Value},Shows H x d->RelV x v->∃ as,Reads s.heap v d as
 | _,_,_,.non,r=>by cases r; exact ⟨_,.none⟩
 | _,_,_,.bl b,r=>by cases r; exact ⟨_,.bool b⟩
 | _,_,_,.int i,r=>by obtain ⟨t,rfl⟩:=r; exact ⟨_,.int i t⟩
 | _,_,_,.str x,r=>by obtain ⟨t,rfl⟩:=r; exact ⟨_,.str x t⟩
 | _,_,_,.lst e h,r=>by
  cases r
  obtain ⟨its,rv,⟨o,ho,hc,n,hd⟩⟩:=I.lstIs e
  obtain ⟨as,q⟩:=Inv.readsAll I h rv
  exact ⟨_,.list ho hc hd q⟩
 | _,_,_,.tup e h,r=>by
  cases r
  obtain ⟨its,rv,_,⟨o,ho,hc,n,hd⟩⟩:=I.tupIs e
  obtain ⟨as,q⟩:=Inv.readsAll I h rv
  exact ⟨_,.tuple ho hc hd q⟩
theorem Inv.readsAll (I:Inv X pins σ H s):∀ {xs:List V} {ds:List PyData} {vs:List Value},dO H xs ds->Vals xs vs->∃ as,ReadsAll s.heap vs ds as
 | _,_,_,.nil,r=>by cases r; exact ⟨_,.nil⟩
 | _,_,_,.cons h t,r=>by
  cases r with
  | cons r1 r2 =>
   obtain ⟨a,q1⟩:=Inv.reads I h r1
   obtain ⟨b,q2⟩:=Inv.readsAll I t r2
   exact ⟨_,.cons q1 q2⟩
end
noncomputable def VR (neg:Bool):R2:=fun x y H Q=>∃ d e,Shows H x d/\Shows H y e/\SeqAt.shaped d = true/\SeqAt.shaped e = true/\Q (.bl (if neg then !PyData.eqv d e else PyData.eqv d e)) H
theorem Y7 (hu:X.A.units + 64 < cLine):OpR X (compareOp .Eq) (VR false):=by
 intro pins s σ H x y v u Q I rx ry h
 obtain ⟨d,e,hd,he,sd,se,q⟩:=h
 obtain ⟨as,ra⟩:=I.reads hd rx
 obtain ⟨bs,rb⟩:=I.reads he ry
 exact SeqAt.compareEq_shaped ra rb sd se hu ⟨.bl _,H,I,rfl,q⟩
noncomputable def Ms:List V->Hp->VK->Prop:=fun xs H Q=>∃ (l:Addr) (ns:List Int),xs = [.ref l]/\H l = some (.lst (ns.map V.int))/\Q (.int ns.sum) H
theorem w5 (hc:X.calm = true):eG X (.builtin "sum") Ms:=by
 intro pins s σ H xs us Q I r h
 obtain ⟨l,ns,rfl,hl,q⟩:=h
 obtain ⟨u,rfl,ru⟩:=r.one
 cases ru
 obtain ⟨its,rv,p⟩:=I.lstIs hl
 have hI:=intsAre_of rv
 obtain ⟨xs,e⟩:=hI.allInts.items
 have hn:=hI.numsOf
 rw [show its = its.toArray.toList from rfl,e,nums_intItems] at hn
 rw [e] at p
 refine sum_intListG (I.ok.hd hc) p fun h' tk t' k=>⟨.int ns.sum,H,I.kept k,?_,q⟩
 rw [preSum_eq,aJ (by simp),hn]
 exact ⟨_,rfl⟩
noncomputable def R4:List V->Hp->VK->Prop:=fun xs H Q=>∃ (l:Addr) (ns:List Int),xs = [.ref l]/\H l = some (.lst (ns.map V.int))/\0 < ns.length/\∀ M,M ∈ ns->(∀ a,a ∈ ns->a <= M)->Q (.int M) H
noncomputable def Td:List V->Hp->VK->Prop:=fun xs H Q=>∃ (l:Addr) (ns:List Int),xs = [.ref l]/\H l = some (.lst (ns.map V.int))/\0 < ns.length/\∀ M,M ∈ ns->(∀ a,a ∈ ns->M <= a)->Q (.int M) H
noncomputable def YQ (te ts:TE):TE:=fun σ H Q=>te σ H fun x H1=>ts σ H1 fun y H2=>y = .int (-1)/\∃ a xs,x = .ref a/\H2 a = some (.lst xs)/\∀ p,H2 p = none->Q (.ref p) (upd H2 p (.lst xs.reverse))
end
end L2
namespace L2
open PySem PySem.Spec PyProof.Rows
section
variable {K:Frag} {tl:TE} {ta:TA} {g:TG} {tb:TS} {D:Ends} {σ:L2.St} {H:Hp}
theorem Pz (h:tl σ H fun x H1=>∃ a xs,x = .ref a/\H1 a = some (.lst xs)/\∃ J:Nat->L2.St->Hp->Prop,J 0 σ H1 /\
   (∀ k x σ' H',xs[k]? = some x->J k σ' H'->H' a = some (.lst xs)->g x σ' H' fun σ2 H2=>tb { D with nx:=fun σ3 H3=>H3 a = some (.lst xs)/\J (k + 1) σ3 H3,ct:=fun σ3 H3=>H3 a = some (.lst xs)/\J (k + 1) σ3 H3,bk:=D.nx } σ2 H2) /\
   ∀ σ' H',J xs.length σ' H'->H' a = some (.lst xs)->D.nx σ' H') (hm:∀ (P Q:V->Hp->Prop),(∀ x H',P x H'->Q x H')->tl σ H P->tl σ H Q):K1 (z8 K tl) g tb D σ H:=by
 refine hm _ _ ?_ h
 rintro x H1 ⟨a,xs,rfl,hx,J,j0,step,fin⟩
 refine ⟨a,rfl,⟨xs,.of hx⟩,fun k m σ' H'=>k <= xs.length/\m = xs.length - k/\H' a = some (.lst xs)/\J k σ' H',⟨_,aZ _,rfl,hx,j0⟩,?_⟩
 rintro k m σ' H' ⟨hk,rfl,hx',j⟩
 by_cases e:k = xs.length
 .subst e
  exact .inl ⟨⟨xs,.of hx',aD _⟩,fin σ' H' j hx'⟩
 .have hlt:k < xs.length:=by omega
  have e1:xs[k]? = some xs[k]:=aj hlt
  refine .inr ⟨⟨xs,_,.of hx',e1⟩,fun σ3 H3=>H3 a = some (.lst xs)/\J (k + 1) σ3 H3,fun σ3 H3 ⟨z1,z2⟩=>⟨xs.length - (k + 1),by omega,by omega,rfl,z1,z2⟩,?_⟩
  rintro x H'' ⟨rfl,y⟩
  exact step k x σ' H'' (y xs (.of hx')) j hx'
theorem Qt (h:ta σ H fun vs H1=>∃ n:Nat,vs = [.int n]/\n < 2 ^ 61/\∃ J:Nat->L2.St->Hp->Prop,J 0 σ H1 /\
   (∀ (k:Nat) σ' H',k < n->J k σ' H'->g (.int k) σ' H' fun σ2 H2=>tb { D with nx:=J (k + 1),ct:=J (k + 1),bk:=D.nx } σ2 H2)/\∀ σ' H',J n σ' H'->D.nx σ' H')
  (hm:∀ (P Q:List V->Hp->Prop),(∀ x H',P x H'->Q x H')->ta σ H P->ta σ H Q):K1 (Oc ta) g tb D σ H:=by
 refine hm _ _ ?_ h
 rintro x H1 ⟨n,rfl,hn,J,j0,step,fin⟩
 refine ⟨n,rfl,by omega,by omega,?_⟩
 rw [Int.toNat_natCast]
 refine ⟨fun k m σ' H'=>k <= n/\m = n - k/\J k σ' H',⟨_,aZ _,rfl,j0⟩,?_⟩
 rintro k m σ' H' ⟨hk,rfl,j⟩
 by_cases e:k = n
 .subst e
  exact .inl ⟨aD _,fin σ' H' j⟩
 .have hlt:k < n:=by omega
  refine .inr ⟨hlt,J (k + 1),fun σ3 H3 z=>⟨n - (k + 1),by omega,by omega,rfl,z⟩,?_⟩
  rintro x H'' ⟨rfl,rfl⟩
  rw [Int.zero_add]
  exact step k σ' H'' hlt j
end
end L2
namespace L2
open PySem PySem.Spec PyProof.Rows
section
variable {X:Cx}
noncomputable def tM (t:TE):TE:=fun σ H Q=>∃ R:VK,t σ H R/\∀ x H',R x H'->Q x H'
noncomputable def tMA (t:TA):TA:=fun σ H Q=>∃ R:List V->Hp->Prop,t σ H R/\∀ x H',R x H'->Q x H'
theorem PE.mono {a:Expr} {t:TE} (h:PE X a t):PE X a (tM t):=fun pins s σ H Q I ⟨R,h1,h2⟩ =>
 thn (h pins s σ H R I h1) fun v s' ⟨x,H',I',r,q⟩=>⟨x,H',I',r,h2 x H' q⟩
theorem PA.mono {es:List Expr} {t:TA} (h:PA X es t):PA X es (tMA t):=fun pos pins s σ H Q I ⟨R,h1,h2⟩ =>
 thn (h pos pins s σ H R I h1) fun v s' ⟨x,H',I',r,q⟩=>⟨x,H',I',r,h2 x H' q⟩
theorem PE.imp {a:Expr} {t t':TE} (h:PE X a t) (i:∀ σ H Q,t' σ H Q->t σ H Q):PE X a t':=fun pins s σ H Q I q=>h pins s σ H Q I (i σ H Q q)
theorem YF {t:TE} {σ:L2.St} {H:Hp} {Q:VK} (h:t σ H Q):tM t σ H Q:=⟨Q,h,fun _ _ q=>q⟩
theorem gK {K:Frag} {tl:TE} {g:TG} {tb:TS} {D:Ends} {σ:L2.St} {H:Hp} (h:tl σ H fun x H1=>∃ a xs,x = .ref a/\H1 a = some (.lst xs)/\∃ J:Nat->L2.St->Hp->Prop,J 0 σ H1 /\
   (∀ k x σ' H',xs[k]? = some x->J k σ' H'->H' a = some (.lst xs)->g x σ' H' fun σ2 H2=>tb { D with nx:=fun σ3 H3=>H3 a = some (.lst xs)/\J (k + 1) σ3 H3,ct:=fun σ3 H3=>H3 a = some (.lst xs)/\J (k + 1) σ3 H3,bk:=D.nx } σ2 H2) /\
   ∀ σ' H',J xs.length σ' H'->H' a = some (.lst xs)->D.nx σ' H'):K1 (z8 K (tM tl)) g tb D σ H :=
 Pz (YF h) fun _ _ i ⟨R,a,b⟩=>⟨R,a,fun x H' q=>i x H' (b x H' q)⟩
theorem wJ {ta:TA} {g:TG} {tb:TS} {D:Ends} {σ:L2.St} {H:Hp} (h:ta σ H fun vs H1=>∃ n:Nat,vs = [.int n]/\n < 2 ^ 61/\∃ J:Nat->L2.St->Hp->Prop,J 0 σ H1 /\
   (∀ (k:Nat) σ' H',k < n->J k σ' H'->g (.int k) σ' H' fun σ2 H2=>tb { D with nx:=J (k + 1),ct:=J (k + 1),bk:=D.nx } σ2 H2)/\∀ σ' H',J n σ' H'->D.nx σ' H'):K1 (Oc (tMA ta)) g tb D σ H :=
 Qt (ta:=tMA ta) ⟨_,h,fun _ _ q=>q⟩ fun _ _ i ⟨R,a,b⟩=>⟨R,a,fun x H' q=>i x H' (b x H' q)⟩
noncomputable def Xz (to:TE) (t:TA):TE:=fun σ H Q=>to σ H fun x H1=>∃ l xs,x = .ref l/\H1 l = some (.lst xs)/\t σ H1 fun vs H2=>∃ y ys,vs = [y]/\H2 l = some (.lst ys)/\ys.length < sizeLine/\Q .non (upd H2 l (.lst (ys ++ [y])))
theorem wB {o e:Expr} {to:TE} {t:TA} {apos cpos:Pos} (ho:PE X o to) (ha:PA X [e] t) (hb:attributeBase o "append" X.env (eval o X.env) = eval o X.env:=by rfl)
  (hf:((backTo cpos (starEach [e] X.env)).all (fun x=>!x.1) && (backToKw cpos (keywordEach [] X.env)).all (fun x=>x.1.isSome) && decide ([e].length + ([] : List Keyword).length + (if ([] : List Keyword).isEmpty then 0 else 1) < 30)) = true:=by rfl)
  (hl:(apos.endLine == cpos.line) = true:=by rfl) (hs:starEach [e] X.env = (false,eval e X.env) :: starEach [] X.env:=by rfl) (hp:(backTo cpos (starEach [] X.env)).any (·.1) = false:=by rfl) :
  PE X (.Call (.Attribute o "append" apos) [e] [] cpos) (Xz to t):=by
 refine (YB PySem.F.plainAttrs_list PySem.F.slot_list_append PySem.F.type_list_append CN ho.mono ha.mono hb hf hl hs hp).imp fun σ H Q h=>?_
 refine ⟨_,h,?_⟩
 rintro x H1 ⟨l,xs,rfl,hx,h2⟩
 refine ⟨.inl ⟨rfl,_,SqL.of hx⟩,_,h2,?_⟩
 rintro vs H2 ⟨y,ys,rfl,hy,hz,q⟩
 exact ⟨l,ys,y,rfl,rfl,hy,hz,q⟩
noncomputable def Ze (to:TE):TE:=fun σ H Q=>to σ H fun x H1=>∃ l xs,x = .ref l/\H1 l = some (.lst xs)/\Q .non (upd H1 l (.lst []))
noncomputable def En:List V->Hp->VK->Prop:=fun xs H Q=>∃ p ys,xs = [.ref p]/\H p = some (.lst ys)/\∀ l,H l = none->Q (.ref l) (upd H l (.lst ys))
theorem uf:eG X (.type "list") En:=G3.imp fun xs H Q ⟨p,ys,a,b,c⟩=>⟨p,ys,a,.inl (.of b),c⟩
end
mutual
theorem LQ:∀ ns:List Int,PyData.canLayAll0 (ns.map PyData.int) = true
 | []=>rfl
 | n :: ns=>by
  rw [List.map_cons]; unfold PyData.canLayAll0
  rw [LQ ns]; rfl
end
noncomputable def frD (f:Int × Int):PyData:=.tuple [.int f.1,.int f.2]
theorem Cy:∀ fs:List (Int × Int),PyData.canLayAll0 (fs.map frD) = true
 | []=>rfl
 | n :: ns=>by
  rw [List.map_cons]; unfold PyData.canLayAll0
  rw [Cy ns]; rfl
theorem Ip:∀ fs:List (Int × Int),PyData.depthAll (fs.map frD) <= 1
 | []=>aZ _
 | n :: ns=>by
  rw [List.map_cons]; unfold PyData.depthAll
  have:=Ip ns
  have e:PyData.depth (frD n) = 1:=rfl
  rw [e]; omega
inductive FL (H:Hp):List V->List (Int × Int)->Prop
 | nil:FL H [] []
 | cons {p:Addr} {f:Int × Int} {xs:List V} {fs:List (Int × Int)} : H p = some (.tup [.int f.1,.int f.2])->FL H xs fs->FL H (.ref p :: xs) (f :: fs)
theorem FL.imp {H H':Hp} (h:∀ p a b,H p = some (.tup [.int a,.int b])->H' p = some (.tup [.int a,.int b])):∀ {xs:List V} {fs:List (Int × Int)},FL H xs fs->FL H' xs fs
 | _,_,.nil=>.nil
 | _,_,.cons e t=>.cons (h _ _ _ e) (FL.imp h t)
theorem FL.same {H H':Hp} (S:Same H H') {xs:List V} {fs:List (Int × Int)} (h:FL H xs fs):FL H' xs fs:=h.imp fun p _ _ e=>S p _ e
theorem FL.length {H:Hp} : ∀ {xs:List V} {fs:List (Int × Int)},FL H xs fs->xs.length = fs.length
 | _,_,.nil=>rfl
 | _,_,.cons _ t=>by rw [List.length_cons,List.length_cons,FL.length t]
theorem FL.get {H:Hp} {xs:List V} {fs:List (Int × Int)} {k:Nat} {x:V} (g:FL H xs fs) (h:xs[k]? = some x):∃ p f,x = .ref p/\fs[k]? = some f/\H p = some (.tup [.int f.1,.int f.2]):=by
 induction g generalizing k with
 | nil=>cases h
 | cons e t ih =>
  cases k with
  | zero=>cases h; exact ⟨_,_,rfl,rfl,e⟩
  | succ k=>exact ih h
theorem FL.append {H:Hp} : ∀ {xs ys:List V} {fs gs:List (Int × Int)},FL H xs fs->FL H ys gs->FL H (xs ++ ys) (fs ++ gs)
 | _,_,_,_,.nil,h=>h
 | _,_,_,_,.cons e t,h=>.cons e (FL.append t h)
theorem FL.one {H:Hp} {p:Addr} {a b:Int} (h:H p = some (.tup [.int a,.int b])):FL H [.ref p] [(a,b)]:=.cons (f:=(a,b)) h .nil
theorem FL.shows {H:Hp} : ∀ {xs:List V} {fs:List (Int × Int)},FL H xs fs->dO H xs (fs.map frD)
 | _,_,.nil=>.nil
 | _,_,.cons e t=>.cons (.tup e (.cons (.int _) (.cons (.int _) .nil))) (FL.shows t)
end L2
namespace L2
open PySem PySem.Spec PyProof.Rows
noncomputable def Its (x:Str):It:=⟨fun i _=>i < x.cps.size,fun i H v H'=>H' = H/\∃ c,x.cps[i]? = some c/\v = .str ⟨#[c]⟩,fun i _=>i = x.cps.size⟩
theorem Io {P:Program} {w:World} {K:Frag} {tg:Expr} (it:Addr) (x:Str) (t:Tok) (ty:String) (hty : ["enumerate", "zip", "dict_itemiterator", "dict_reverseitemiterator", "odict_iterator", "itertools.zip_longest", "itertools.pairwise"].contains ty = false)
  (W:∀ A:Around,A.handled = none->Walks P w A it [it] [it] x.cps.size (SignAt x) (fun i h=>h.IsStrIter it ty x t i))
  (hself:∀ (A:Around) (i:Nat) (s:Shared) (Q:Value->Shared->Prop) (E:Value->Shared->Prop),s.heap.IsStrIter it ty x t i->Q (.ref it) s->wpAny (model P w) A (pyIter (.ref it)) Q E s):Turn P w K tg (Its x) [it] it (fun i h=>h.IsStrIter it ty x t i) where
 mem:=by simp
 obj:=fun i h st b hb=>by
  have e:b = it:=by simpa using hb
  subst e
  obtain ⟨o,ho,_,hd⟩:=st
  exact ⟨o,ho,fun v z=>by rw [hd] at z; cases z⟩
 keep:=fun i h h' st k=>let ⟨o,ho,r⟩:=st; ⟨o,k it (by simp) o ho,r⟩
 item:=by
  intro X hP hw hK hc i pins s σ H E I hf st hg
  subst hP hw hK
  obtain ⟨f0,f1,f2,f3,f4,f5⟩:=hf it (by simp)
  refine (W X.A (I.ok.hd hc)).item i s _ _ hg st fun v h' tk hv st' kk=>?_
  obtain ⟨c,u,hx,rfl⟩:=hv
  have I1:Inv X pins σ H { s with heap:=h',toks:=tk }:=I.turned (fun b o hb e=>kk b o (by simpa using hb) e) f0 f1 f3 f4 f5
  obtain ⟨o,ho,hcl,hd⟩:=id st'
  exact ⟨_,rfl,JB (s:={ s with heap:=h',toks:=tk }) ho hcl hd hty ⟨.str ⟨#[c]⟩,H,I1,⟨u,rfl⟩,⟨rfl,c,hx,rfl⟩,st',fun b hb=>(hf b hb).1⟩⟩
 done:=by
  intro X hP hw hK hc i pins s σ H E I hf st hg
  subst hP hw hK
  obtain ⟨f0,f1,f2,f3,f4,f5⟩:=hf it (by simp)
  have hg':i = x.cps.size:=hg
  subst hg'
  exact (W X.A (I.ok.hd hc)).done s _ _ st fun h' tk kk=>⟨rfl,I.turned (fun b o hb e=>kk b o (by simpa using hb) e) f0 f1 f3 f4 f5⟩
 self:=hself
section
variable {X:Cx} {tg:Expr}
noncomputable def abl (te:TE):TI:=fun σ H R=>te σ H fun v H1=>∃ x,v = .str x/\R (Its x) H1
theorem aak {l:Expr} {tl:TE} (hl:PE X l tl):PI X tg l (abl tl):=by
 intro pins s σ H R I h
 refine thn (hl pins s σ H _ I h) fun v s1 ⟨x,H1,I1,r1,y,ey,q⟩=>?_
 subst ey
 obtain ⟨t,rfl⟩:=r1
 have fp:∀ b ∈ [s1.heap.objs.size],yw X pins H1 b:=fun b hb=>by
  have e:b = s1.heap.objs.size:=by simpa using hb
  subst e
  exact I1.fpOk (aD _) (I1.hok.fresh (aD _))
 have k:∀ o:Obj,Inv X pins σ H1 { s1 with heap:=s1.heap.push o }:=fun o=>I1.kept (t':=s1.toks) fun b ob z=>aF _ z
 cases ha:y.cps.all (· < 128)
 .exact wpAny_pyIter_wide ha ⟨s1.heap.objs.size,[s1.heap.objs.size],_,Its y,H1,rfl,k _,Io _ y t "str_iterator" (by decide) (fun A hA=>Walks.strWide hA _ y t) (fun A i s Q E st h=>wpAny_pyIter_striter_wide st h),⟨_,aW _ rfl,rfl,rfl⟩,fp,q⟩
 .exact wpAny_pyIter_ascii ha ⟨s1.heap.objs.size,[s1.heap.objs.size],_,Its y,H1,rfl,k _,Io _ y t "str_ascii_iterator" (by decide) (fun A hA=>Walks.strAscii hA _ y t) (fun A i s Q E st h=>wpAny_pyIter_striter_ascii st h),⟨_,aW _ rfl,rfl,rfl⟩,fp,q⟩
end
noncomputable def zL (x:Str) (lo hi:Option Int):Str:=⟨((x.cps.toList.drop (HT.sIx x.length 0 lo)).take (HT.sIx x.length x.length hi - HT.sIx x.length 0 lo)).toArray⟩
theorem strIdx (lo hi:Option Int) (n:Nat):Builtin.Str.strSliceIndices lo hi 1 n = (List.range (HT.sIx n n hi - HT.sIx n 0 lo)).map (HT.sIx n 0 lo + ·):=by
 rw [<- sliceRange_one]
 unfold Builtin.Str.strSliceIndices
 have h1:∀ (o:Option Int) (d:Nat),d <= n->(match o with
   | none=>(d:Int)
   | some i=>(let i:=if i < 0 then i + (n:Int) else i; if (1:Int) > 0 then max 0 (min i n) else max (-1) (min i (n - 1)))) = ((HT.sIx n d o:Nat):Int):=by
  intro o d hd
  cases o with
  | none=>rfl
  | some i =>
   simp only [HT.sIx,show (1:Int) > 0 by decide,if_true]
   by_cases h:i < 0
   .simp only [h,if_true] <;> omega
   .simp only [h,if_false] <;> omega
 have e1:=h1 lo 0 (aZ _)
 have e2:=h1 hi n (aD _)
 simp only [show (1:Int) > 0 by decide,if_true] at e1 e2 ⊢
 rw [<- e1,<- e2]
 rfl
theorem V6 (x:Str) (lo hi:Option Int):(⟨((Builtin.Str.strSliceIndices lo hi 1 x.length).filterMap (x.cps[·]?)).toArray⟩ : Str) = zL x lo hi:=by
 rw [strIdx,pick_run]; rfl
theorem Li (x:Str) (lo hi:Option Int) (h:(Builtin.Str.strSliceIndices lo hi 1 x.length).length = x.length):zL x lo hi = x:=by
 rw [strIdx,ak,List.length_range] at h
 have h2:=HT.Z2 x.length x.length (aD _) hi
 unfold zL
 have hx:x.length = x.cps.size:=rfl
 have e:x.cps.toList.length = x.length:=by simp [hx]
 by_cases z:x.length = 0
 .have:x.cps.toList = []:=List.length_eq_zero_iff.mp (by omega)
  rw [this]
  obtain ⟨⟨l⟩⟩:=x
  simp at this
  subst this
  simp
 .have e0:HT.sIx x.length 0 lo = 0:=by omega
  rw [e0,List.drop_zero,aJ (by omega)]
noncomputable def WD:V->Option Int->Option Int->Hp->VK->Prop:=fun x lo hi H Q=>∃ y,x = .str y/\y.length <= sizeLine/\Q (.str (zL y lo hi)) H
theorem part_of {v:Value} {o:Option Int} (h:IsPart v o):∃ l:Option (Int × Tok),v = partValue l/\l.map (·.1) = o:=by
 cases h with
 | none=>exact ⟨none,rfl,rfl⟩
 | int i t=>exact ⟨some (i,t),rfl,rfl⟩
theorem UL {X:Cx} : SlR X WD:=by
 intro pins s σ H x v vl vu lo hi sl Q I rx hs pl pu h
 obtain ⟨y,rfl,hz,q⟩:=h
 obtain ⟨t,rfl⟩:=rx
 obtain ⟨l,rfl,el⟩:=part_of pl
 obtain ⟨u,rfl,eu⟩:=part_of pu
 refine ⟨"str",_,F.slot_str_getitem.lookup,typeIs_str s y t,wpAny_getItem_str_slice (l:=l) (u:=u) (st:=none) hs rfl ?_⟩
 unfold sliceMade slicePicked
 rw [el,eu]
 split
 .rename_i hw
  have hw':=(Bool.and_eq_true_iff.mp hw).2
  rw [beq_iff_eq] at hw'
  have e:=Li y lo hi hw'
  rw [e] at q
  exact ⟨.str y,H,I,⟨t,rfl⟩,q⟩
 .have e:=V6 y lo hi
  refine ⟨?_,.str (zL y lo hi),H,I.tok _,⟨s.toks,?_⟩,q⟩
  .refine aK ?_ hz
   refine aK (Nat.le_of_eq (congrArg Str.length e)) ?_
   show ((y.cps.toList.drop _).take _).toArray.size <= y.cps.size
   rw [aX,aY,List.length_drop,Array.length_toList]
   omega
  .rw [<- e]; rfl
end L2
namespace L2
open PySem PySem.Spec PyProof.Rows
noncomputable def JX (tk tv:TE):TE:=fun σ H Q=>∀ p,H p = none->tk σ (upd H p (.dK [])) fun x H1=>∃ i,x = .str i/\tv σ H1 fun y H2=>H2 p = some (.dK [])/\Q (.ref p) (upd H2 p (.dK [(.inr i,y)]))
section
variable {X:Cx}
noncomputable def Ma:R2:=fun x y H Q=>∃ i j,x = .str i/\y = .str j/\i.length + j.length <= sizeLine/\Q (.str (i ++ j)) H
theorem Mz:OpR X (binaryOp .Add) Ma:=KJ
noncomputable def V1:R2:=fun x y H Q=>∃ i j,x = .str i/\y = .str j/\Q (.bl (!decide (j.cps.toList < i.cps.toList))) H
theorem Sq:OpR X (compareOp .LtE) V1:=by
 intro pins s σ H x y v u Q I rx ry h
 obtain ⟨i,j,rfl,rfl,q⟩:=h
 obtain ⟨t,rfl⟩:=rx
 obtain ⟨t',rfl⟩:=ry
 exact PySem.P.le_str (cR I q rfl)
noncomputable def Y5 (neg:Bool):R2:=fun x y H Q=>∃ i j,x = .str i/\y = .str j/\∃ c,i = ⟨#[c]⟩/\Q (.bl (if neg then !decide (c ∈ j.cps.toList) else decide (c ∈ j.cps.toList))) H
theorem OpR.imp {f:Value->Value->Sem Value} {r r':R2} (h:OpR X f r) (i:∀ x y H Q,r' x y H Q->r x y H Q):OpR X f r':=fun pins s σ H x y v u Q I rx ry q=>h pins s σ H x y v u Q I rx ry (i _ _ _ _ q)
noncomputable def Va:List V->Hp->VK->Prop:=fun xs H Q=>∃ x n,xs = [.str x]/\x.length <= 640/\PySem.intText? x = some n/\Q (.int n) H
theorem Dq:∀ {bs:List Bool} {us:List Value},Vals (bs.map V.bl) us->∀ (i:Nat) (v:Value),us[i]? = some v->∃ b,bs[i]? = some b/\v = .bool b
 | [],_,.nil,i,v,h=>by cases i <;> cases h
 | b :: bs,_,.cons r t,0,v,h=>by
  rw [List.getElem?_cons_zero] at h
  cases h
  exact ⟨b,rfl,r⟩
 | b :: bs,_,.cons r t,i + 1,v,h=>by
  rw [List.getElem?_cons_succ] at h
  exact Dq t i v h
noncomputable def NZ:List V->Hp->VK->Prop:=fun xs H Q=>∃ (l:Addr) (bs:List Bool),xs = [.ref l]/\H l = some (.lst (bs.map V.bl))/\Q (.bl (bs.all id)) H
theorem pQ:∀ bs:List Bool,((List.range bs.length).all fun i=>(bs[i]?).getD true) = bs.all id
 | []=>rfl
 | b :: bs=>by
  rw [List.length_cons,List.range_succ_eq_map,List.all_cons,List.all_map,List.all_cons]
  have:=pQ bs
  simp only [Function.comp_def,List.getElem?_cons_succ,List.getElem?_cons_zero,Option.getD_some,id] at this ⊢
  rw [this]
theorem wO (hc:X.calm = true):eG X (.builtin "all") NZ:=by
 intro pins s σ H xs us Q I r h
 obtain ⟨l,bs,rfl,hl,q⟩:=h
 obtain ⟨u,rfl,ru⟩:=r.one
 cases ru
 obtain ⟨its,rv,p⟩:=I.lstIs hl
 have hlt:l < s.heap.objs.size:=by obtain ⟨_,e,_⟩:=p; exact aH e
 refine call_all_walk (wpAny_pyIter_list p ?_)
 refine ⟨s.heap.objs.size,[s.heap.objs.size,l],[s.heap.objs.size],its.toArray.size,_,_,fun i=>(bs[i]?).getD true,rfl,Walks.list (A:=X.A.in1) (I.ok.hd hc) _ l (aP hlt) its.toArray,
  ⟨⟨_,aW _ rfl,rfl,rfl⟩,p.push _⟩,fun i v s' Q' E' hP hQ=>?_,fun h' tk hk=>?_⟩
 .obtain ⟨b,e,rfl⟩:=Dq rv i v (by simpa using hP)
  simp only [e,Option.getD_some] at hQ
  exact wpAny_truthy_bool hQ
 .have e:((List.range its.toArray.size).all fun i=>(bs[i]?).getD true) = bs.all id:=by
   rw [aX,<- rv.length,ak]; exact pQ bs
  refine ⟨.bl (bs.all id),H,I.kept (t':=tk) fun b o q=>hk b o (fun hm=>?_) (aF _ q),?_,q⟩
  .rw [List.mem_singleton.mp hm] at q
   exact Nat.lt_irrefl _ (aH q)
  .rw [e]; rfl
noncomputable def Fw:V->List V->Hp->VK->Prop:=fun x vs H Q=>∃ a b,x = .str a/\vs = [.str b]/\Q (.bl (decide (0 + b.length <= a.length) && Builtin.Str.subAt a b 0)) H
noncomputable def acJ:List Nat->Int
 | i :: _=>(i:Int)
 | []=>-1
noncomputable def Tr:V->List V->Hp->VK->Prop:=fun x vs H Q=>∃ a b,x = .str a/\vs = [.str b]/\Q (.int (acJ (Builtin.Str.occurrences a b 0 a.length 1))) H
noncomputable def J_:V->List V->Hp->VK->Prop:=fun x vs H Q=>∃ a b,x = .str a/\vs = [.str b]/\1 <= b.length/\a.length < sizeLine/\∀ p,H p = none->Q (.ref p) (upd H p (.lst ((Txt.split a b).map V.str)))
noncomputable def tSM (r:V->List V->Hp->VK->Prop) (to:TE) (t:TA):TE:=fun σ H Q=>to σ H fun x H1=>(∃ y,x = .str y)/\t σ H1 fun vs H2=>r x vs H2 Q
theorem acw {o e:Expr} {to:TE} {t:TA} {name:Str} {id:String} {r:V->List V->Hp->VK->Prop} {apos cpos:Pos} (slot:Slot "str" name id) (hty:typeOf (.builtin id) = pure (.type "method_descriptor")) (hm:MtM X id r) (ho:PE X o to) (ha:PA X [e] t)
  (hb:attributeBase o name X.env (eval o X.env) = eval o X.env:=by rfl)
  (hf:((backTo cpos (starEach [e] X.env)).all (fun x=>!x.1) && (backToKw cpos (keywordEach [] X.env)).all (fun x=>x.1.isSome) && decide ([e].length + ([] : List Keyword).length + (if ([] : List Keyword).isEmpty then 0 else 1) < 30)) = true:=by rfl)
  (hl:(apos.endLine == cpos.line) = true:=by rfl) (hs:starEach [e] X.env = (false,eval e X.env) :: starEach [] X.env:=by rfl) (hp:(backTo cpos (starEach [] X.env)).any (·.1) = false:=by rfl) :
  PE X (.Call (.Attribute o name apos) [e] [] cpos) (tSM r to t):=by
 refine (YB PySem.F.plainAttrs_str slot hty hm ho.mono ha hb hf hl hs hp).imp fun σ H Q h=>?_
 refine ⟨_,h,?_⟩
 rintro x H1 ⟨⟨y,rfl⟩,h2⟩
 exact ⟨rfl,h2⟩
theorem RX {x:Str} {v:V} {pos:Pos} (hg:Gl X x) (hm:∃ u,X.mg x = some u/\RelV v u) (hd:(x == ("__debug__" : Str)) = false:=by decide):PE X (.Name x pos) (tC v):=by
 obtain ⟨u,h1,h2⟩:=hm
 exact GK hg h1 h2 hd
noncomputable def QW:R2:=fun x y H Q=>∃ i n,x = .str i/\y = .int n/\i.length = 1/\0 <= n/\n <= 1000/\∀ z:Str,z.length <= n.toNat + 1->Q (.str z) H
theorem Wf {a b:Expr} {ta tb:TE} {pos:Pos} (ha:PEB X a ta) (hb:PE X b tb) (hs:M_ b):PEB X (.Subscript a b pos) (tOp I_ ta tb):=⟨bM bN ha.out hb hs⟩
theorem uU {st:Stmt} {t:TS} (h1:PSB X st t):WM X [st] t:=⟨bI h1.out⟩
end
theorem cj.calm {P:Program} {w:World} {K:Frag} {mg:Str->Option Value} {base:Heap} {k:Nat} {f:Addr} {fd:FuncData} {ps:List Str} {sp:Sp} (F:cj P w K mg base (CXO P w) k f fd ps sp) :
  cj P w K mg base CX0 k f fd ps (fun vs H Q _=>sp vs H Q fun _ _ _=>False):=by
 refine ⟨fun vs H Q E h=>F.len _ _ _ _ h,fun A outer s H args us vs Q E hr e0 hb r h=>?_⟩
 refine codeAny_mono (F.run A outer s H args us vs Q _ hr e0 hb r h) fun res s' hs=>?_
 cases res with
 | error e =>
  obtain ⟨_,_,_,_,_,_,_,z⟩:=hs
  exact z.elim
 | ok fl =>
  cases fl with
  | ret u=>exact hs
  | next=>exact hs
  | brk=>exact hs
  | cont=>exact hs
theorem OkX.calm {P:Program} {w:World} {K:Frag} {mg:Str->Option Value} {base:Heap} {k:Nat} {x:Str} {ps:List Str} {sp:Sp} (F:OkX P w K mg base k x ps sp) :
  OkF P w K mg base k x ps (fun vs H Q _=>sp vs H Q fun _ _ _=>False):=let ⟨f,fd,a,b⟩:=F; ⟨f,fd,a.calm,b⟩
end L2
namespace L2
open PySem PySem.Spec PyProof.Rows
noncomputable def hid (y:Str):Str:=Str.ofString "?" ++ y
noncomputable def CT (xs:List Str) (N:List Str):List Str:=N.map fun y=>if y ∈ xs then hid y else y
noncomputable def Cx.compG (X:Cx) (N':List Str) (scope:Scope) (xs:List Str) (C:Addr) (s₀:Shared) (H₀:Hp) (ex:List Addr) (pn:List (Addr × Obj)):Cx :=
 { X with env:=compEnvC scope (wH X.env.cells scope.names []) C X.env,N:=xs ++ N',s₀:=s₀,H₀:=H₀,outer:=X.stack,ex:=ex,fn:=fun _=>false,pn:=pn,xe:=fun _ _=>False }
noncomputable def PTs (X:Cx) (ifs:List Expr) (tc:TT):Prop:=∀ (pins:List (Addr × Obj)) (s:Shared) (σ:L2.St) (H:Hp) (Q:Bool->Hp->Prop),Inv X pins σ H s->tc σ H Q ->
 wpAny (model X.prog X.w) X.A (forIn ifs true fun c r=>if r = true then do let ok <- isTrue c X.env (eval c X.env); pure (ForInStep.yield ok) else pure (ForInStep.yield r)) (fun b s'=>∃ H',Inv X pins σ H' s'/\Q b H') X.xe s
noncomputable def Jr:TT:=fun _ H Q=>Q true H
theorem cU {X:Cx} : PTs X [] Jr:=fun _ _ _ H _ I q=>wpAny_tests_nil ⟨H,I,q⟩
theorem Xv {X:Cx} {c:Expr} {tc:TT} (h:PT X c tc):PTs X [c] tc:=fun pins s σ H Q I q=>wpAny_tests_one (h pins s σ H Q I q)
noncomputable def jz (wi:TI) (n:Nat) (gt:TG) (tc:TT) (te:TE):TE:=fun σ H Q=>wi σ H fun J H1=>∀ D,H1 D = none->∃ W:Nat->Nat->List V->Hp->Prop,(∃ m,W 0 m [] (upd H1 D (.lst [])))/\∀ i m ys Hc,W i m ys Hc ->
 (J.stop i Hc/\Q (.ref D) Hc)\/(J.go i Hc/\∀ x H',J.yld i Hc x H'->∀ pre:L2.St,pre.length = n->gt x (pre ++ σ) H' fun σ2 H2=>∃ pre':L2.St,pre'.length = n/\σ2 = pre' ++ σ/\tc σ2 H2 fun b H3 =>
  match b with
  | true=>te σ2 H3 fun y H4=>ys.length < sizeLine/\H4 D = some (.lst ys)/\∃ m',m' < m/\W (i + 1) m' (ys ++ [y]) (upd H4 D (.lst (ys ++ [y])))
  | false=>∃ m',m' < m/\W (i + 1) m' ys H3)
section
variable {X:Cx} {elt iter:Expr} {pos:Pos} {scope:Scope} {wi:TI} {te:TE}
theorem yU {use:Option (Value->Sem Unit)} {post:Value->Shared->Prop} {Qv:VK} {pins:List (Addr × Obj)} {s:Shared} {σ:L2.St} {H:Hp} {pp:Pos} {xs N':List Str} {tg:Expr} {ifs:List Expr} {gt:TG} {tc:TT} (hc:X.calm = true) (hsh:CT xs X.N = N') (hN:(xs ++ N').Nodup) (hkind:scope.kind = .function) (hcell:∀ y ∈ scope.names,y.2 ≠ .cell) (hnames:∀ y ∈ scope.names,y.2 = .local->scope.names.lookup y.1 = some .local)
  (hfree:∀ y ∈ scope.names,y.2 = .free->X.env.kindOf y.1 = some .cell\/X.env.kindOf y.1 = some .free) (hloc:∀ y ∈ X.N,y ∉ xs->(relabel scope X.env).names.lookup y ≠ some .local) (hq:∀ y ∈ X.N,y ∈ xs->(relabel scope X.env).names.lookup (hid y) = none) (hi:PI X tg iter wi)
  (hg:∀ C s₀ H₀ ex pn,PG (X.compG N' scope xs C s₀ H₀ ex pn) tg gt) (ht:∀ C s₀ H₀ ex pn,PTs (X.compG N' scope xs C s₀ H₀ ex pn) ifs tc) (he:∀ C s₀ H₀ ex pn,PE (X.compG N' scope xs C s₀ H₀ ex pn) elt te) (hs:∀ z,foldedSetIterable iter X.env z = pure z) (I:Inv X pins σ H s) (h:jz wi xs.length gt tc te σ H Qv)
  (endC:∀ (C D:Addr) (Hc:Hp) (s6:Shared) (m:Str->Option Value) (fl:Flow),s6.heap.Ns C m->Inv X pins σ Hc s6->yw X pins Hc C->Qv (.ref D) Hc->compPost (model X.prog X.w) X.A X.xe use post (.ref D) C (.ok fl) s6) :
  wpAny (model X.prog X.w) X.A (comprehension (.ListComp elt [⟨tg,iter,ifs,0⟩] scope pos) scope X.env pp (newList []) false (eval iter X.env) use) post X.xe s:=by
 have hfr:∀ y ∈ scope.names,y.2 = .free->∃ c,X.env.cells.lookup y.1 = some c:=fun y hy e=>I.ok.has y.1 (hfree y hy e)
 refine wpAny_comprehension_free (use:=use) (Q:=post) rfl hs (Ku hfr) hkind hnames (thn (hi pins s σ H _ I h) fun v s1 h1=>thn h1 fun itv s2 h2=>?_)
 obtain ⟨it,fp,tn,J,H2,e,I2,T,st2,f2,R⟩:=h2
 subst e
 have nD:H2 s2.heap.objs.size = none:=I2.hok.fresh (aD _)
 obtain ⟨W,⟨m0,w0⟩,turn⟩:=R s2.heap.objs.size nD
 refine wpAny_newObj_type ?_ (by show 0 <= sizeLine; exact aZ _)
 have I3:Inv X pins σ (upd H2 s2.heap.objs.size (.lst [])) { s2 with heap:=s2.heap.push { cls:=.type "list",dict:=none,data:=.seq ([] : List Value).toArray } }:=I2.lnew (t':=s2.toks) (ys:=[]) (its:=[]) .nil (aZ _)
 have oldT:∀ b o,s2.heap.get? b = some o->(s2.heap.push { cls:=.type "list",dict:=none,data:=.seq ([] : List Value).toArray }).get? b = some o:=fun b o e=>aF _ e
 generalize hs3:({ s2 with heap:=s2.heap.push { cls:=.type "list",dict:=none,data:=.seq ([] : List Value).toArray } } : Shared) = s3 at I3 ⊢
 have st3:tn 0 s3.heap:=T.keep _ _ _ st2 fun b _ o e=>by rw [<- hs3]; exact oldT b o e
 generalize hH3:upd H2 s2.heap.objs.size (.lst []) = H3 at I3 w0
 have f3:∀ b ∈ fp,yw X pins H3 b:=fun b hb=>by
  obtain ⟨a1,a2⟩:=f2 b hb
  refine ⟨?_,a2⟩
  obtain ⟨o,e,_⟩:=T.obj _ _ st2 b hb
  rw [<- hH3,bF (aP (aH e))]
  exact a1
 refine wpAny_newFunctionEnv hcell (by intro y hy; simp at hy) (fun g hns hsb=>?_) hkind
 have kg:∀ b o,s3.heap.get? b = some o->g.get? b = some o:=fun b o e=>(hsb.2 b (aP (aH e))).trans (aF _ e)
 have clm:∀ {y:Str} {c:Addr},(wH X.env.cells scope.names []).lookup y = some c->X.env.cells.lookup y = some c:=fun {y c} e=>by
  rcases JK hfr (PySem.mem_of_lookup e) with z | z
  .cases z
  .exact z
 have kinds:∀ {y:Str},((relabel scope X.env).names.lookup y = some .cell\/(relabel scope X.env).names.lookup y = some .free)->(X.env.kindOf y = some .cell\/X.env.kindOf y = some .free)/\∃ c,(wH X.env.cells scope.names []).lookup y = some c:=fun {y} e=>by
  have z:=uH e hcell
  obtain ⟨c,hc'⟩:=Jw (cells:=X.env.cells) (acc:=[]) (.inl z)
  exact ⟨hfree _ z rfl,mJ hc'⟩
 have lt3:∀ b ∈ fp,b < s3.heap.objs.size:=fun b hb=>by
  obtain ⟨o,e,_⟩:=T.obj _ _ st3 b hb
  exact aH e
 have nst:∀ b ∈ fp,b ∉ frs X.stack:=fun b hb=>I3.nostk' (f3 b hb).2.1 (f3 b hb).2.2.1
 generalize hX:X.compG N' scope xs s3.heap.objs.size s3 H3 fp (X.pn ++ pins) = Y
 have ok':Y.Ok:=by
  subst hX
  exact ⟨I3.ok.mod,hkind,I3.ok.glob,I3.ok.blt,aD _,fun y z c h1 h2=>I3.ok.inj y z c (clm h1) (clm h2),fun y hy=>(kinds hy).2,fun _ _ z=>(nomatch z),I3.ok.hd,I3.ok.frames,.inl rfl,
   fun b hb=>⟨aP (lt3 b hb),fun y c e=>(f3 b hb).2.2.2.2.1 y c (clm e)⟩,I3.bs,aK I3.ok.bsz I3.sz,fun b o e hb=>by
    rcases (f3 b hb).2.2.2.1 with z | z
    .exact I3.ok.noex b o e z
    .exact absurd (aQ (aQ (aH e) I3.ok.bsz) z) (Nat.lt_irrefl _),nst,I3.stack,I3.stkFree⟩
 have J4:∀ tk,Inv Y [] (List.replicate xs.length none ++ σ) H3 { s3 with heap:=g,toks:=tk }:=fun tk=>by
  subst hX
  refine ⟨ok',rfl,I3.bare,Un.kept kg,⟨_,hns,fun i y v e1 e2 e3=>?_⟩,fun y c e=>?_,I3.hok.fresh (aD _),fun y c e=>I3.freeC y c (clm e),fun p hp=>?_,I3.hok.kept kg,?_⟩
  .by_cases hin:i < xs.length
   .rw [aC (by rw [aL]; exact hin),List.getElem?_replicate,if_pos hin] at e2
    cases e2
   .obtain ⟨j,rfl⟩ : ∃ j,i = xs.length + j:=⟨i - xs.length,by omega⟩
    have e0:N'[j]? = some y:=by
     have e1:(xs ++ N')[xs.length + j]? = some y:=e1
     rw [aB (by omega)] at e1
     rw [show xs.length + j - xs.length = j by omega] at e1
     exact e1
    have e2':σ[j]? = some (some v):=by
     rw [aB (by rw [aL]; omega),aL] at e2
     rw [show xs.length + j - xs.length = j by omega] at e2
     exact e2
    rw [<- hsh] at e0
    obtain ⟨y0,e1',ey⟩ : ∃ y0,X.N[j]? = some y0/\(if y0 ∈ xs then hid y0 else y0) = y:=by
     unfold CT at e0
     rw [aq] at e0
     cases hz:X.N[j]? with
     | none=>rw [hz] at e0; cases e0
     | some y0=>rw [hz] at e0; exact ⟨y0,rfl,Option.some.inj e0⟩
    have e3:(relabel scope X.env).names.lookup y = some .local\/(relabel scope X.env).names.lookup y = some .cell\/(relabel scope X.env).names.lookup y = some .free:=e3
    have ne:¬ y0 ∈ xs:=fun z=>by
     rw [if_pos z] at ey
     subst ey
     rw [hq y0 (aA e1') z] at e3
     rcases e3 with z | z | z <;> cases z
    rw [if_neg ne] at ey
    subst ey
    have e3':(relabel scope X.env).names.lookup y0 = some .cell\/(relabel scope X.env).names.lookup y0 = some .free:=by
     rcases e3 with z | z
     .exact absurd z (hloc y0 (aA e1') ne)
     .exact z
    obtain ⟨kd,c,hcl⟩:=kinds e3'
    obtain ⟨m,_,hl⟩:=I3.loc
    obtain ⟨u,r,lk⟩:=hl j y0 v e1' e2' (.inr kd)
    refine ⟨u,r,.inr ⟨e3',c,hcl,?_⟩⟩
    rcases lk with ⟨k1,_⟩ | ⟨_,c',q1,o,q2,q3⟩
    .exfalso
     have k1':X.env.kindOf y0 = some .local:=k1
     rcases kd with k2 | k2 <;> rw [k1'] at k2 <;> cases k2
    .rw [clm hcl] at q1
     cases q1
     exact ⟨o,kg _ _ q2,q3⟩
  .obtain ⟨v,o,q2,q3⟩:=I3.cell y c (clm e)
   exact ⟨v,o,kg _ _ q2,q3⟩
  .have hp':p ∈ X.pn ++ pins:=by simpa [Cx.compG] using hp
   obtain ⟨a1,a2,a3,a4,a5⟩:=I3.pin p hp'
   exact ⟨kg _ _ a1,a2,aP (aH a1),I3.nostk' a3 a4,a5⟩
  .show (List.replicate xs.length none ++ σ).length = (xs ++ N').length
   have hln:N'.length = X.N.length:=by rw [<- hsh]; unfold CT; rw [ak]
   rw [au,aL,au,I3.len,hln]
 have fpY:∀ {Hc:Hp},(∀ b ∈ fp,Hc b = none)->∀ b ∈ fp,yw Y [] Hc b:=fun {Hc} hn b hb=>by
  subst hX
  exact ⟨hn b hb,aP (lt3 b hb),nst b hb,.inl hb,fun y c e=>(f3 b hb).2.2.2.2.1 y c (clm e),fun p hp=>(f3 b hb).2.2.2.2.2 p (by simpa [Cx.compG] using hp)⟩
 have loop:∀ s4:Shared,s4 = { s3 with heap:=g,toks:=s3.toks + ([] : List (Str × Value)).length } ->
   codeAny (model X.prog X.w) X.A (.compLoop (.ListComp elt [⟨tg,iter,ifs,0⟩] scope pos) 0 (.ref it) (.ref s2.heap.objs.size) Y.env) (compPost (model X.prog X.w) X.A X.xe use post (.ref s2.heap.objs.size) s3.heap.objs.size) s4:=by
  rintro s4 rfl
  have YP:Y.prog = X.prog/\Y.w = X.w/\Y.K = X.K/\Y.calm = X.calm/\Y.A = X.A/\Y.env.locals = s3.heap.objs.size:=by subst hX; exact ⟨rfl,rfl,rfl,rfl,rfl,rfl⟩
  obtain ⟨y1,y2,y3,y4,y5,y6⟩:=YP
  have he':PE Y elt te:=by subst hX; exact he _ _ _ _ _
  have hg':PG Y tg gt:=by subst hX; exact hg _ _ _ _ _
  have ht':PTs Y ifs tc:=by subst hX; exact ht _ _ _ _ _
  have xeY:Y.xe = fun _ _=>False:=by subst hX; rfl
  have yb:∀ {Hc:Hp} {w':L2.St} {pn:List (Addr × Obj)} {s':Shared},Inv Y pn w' Hc s'->Un (frs X.stack) fp H3 Hc s3.heap s'.heap:=fun {Hc w' pn s'} Z=>by
   have:=Z.base
   subst hX
   exact this
  have yos:∀ {Hc:Hp} {w':L2.St} {pn:List (Addr × Obj)} {s':Shared},Inv Y pn w' Hc s'->s'.os = s3.os:=fun {Hc w' pn s'} Z=>by
   have:=Z.os
   subst hX
   exact this
  refine codeAny_loop rfl (fun n s'=>∃ i ys Hc,∃ w':L2.St,w'.length = xs.length/\Inv Y [] (w' ++ σ) Hc s'/\tn i s'.heap/\(∀ b ∈ fp,Hc b = none)/\W i n ys Hc) (fun n s5 hI=>?_) m0 ⟨0,[],H3,List.replicate xs.length none,aL,J4 _,T.keep _ _ _ st3 fun b _ o e=>kg b o e,fun b hb=>(f3 b hb).1,w0⟩
  obtain ⟨i,ys,Hc,w',hw',Z,stc,frc,wc⟩:=hI
  show wpAny _ _ ((compTurn (.ListComp elt [⟨tg,iter,ifs,0⟩] scope pos) 0 (.ref it) (.ref s2.heap.objs.size) Y.env).onRaise (fun z=>do noteFrame z Y.env; theTreesLotGoes z)) _ _ s5
  refine wpAny_noted (wpAny_noRaise ?_)
  rw [compTurn_list]
  show wpAny (model X.prog X.w) X.A _ _ _ _
  rcases turn i n ys Hc wc with ⟨stop,qn⟩ | ⟨go,step⟩
  .have hd:=T.done Y y1 y2 y3 (y4.trans hc) i [] s5 (w' ++ σ) Hc (fun _ _=>False) Z (fpY frc) stc stop
   rw [y5] at hd
   refine wpAny_bind (wpAny_standAt (wpAny_bind (thn hd fun r s6 ⟨hr,Z6⟩=>?_)))
   subst hr
   refine wpAny_pure ?_
   obtain ⟨m,hn6,_⟩:=Z6.loc
   rw [y6] at hn6
   have u6:=yb Z6
   have hok:HOk X.prog X.w Hc s6.heap:=by
    have z:=Z6.hok
    rw [y1,y2] at z
    exact z
   have cn:Hc s3.heap.objs.size = none:=by
    have z:=Z6.free
    rw [y6] at z
    exact z
   have I6:Inv X pins σ Hc s6:=I3.call' (s':=s6) (ch:=fp) (yos Z6) u6 hok Z6.bare fun b hb=>⟨(f3 b hb).2.2.2.1,(f3 b hb).2.1,(f3 b hb).2.2.2.2.1,(f3 b hb).2.2.2.2.2⟩
   have fC:yw X pins Hc s3.heap.objs.size:=I3.fpOk (aD _) cn
   exact endC _ _ Hc s6 m _ hn6 I6 fC qn
  .have hd:=T.item Y y1 y2 y3 (y4.trans hc) i [] s5 (w' ++ σ) Hc (fun _ _=>False) Z (fpY frc) stc go
   rw [y5] at hd
   refine wpAny_bind (wpAny_standAt (wpAny_bind (thn hd fun r s6 ⟨u,hr,h6⟩=>?_)))
   subst hr
   refine wpAny_bind (thn h6 fun _ s7 ⟨xv,H7,Z7,r7,yl,st7,fr7⟩=>?_)
   have Z7':=Z7.pinned (fpY fr7) (T.obj _ _ st7)
   have hst:=hg' _ s7 _ H7 xv u _ Z7' r7 (step xv H7 yl w' hw')
   rw [y1,y2,y5,xeY] at hst
   refine wpAny_bind (thn hst fun _ s8 ⟨σ8,H8,Z8,pre,hpre,e8,q8⟩=>?_)
   subst e8
   have hte:=ht' _ s8 _ H8 _ Z8 q8
   rw [y1,y2,y5,xeY] at hte
   have fin:∀ {m':Nat} {ys':List V} {H9:Hp} {s9:Shared},Inv Y ([] ++ zG fp s7.heap) (pre ++ σ) H9 s9->m' < n->W (i + 1) m' ys' H9->∃ m,m < n/\∃ i ys Hc,∃ w':L2.St,w'.length = xs.length/\Inv Y [] (w' ++ σ) Hc s9/\tn i s9.heap/\(∀ b ∈ fp,Hc b = none)/\W i m ys Hc:=fun {m' ys' H9 s9} Z9 hm' w9 =>
    ⟨m',hm',i + 1,ys',H9,pre,hpre,Z9.unpinned,T.keep _ _ _ st7 fun b hb o e=>(Z9.pin (b,o) (aO _ (aO _ (mG hb e)))).1,fun b hb=>by
     obtain ⟨o,e,_⟩:=T.obj _ _ st7 b hb
     exact (Z9.pin (b,o) (aO _ (aO _ (mG hb e)))).2.1,w9⟩
   refine wpAny_bind (thn hte fun ok s9 ⟨H9,Z9,q9⟩=>?_)
   cases ok with
   | false =>
    obtain ⟨m',hm',w9⟩:=q9
    exact wpAny_pure ⟨rfl,fin Z9 hm' w9⟩
   | true =>
    have hel:=he' _ s9 _ H9 _ Z9 q9
    rw [y1,y2,y5,xeY] at hel
    refine wpAny_bind (wpAny_bind (thn hel fun ev s10 ⟨yv,H10,Z10,r10,hz,hD10,m',hm',w10⟩=>?_))
    have hap:=CN (X:=Y) _ s10 _ H10 (.ref s2.heap.objs.size) [yv] (.ref s2.heap.objs.size) [ev] (fun _ Hf=>Hf = upd H10 s2.heap.objs.size (.lst (ys ++ [yv]))) Z10 rfl (.cons r10 .nil) ⟨_,ys,yv,rfl,rfl,hD10,hz,rfl⟩
    rw [y1,y2,y5,xeY] at hap
    refine wpAny_bind (thn hap fun av s11 ⟨_,H11,Z11,_,e11⟩=>?_)
    subst e11
    exact wpAny_pure (wpAny_pure ⟨rfl,fin Z11 hm' w10⟩)
 have henv:Y.env = compEnvC scope (wH X.env.cells scope.names []) s3.heap.objs.size X.env:=by subst hX; rfl
 rw [henv] at loop
 exact codeAny_compStart_list (loop _ rfl) (T.self _ 0 _ _ _ (T.keep _ _ _ st3 fun b _ o e=>kg b o e) (loop _ rfl))
theorem Uq {xs N':List Str} {tg:Expr} {ifs:List Expr} {gt:TG} {tc:TT} (hc:X.calm = true) (hsh:CT xs X.N = N') (hN:(xs ++ N').Nodup) (hkind:scope.kind = .function) (hcell:∀ y ∈ scope.names,y.2 ≠ .cell) (hnames:∀ y ∈ scope.names,y.2 = .local->scope.names.lookup y.1 = some .local)
  (hfree:∀ y ∈ scope.names,y.2 = .free->X.env.kindOf y.1 = some .cell\/X.env.kindOf y.1 = some .free) (hloc:∀ y ∈ X.N,y ∉ xs->(relabel scope X.env).names.lookup y ≠ some .local) (hq:∀ y ∈ X.N,y ∈ xs->(relabel scope X.env).names.lookup (hid y) = none) (hi:PI X tg iter wi)
  (hg:∀ C s₀ H₀ ex pn,PG (X.compG N' scope xs C s₀ H₀ ex pn) tg gt) (ht:∀ C s₀ H₀ ex pn,PTs (X.compG N' scope xs C s₀ H₀ ex pn) ifs tc) (he:∀ C s₀ H₀ ex pn,PE (X.compG N' scope xs C s₀ H₀ ex pn) elt te) (hs:∀ z,foldedSetIterable iter X.env z = pure z:=by intro _; rfl) :
  PE X (.ListComp elt [⟨tg,iter,ifs,0⟩] scope pos) (jz wi xs.length gt tc te):=by
 intro pins s σ H Q I h
 rw [eval_ListComp]
 exact yU hc hsh hN hkind hcell hnames hfree hloc hq hi hg ht he hs I h fun C D Hc s6 m fl hn I6 fC q=>⟨m,hn,fun h' hs'=>⟨.ref D,Hc,I6.turned (it:=C) (h':=h') (t':=s6.toks) (fun b o hb e=>(hs'.2 b hb).trans e) fC.1 fC.2.1 fC.2.2.2.1 fC.2.2.2.2.1 fC.2.2.2.2.2,rfl,q⟩⟩
end
end L2
namespace L2
open PySem PySem.Spec PyProof.Rows
section
variable {X:Cx} {k:Nat} {f C:Addr} {fd:FuncData} {ps:List Str} {sp:Sp} {dvs:List V} {ds:List Value} {x m:Str} {p pos apos:Pos} {e o:Expr} {es:List Expr} {ta:TE} {t:TA} {Ex:Value->Option Addr->L2.St->Hp->Prop}
noncomputable def aad (C:Addr) (sp:Sp) (dvs:List V) (Ex:Value->Option Addr->L2.St->Hp->Prop) (t:TA):TE:=fun σ H Q=>t σ H fun vs H1=>∀ x dx,H1 x = none->H1 dx = none->dx ≠ x->sp (.ref x :: (vs ++ dvs)) (upd (upd H1 dx (.own x)) x (.ins C dx [])) (fun v H2=>v = .non/\Q (.ref x) H2) fun C d H'=>Ex C d σ H'
theorem Mq {pins:List (Addr × Obj)} {σ:St} {H:Hp} {s:Shared} {Q:VK} {us:List Value} {vs:List V} (F:cj X.prog X.w X.K X.mg X.base (CXO X.prog X.w) k f fd ps sp) (hr:fW k X.A) (hb:Binds X.K fd ps ds) (hd:Vals dvs ds) (hx:zN X Ex)
  (I:Inv X pins σ H s) (r:Vals vs us) (h:sp (vs ++ dvs) H Q fun C d H'=>Ex C d σ H'):wpAny (model X.prog X.w) X.A (call (.ref f) us) (EP X pins σ Q) X.xe s:=by
 have r2:Vals (vs ++ dvs) (us ++ ds):=r.append hd
 have hl:(us ++ ds).length = ps.length:=by rw [<- r2.length]; exact F.len _ _ _ _ h
 refine wpAny_call (codeAny_mono (F.run X.A X.stack s H ⟨us,[]⟩ (us ++ ds) (vs ++ dvs) Q _ hr I.env0 (hb s us I.kIn hl) r2 h) fun r s' hq=>?_)
 cases r with
 | error e =>
  obtain ⟨a,C,d,H',B,rfl,Fl,q'⟩:=hq
  exact hx pins σ H s a C H' s' B d I Fl q'
 | ok fl =>
  cases fl with
  | ret u=>exact I.after hq
  | next=>exact False.elim hq
  | brk=>exact False.elim hq
  | cont=>exact False.elim hq
theorem Qn {pins:List (Addr × Obj)} {σ:St} {H:Hp} {s:Shared} {Q:VK} {us:List Value} {vs:List V} (M:Mk X.K C f) (F:cj X.prog X.w X.K X.mg X.base (CXO X.prog X.w) k f fd ps sp) (hr:fW (k + 1) X.A) (hb:Binds X.K fd ps ds) (hd:Vals dvs ds)
  (hx:zN X Ex) (I:Inv X pins σ H s) (r:Vals vs us)
  (h:∀ x dx,H x = none->H dx = none->dx ≠ x->sp (.ref x :: (vs ++ dvs)) (upd (upd H dx (.own x)) x (.ins C dx [])) (fun v H2=>v = .non/\Q (.ref x) H2) fun C d H'=>Ex C d σ H') :
  wpAny (model X.prog X.w) X.A (call (.ref C) us) (EP X pins σ Q) X.xe s:=by
 have hq:=h (s.heap.objs.size + 1) s.heap.objs.size (I.hok.fresh (Nat.le_succ _)) (I.hok.fresh (aD _)) (aP (Nat.lt_succ_self _))
 have I2:=Inv.made (C:=C) I
 have r2:Vals (V.ref (s.heap.objs.size + 1) :: (vs ++ dvs)) (Value.ref (s.heap.objs.size + 1) :: (us ++ ds)):=.cons rfl (r.append hd)
 have hl:(Value.ref (s.heap.objs.size + 1) :: us ++ ds).length = ps.length:=by
  have e:=r2.length
  rw [F.len _ _ _ _ hq] at e
  exact e.symm
 refine wpAny_call (UW (f:=f) I.kIn M.makes M.init (beq_iff_eq.mp M.fn) (codeAny_mono (F.run _ X.stack _ _ ⟨Value.ref (s.heap.objs.size + 1) :: us,[]⟩ (Value.ref (s.heap.objs.size + 1) :: (us ++ ds)) _ _ _ (hr.make C us [])
  (I2.env0.make C us []) (hb _ (Value.ref (s.heap.objs.size + 1) :: us) I2.kIn hl) r2 hq) fun r s' hq'=>?_))
 cases r with
 | error e =>
  obtain ⟨a,C,d,H',B,rfl,Fl,q'⟩:=hq'
  exact hx pins σ _ _ a C H' s' B d I2 Fl q'
 | ok fl =>
  cases fl with
  | ret u =>
   obtain ⟨v,H',I3,rv,ev,q3⟩:=I2.after hq'
   subst ev
   exact ⟨rv,⟨V.ref (s.heap.objs.size + 1),H',I3,rfl,q3⟩⟩
  | next=>exact False.elim hq'
  | brk=>exact False.elim hq'
  | cont=>exact False.elim hq'
theorem RZ (M:Mk X.K C f) (F:cj X.prog X.w X.K X.mg X.base (CXO X.prog X.w) k f fd ps sp) (hr:fW (k + 1) X.A) (hg:Gl X x) (hm:X.mg x = some (.ref C)) (hb:Binds X.K fd ps ds) (hd:Vals dvs ds) (hx:zN X Ex)
  (ha:PA X (e :: es) t) (hdb:(x == ("__debug__" : Str)) = false:=by decide) (he:starEach (e :: es) X.env = (false,eval e X.env) :: starEach es X.env:=by rfl) (hpl:(backTo pos (starEach es X.env)).any (·.1) = false:=by rfl) :
  PE X (.Call (.Name x p) (e :: es) [] pos) (aad C sp dvs Ex t):=by
 intro pins s σ H Q I h
 refine wpAny_Call_Name_kw (lU I hg hm ?_ hdb)
 refine PySem.W.callWith_K (h₀:=X.base) I.ok.mod.kin M.kp (thn (ha pos pins s σ H _ I h) fun us s1 ⟨vs,H1,I1,r,q⟩=>⟨I1.kIn,?_⟩) he hpl
 exact Qn M F hr hb hd hx I1 r q
end
end L2
namespace L2
open PySem PySem.Spec PyProof.Rows
structure jH (K:Frag) (B:Addr) (m:Str) (f:Addr):Prop where
 ga:PySem.W.specialIn K (.ref B) "__getattribute__" = some (some (.builtin "type.__getattribute__"))
 rd:PySem.W.readsIn K B (.type "type") = true
 at_:PySem.W.findCls K (.ref B) (.type "type") m = some (.val (.ref f))
 hd:PySem.W.handedIn (.ref f) = true
 kp:PySem.W.keepIn K (.ref f) = true
section
variable {X:Cx} {k:Nat} {f B:Addr} {fd:FuncData} {ps:List Str} {sp:Sp} {dvs:List V} {ds:List Value} {x m:Str} {p pos apos:Pos} {e:Expr} {es:List Expr} {t:TA} {Ex:Value->Option Addr->L2.St->Hp->Prop}
theorem jH.get {pins:List (Addr × Obj)} {σ:L2.St} {H:Hp} {s:Shared} {pl:Sem Bool} {A:Around} {E:Value->Shared->Prop} {Q:Value × List Value->Shared->Prop} (c:jH X.K B m f) (I:Inv X pins σ H s) (h:∀ t,Q (.ref f,[]) { s with toks:=t }) :
  wpAny (model X.prog X.w) A (getMethod (.ref B) m pl) Q E s :=
 PySem.W.method_cls I.kIn c.ga (PySem.W.cls_value I.kIn c.rd c.at_ c.hd (h _))
theorem Vc {pl:Sem Bool} (c:jH X.K B m f) (F:cj X.prog X.w X.K X.mg X.base (CXO X.prog X.w) k f fd ps sp) (hr:fW k X.A) (hg:Gl X x) (hm:X.mg x = some (.ref B)) (hb:Binds X.K fd ps []) (hx:zN X Ex) (ha:PA X (e :: es) t) (hdb:(x == ("__debug__" : Str)) = false:=by decide)
  (hst:starEach (e :: es) X.env = (false,eval e X.env) :: starEach es X.env:=by rfl) (hpl:(backTo pos (starEach es X.env)).any (·.1) = false:=by rfl)
  (ht:eval (.Call (.Attribute (.Name x p) m apos) (e :: es) [] pos) X.env = (do
   let ov <- eval (.Name x p) X.env
   standAt apos.atName
   let (f,first) <- holding [ov] (getMethod ov m pl)
   callWith pos f first (backTo pos (starEach (e :: es) X.env)) (backToKw pos (keywordEach [] X.env))):=by rfl) :
  PE X (.Call (.Attribute (.Name x p) m apos) (e :: es) [] pos) (xG sp Ex t):=by
 intro pins s σ H Q I h
 refine PySem.W.methodCall_KW (pl:=pl) (lU I hg hm (c.get I fun tk=>?_) hdb) ht
 refine PySem.W.callWith_K (first:=[]) (h₀:=X.base) I.ok.mod.kin c.kp (thn (ha pos pins _ σ H _ (I.tok tk) h) fun us s2 ⟨vs,H2,I2,r,q2⟩=>⟨I2.kIn,?_⟩) hst hpl
 exact Mq (us:=us) (vs:=vs) F hr hb .nil hx I2 r (by rw [List.append_nil]; exact q2)
end
end L2
namespace L2
open PySem PySem.Spec PyProof.Rows
section
variable {κ:Type} [DecidableEq κ]
noncomputable def mV (kvs:List (κ × V)) (k:κ):Option V:=(kvs.find? fun kv=>decide (kv.1 = k)).map (·.2)
noncomputable def putK (kvs:List (κ × V)) (k:κ) (v:V):List (κ × V) :=
 if (kvs.any fun kv=>decide (kv.1 = k)) = true then kvs.map (fun kv=>if kv.1 = k then (kv.1,v) else kv) else kvs ++ [(k,v)]
theorem zp {p:κ × V} {r:List (κ × V)} {k:κ} (e:p.1 = k):mV (p :: r) k = some p.2:=by simp [mV,List.find?_cons,e]
theorem Ad {p:κ × V} {r:List (κ × V)} {k:κ} (e:¬ p.1 = k):mV (p :: r) k = mV r k:=by simp [mV,List.find?_cons,e]
theorem JM (kvs:List (κ × V)) (k:κ) (v:V):(putK kvs k v).length <= kvs.length + 1:=by
 unfold putK
 split
 .rw [ak]; omega
 .rw [au,List.length_cons,List.length_nil]; omega
theorem qU.isSome_eq {o:Option V} {u:Option Value} (r:qU o u):o.isSome = u.isSome:=by
 cases o with
 | none=>cases u with
  | none=>rfl
  | some _=>exact (show False from r).elim
 | some _=>cases u with
  | none=>exact (show False from r).elim
  | some _=>rfl
theorem qU.getD {o:Option V} {u:Option Value} {d:V} {d':Value} (r:qU o u) (rd:RelV d d'):RelV (o.getD d) (u.getD d'):=by
 cases o with
 | none=>cases u with
  | none=>exact rd
  | some _=>exact (show False from r).elim
 | some _=>cases u with
  | none=>exact (show False from r).elim
  | some _=>exact r
theorem KV.val {kvs:List (κ × V)} {vs:List (κ × Value)} (r:KV kvs vs) (k:κ):qU (mV kvs k) (valueAt vs k):=by
 unfold KV at r
 induction r with
 | nil=>exact True.intro
 | @cons p q ps qs h t ih =>
  obtain ⟨h1,h2⟩:=h
  by_cases e:p.1 = k
  .have e':q.1 = k:=h1.symm.trans e
   have b:valueAt (q :: qs) k = some q.2:=by simp [valueAt,List.find?_cons,e']
   rw [zp e,b]; exact h2
  .have e':¬ q.1 = k:=fun z=>e (h1.trans z)
   have b:valueAt (q :: qs) k = valueAt qs k:=by simp [valueAt,List.find?_cons,e']
   rw [Ad e,b]; exact ih
theorem KV.any {kvs:List (κ × V)} {vs:List (κ × Value)} (r:KV kvs vs) (k:κ):(kvs.any fun kv=>decide (kv.1 = k)) = vs.any fun kv=>decide (kv.1 = k):=by
 unfold KV at r
 induction r with
 | nil=>rfl
 | cons h t ih=>rw [List.any_cons,List.any_cons,ih,h.1]
theorem KV.repl {kvs:List (κ × V)} {vs:List (κ × Value)} (r:KV kvs vs) (k:κ) {y:V} {u:Value} (ry:RelV y u) :
  KV (kvs.map fun kv=>if kv.1 = k then (kv.1,y) else kv) (vs.map fun kv=>if kv.1 = k then (kv.1,u) else kv):=by
 unfold KV at r ⊢
 induction r with
 | nil=>exact .nil
 | @cons p q ps qs h t ih =>
  rw [List.map_cons,List.map_cons]
  refine .cons ?_ ih
  obtain ⟨h1,h2⟩:=h
  by_cases e:p.1 = k
  .rw [if_pos e,if_pos (h1.symm.trans e)]; exact ⟨h1,ry⟩
  .rw [if_neg e,if_neg (fun z=>e (h1.trans z))]; exact ⟨h1,h2⟩
theorem KV.put {kvs:List (κ × V)} {vs:List (κ × Value)} (r:KV kvs vs) (k:κ) {y:V} {u:Value} (ry:RelV y u):KV (putK kvs k y) (stored vs k u):=by
 unfold putK stored
 rw [r.any k]
 by_cases e:(vs.any fun kv=>decide (kv.1 = k)) = true
 .rw [if_pos e,if_pos e]; exact r.repl k ry
 .rw [if_neg e,if_neg e]; exact Paired.snoc r ⟨rfl,ry⟩
theorem KV.length {kvs:List (κ × V)} {vs:List (κ × Value)} (r:KV kvs vs):kvs.length = vs.length:=Paired.length r
end
theorem HW {P:Program} {w:World} {k:Key} {u:Value} (r:RelV (kV k) u):(iY P w).is k u = true:=by
 cases k with
 | inl i=>obtain ⟨t,e⟩:=(show ∃ t,u = Value.int i t from r); subst e; exact Ii P w i t
 | inr x=>obtain ⟨t,e⟩:=(show ∃ t,u = Value.str x t from r); subst e; exact JG P w x t
section
variable {P:Program} {w:World} {H:Hp} {h:Heap} {a:Addr}
theorem ab8 {u:HO} (ok:HOk P w H h) (e:Rd H a u):cZ P w H h a u:=e.ok ok
theorem zu {kvs:List (Key × V)} (ok:HOk P w H h) (e:Rd H a (.dK kvs)):kvs.length <= sizeLine/\(a == sysModules) = false/\∃ vs,KV kvs vs/\h.DictOf (iY P w) a vs :=
 show cZ P w H h a (.dK kvs) from ab8 ok e
theorem aaY {kvs:List (Key × V)} (ok:HOk P w H h) (e:H a = some (.dK kvs)):kvs.length <= sizeLine/\(a == sysModules) = false/\∃ vs,KV kvs vs/\h.DictOf (iY P w) a vs:=zu ok (.inl e)
end
noncomputable def qm (H:Hp) (a:Addr) (y:V) (r:Option V):Prop :=
 (∃ kvs k,Rd H a (.dK kvs)/\y = kV k/\r = mV kvs k)\/False
noncomputable def Kg (H:Hp) (a:Addr) (y v:V) (H':Hp):Prop :=
 (∃ kvs k,H a = some (.dK kvs)/\y = kV k/\kvs.length < sizeLine/\H' = upd H a (.dK (putK kvs k v)))\/False
theorem qm.k {H:Hp} {a:Addr} {kvs:List (Key × V)} {k:Key} (e:H a = some (.dK kvs)):qm H a (kV k) (mV kvs k):=.inl ⟨kvs,k,.inl e,rfl,rfl⟩
theorem Kg.k {H:Hp} {a:Addr} {kvs:List (Key × V)} {k:Key} {v:V} (e:H a = some (.dK kvs)) (hl:kvs.length < sizeLine):Kg H a (kV k) v (upd H a (.dK (putK kvs k v))):=.inl ⟨kvs,k,e,rfl,hl,rfl⟩
section
variable {X:Cx} {pins:List (Addr × Obj)} {σ:St} {H:Hp} {s:Shared} {a:Addr} {y v:V} {u r:Value} {o:Option V} {A:Around} {E:Value->Shared->Prop}
theorem Inv.big (I:Inv X pins σ H s):sysModules < s.heap.objs.size:=by
 have h:mainGlobals < s.heap.objs.size:=(I.mod.glob.keeps I.bk).lt
 exact Nat.lt_trans (by decide) h
theorem Ph {Q:Value->Shared->Prop} (hu:A.units + 1 < cLine) (I:Inv X pins σ H s) (g:qm H a y (some v)) (ry:RelV y u) (h:∀ w' s',Inv X pins σ H s'->RelV v w'->Q w' s') :
  wpAny (model X.prog X.w) A (getItem (.ref a) u) Q E s:=by
 rcases g with ⟨kvs,k,e,ey,l⟩ | hF
 .subst ey
  obtain ⟨z,hd,vs,rel,dd⟩:=zu I.hok e
  obtain ⟨w',hw,rw'⟩:=qU.some_of (v:=v) (o:=valueAt vs k) (by rw [l]; exact rel.val k)
  exact wpAny_getItem_of (HW ry) dd.mapOf hw (h w' _ (I.tok _) rw')
 .exact hF.elim
theorem aeI {Q:Value->Shared->Prop} (hu:A.units + 1 < cLine) (I:Inv X pins σ H s) (g:qm H a y o) (ry:RelV y u) (h:∀ s',Inv X pins σ H s'->Q (.bool o.isSome) s') :
  wpAny (model X.prog X.w) A (compareOp .In u (.ref a)) Q E s:=by
 rcases g with ⟨kvs,k,e,ey,l⟩ | hF
 .subst ey
  obtain ⟨z,hd,vs,rel,dd⟩:=zu I.hok e
  refine wpAny_in_of (HW ry) hd dd.mapOf ?_
  rw [<- (rel.val k).isSome_eq,<- l]
  exact h _ (I.tok _)
 .exact hF.elim
theorem XJ {Q:Value->Shared->Prop} (hu:A.units + 1 < cLine) (I:Inv X pins σ H s) (g:qm H a y o) (ry:RelV y u) (h:∀ s',Inv X pins σ H s'->Q (.bool (!o.isSome)) s') :
  wpAny (model X.prog X.w) A (compareOp .NotIn u (.ref a)) Q E s:=by
 rcases g with ⟨kvs,k,e,ey,l⟩ | hF
 .subst ey
  obtain ⟨z,hd,vs,rel,dd⟩:=zu I.hok e
  refine wpAny_notIn_of (HW ry) hd dd.mapOf ?_
  rw [<- (rel.val k).isSome_eq,<- l]
  exact h _ (I.tok _)
 .exact hF.elim
theorem Yj {h':Heap} {t':Nat} {ob:HO} (I:Inv X pins σ H s) (mu:Mut (H a)) (hs:Heap.SameBut a s.heap h') (he:∃ q,h'.get? a = some q) (new:cZ X.prog X.w (upd H a ob) h' a ob) :
  Inv X pins σ (upd H a ob) { s with heap:=h',toks:=t' } :=
 I.write (x:=a) (e:=a) mu (.inl rfl) (fun b q hb z=>(hs.2 b hb).trans z) he new
theorem Zb {P:Program} {w:World} {H':Hp} {h':Heap} {kvs:List (Key × V)} {vs:List (Key × Value)} (z:kvs.length <= sizeLine) (hd:(a == sysModules) = false) (rel:KV kvs vs) (dd:h'.DictOf (iY P w) a vs) :
  cZ P w H' h' a (.dK kvs):=⟨z,hd,vs,rel,dd⟩
theorem Pn {H':Hp} {Q:Unit->Shared->Prop} (hu:A.units + 1 < cLine) (I:Inv X pins σ H s) (g:Kg H a y v H') (ry:RelV y u) (rv:RelV v r) (h:∀ s',Inv X pins σ H' s'->Q () s') :
  wpAny (model X.prog X.w) A (setItem (.ref a) u r) Q E s:=by
 rcases g with ⟨kvs,k,e,ey,l,eH⟩ | hF
 .subst ey eH
  obtain ⟨z,hd,vs,rel,dd⟩:=aaY I.hok e
  have hz:vs.length <= sizeLine:=by rw [<- rel.length]; exact z
  have hl:(putK kvs k v).length <= sizeLine:=by have:=JM kvs k v; omega
  refine wpAny_setItem_pairs (hsz:=hz) (HW ry) dd fun h' dd' hs=>h _ ?_
  have he:∃ q,h'.get? a = some q:=let ⟨q,_,_,hq,_⟩:=dd'; ⟨q,hq⟩
  exact Yj I (by rw [e]; exact True.intro) hs he (Zb hl hd (rel.put k rv) dd')
 .exact hF.elim
end
section
variable {X:Cx} {pins:List (Addr × Obj)} {σ:St} {H:Hp} {s:Shared} {a:Addr} {kvs:List (Key × V)} {k:Key} {u:Value} {A:Around} {E:Value->Shared->Prop}
end
noncomputable def abQ (i:Expr):Prop:=∀ ov iv,subscripted i false ov iv = operate [ov,iv] (getItem ov iv)
theorem Yc {prog:Program} {w:World} {A:Around} {E:Value->Shared->Prop} {s:Shared} {env:Env} {value slice:Expr} {pos:Pos} {T id:String} {Q:Value->Shared->Prop}
  (hl:typeLookup (.type T) "__getitem__" = pure (some (.builtin id))) (hs:abQ slice)
  (h:wpAny (model prog w) A (eval value env) (fun o s₁=>wpAny (model prog w) A (eval slice env) (fun i s₂=>s₂.TypeIs o T/\wpAny (model prog w) A (getItem o i) Q E s₂) E s₁) E s) :
  wpAny (model prog w) A (eval (.Subscript value slice pos) env) Q E s:=by
 refine Subscript_ (wpAny_mono h (fun o s₁ h₁=>wpAny_mono h₁ (fun i s₂ h₂=>?_) fun _ _ x=>x) fun _ _ x=>x)
 obtain ⟨hT,h₂⟩:=h₂
 unfold subscriptTail
 refine wpAny_bind ?_
 rw [getitemInPython_of_ne hT.not_modules]
 refine wpAny_bind (wpAny_specialOf hT hl ?_)
 have fin:wpAny (model prog w) A (subscripted slice false o i) (fun r s₃=>wpAny (model prog w) A (letTemporaryGo value o r >>= fun _=>pure r) Q E s₃) E s₂:=by
  rw [hs o i]
  exact wpAny_operating (wpAny_mono h₂ (fun r s₃ h₃=>wpAny_bind (wpAny_letTemporaryGo (wpAny_pure h₃))) fun _ _ x=>x)
 first
  | exact wpAny_pure (wpAny_bind fin)
  | exact wpAny_bind (wpAny_pure (wpAny_bind fin))
  | exact wpAny_bind fin
theorem Ia {X:Cx} {pins:List (Addr × Obj)} {σ:St} {H:Hp} {s:Shared} {a:Addr} {y:V} {o:Option V} (I:Inv X pins σ H s) (g:qm H a y o):s.TypeIs (.ref a) "dict" := by
 rcases g with ⟨kvs,k,e,_,_⟩ | hF
 .obtain ⟨_,_,vs,_,dd⟩:=zu I.hok e
  exact dd.typeIs
 .exact hF.elim
noncomputable def Nq (td ty:TE):TE:=fun σ H Q=>td σ H fun x H1=>ty σ H1 fun y H2=>∃ a v,x = .ref a/\qm H2 a y (some v)/\Q v H2
noncomputable def Ym (ty td:TE):TE:=fun σ H Q=>ty σ H fun y H1=>td σ H1 fun x H2=>∃ a o,x = .ref a/\qm H2 a y o/\Q (.bl o.isSome) H2
noncomputable def yM (ty td:TE):TE:=fun σ H Q=>ty σ H fun y H1=>td σ H1 fun x H2=>∃ a o,x = .ref a/\qm H2 a y o/\Q (.bl (!o.isSome)) H2
noncomputable def Nf (td ty tv:TE):TS:=fun D σ H=>tv σ H fun v H1=>td σ H1 fun x H2=>ty σ H2 fun y H3=>∃ a H4,x = .ref a/\Kg H3 a y v H4/\D.nx σ H4
section
variable {X:Cx} {o i e value:Expr} {pos pos' tpos:Pos} {td ty tv:TE}
theorem Fe (hu:X.A.units + 1 < cLine) (ho:PE X o td) (hi:PE X i ty) (hs:abQ i):PE X (.Subscript o i pos) (Nq td ty):=by
 intro pins s σ H Q I h
 refine Yc PySem.F.slot_dict_getitem.lookup hs (thn (ho pins s σ H _ I h) fun u s1 ⟨x,H1,I1,rx,q1⟩=>thn (hi pins s1 σ H1 _ I1 q1) fun iv s2 ⟨y,H2,I2,ry,a,v,ex,g,q2⟩=>?_)
 subst ex
 obtain rfl:u = Value.ref a:=rx
 exact ⟨Ia I2 g,Ph hu I2 g ry fun w' s3 I3 rw'=>⟨v,H2,I3,rw',q2⟩⟩
theorem Tn (hu:X.A.units + 1 < cLine) (hi:PE X i ty) (ho:PE X o td):PC X .In i o (Ym ty td):=by
 intro pins s σ H Q I h
 refine thn (hi pins s σ H _ I h) fun iv s1 ⟨y,H1,I1,ry,q1⟩=>thn (ho pins s1 σ H1 _ I1 q1) fun u s2 ⟨x,H2,I2,rx,a,ov,ex,g,q2⟩=>?_
 subst ex
 obtain rfl:u = Value.ref a:=rx
 exact aeI hu I2 g ry fun s3 I3=>⟨.bl ov.isSome,H2,I3,rfl,q2⟩
theorem Ow (hu:X.A.units + 1 < cLine) (hi:PE X i ty) (ho:PE X o td):PC X .NotIn i o (yM ty td):=by
 intro pins s σ H Q I h
 refine thn (hi pins s σ H _ I h) fun iv s1 ⟨y,H1,I1,ry,q1⟩=>thn (ho pins s1 σ H1 _ I1 q1) fun u s2 ⟨x,H2,I2,rx,a,ov,ex,g,q2⟩=>?_
 subst ex
 obtain rfl:u = Value.ref a:=rx
 exact XJ hu I2 g ry fun s3 I3=>⟨.bl (!ov.isSome),H2,I3,rfl,q2⟩
theorem E_ (hu:X.A.units + 1 < cLine) (ho:PE X o td) (hi:PE X i ty) (hv:PE X value tv) (hs:swapsWith value (some (.Subscript o i pos')) pos.line X.env = pure false) :
  PS X (.Assign [.Subscript o i pos'] value pos) (Nf td ty tv):=by
 intro pins s σ H D I h
 refine wpAny_Assign_Subscript (thn (hv pins s σ H _ I h) fun r s1 ⟨v,H1,I1,rv,q1⟩=>thn (ho pins s1 σ H1 _ I1 q1) fun u s2 ⟨x,H2,I2,rx,q2⟩=>thn (hi pins s2 σ H2 _ I2 q2) fun iv s3 ⟨y,H3,I3,ry,a,H4,ex,g,q3⟩=>?_) hs
 subst ex
 obtain rfl:u = Value.ref a:=rx
 exact Pn hu I3 g ry rv fun s4 I4=>⟨σ,H4,I4,q3⟩
end
theorem Ut {P:Program} {w:World} {H:Hp} (h:Heap) (hb:sysModules < h.objs.size):cZ P w H (h.push { cls:=.type "dict",data:=.dict #[] }) h.objs.size (.dK []) :=
 ⟨aZ _,beq_eq_false_iff_ne.mpr (Ne.symm (aP hb)),[],.nil,Heap.DictOf.new h⟩
noncomputable def G4:TE:=fun _ H Q=>∀ p,H p = none->Q (.ref p) (upd H p (.dK []))
section
variable {X:Cx} {pos:Pos}
theorem zq:PE X (.Dict [] [] pos) G4:=fun pins s σ H Q I h =>
 wpAny_Dict_empty ⟨.ref s.heap.objs.size,_,I.laid (a:=s.heap.objs.size) (o:=.dK []) (t':=s.toks) (fun _ _ q=>aF _ q) (aD _) (Ut s.heap I.big),rfl,h _ (I.hok.fresh (aD _))⟩
end
structure M2 (X:Cx) (o:Expr) (m:Str) (apos:Pos) (e f:Expr) (cpos:Pos):Prop where
 base:attributeBase o m X.env (eval o X.env) = eval o X.env
 few:((backTo cpos (starEach [e,f] X.env)).all (fun x=>!x.1) && (backToKw cpos (keywordEach [] X.env)).all (fun x=>x.1.isSome)
  && decide (([e,f] : List Expr).length + ([] : List Keyword).length + (if ([] : List Keyword).isEmpty then 0 else 1) < 30)) = true
 line:(apos.endLine == cpos.line) = true
 trees:backTo cpos (starEach [e,f] X.env) = [(false,eval e X.env),(false,eval f X.env)]
noncomputable def IsD (H:Hp) (a:Addr):Prop:=(∃ kvs,Rd H a (.dK kvs))\/False
theorem aaj {X:Cx} {pins:List (Addr × Obj)} {σ:St} {H:Hp} {s:Shared} {a:Addr} (I:Inv X pins σ H s) (d:IsD H a) :
  s.TypeIs (.ref a) "dict" /\ (∀ b,Value.ref a = .ref b->∃ ob,s.heap.get? b = some ob/\ob.dict = none)/\(a == sysModules) = false:=by
 rcases d with ⟨kvs,e⟩ | hF
 .obtain ⟨_,hd,vs,_,dd⟩:=zu I.hok e
  refine ⟨dd.typeIs,fun b q=>?_,hd⟩
  cases q
  obtain ⟨ob,_,_,h1,h2,_⟩:=dd
  exact ⟨ob,h1,h2.2.1⟩
 .exact hF.elim
section
variable {X:Cx} {pins:List (Addr × Obj)} {σ:St} {H:Hp} {s:Shared} {a:Addr} {y d:V} {u r:Value} {o:Option V} {A:Around} {E:Value->Shared->Prop}
theorem Y4 {Q:Value->Shared->Prop} (hu:A.units + 1 < cLine) (I:Inv X pins σ H s) (g:qm H a y o) (ry:RelV y u) (rd:RelV d r) (h:∀ w' s',Inv X pins σ H s'->RelV (o.getD d) w'->Q w' s') :
  wpAny (model X.prog X.w) A (call (.builtin "dict.get") [.ref a,u,r]) Q E s:=by
 rcases g with ⟨kvs,k,e,ey,l⟩ | hF
 .subst ey
  obtain ⟨z,hd,vs,rel,dd⟩:=zu I.hok e
  refine call_meetsIn PySem.F.slot_dict_get dd.typeIs PySem.F.entry_dict_get (PySem.F.args_dict_get_3 _ _ _) (meets_dict_get_default (iY X.prog X.w) a (HW ry) hd r) ⟨_,dd.mapOf,h _ _ (I.tok _) ?_⟩
  rw [l]
  exact (rel.val k).getD rd
 .exact hF.elim
end
noncomputable def G9 (td ty tx:TE):TE:=fun σ H Q=>td σ H fun x H1=>∃ a,x = .ref a/\IsD H1 a/\ty σ H1 fun y H2=>tx σ H2 fun z H3=>∃ o,qm H3 a y o/\Q (o.getD z) H3
section
variable {X:Cx} {o e f:Expr} {apos cpos:Pos} {td ty tx:TE}
theorem Q9 (hu:X.A.units + 1 < cLine) (ho:PE X o td) (he:PE X e ty) (hf:PE X f tx) (m:M2 X o "get" apos e f cpos):PE X (.Call (.Attribute o "get" apos) [e,f] [] cpos) (G9 td ty tx):=by
 intro pins s σ H Q I h
 refine wpAny_Call_method m.base m.few m.line PySem.F.plainAttrs_dict PySem.F.slot_dict_get PySem.F.type_dict_get (thn (ho pins s σ H _ I h) fun u s1 ⟨x,H1,I1,rx,a,ex,d,q1⟩=>?_)
 subst ex
 obtain rfl:u = Value.ref a:=rx
 obtain ⟨t1,t2,_⟩:=aaj I1 d
 refine ⟨t1,t2,?_⟩
 rw [m.trees]
 refine Calls.callWith_builtin rfl (Calls.evalArgs_plain (Calls.spliced_cons (thn (he pins s1 σ H1 _ I1 q1) fun iv s2 ⟨y,H2,I2,ry,q2⟩ =>
  Calls.spliced_cons (thn (hf pins s2 σ H2 _ I2 q2) fun fv s3 ⟨z,H3,I3,rz,ov,g,q3⟩=>Calls.spliced_nil ?_))))
 exact Y4 hu I3 g ry rz fun w' s4 I4 rw'=>⟨_,H3,I4,rw',q3⟩
end
section
variable {X:Cx} {pins:List (Addr × Obj)} {σ:St} {H:Hp} {s:Shared} {a:Addr} {kvs:List (Key × V)} {A:Around} {E:Value->Shared->Prop}
end
section
variable {X:Cx} {pins:List (Addr × Obj)} {σ:St} {H:Hp} {s:Shared} {a:Addr} {y:V} {u:Value} {A:Around} {E:Value->Shared->Prop}
end
section
variable {κ:Type} [DecidableEq κ]
end
end L2
namespace L2
open PySem PySem.Spec PyProof.Rows
noncomputable def Itk (a:Addr) (o:Obj) (kvs:List (Key × V)):It:=⟨fun i H=>H a = some (.frz o (.dK kvs))/\i < kvs.length,fun i H v H'=>H' = H/\∃ k y,kvs[i]? = some (k,y)/\v = kV k,fun i H=>H a = some (.frz o (.dK kvs))/\i = kvs.length⟩
theorem acY {P:Program} {w:World} {k:Key} {u:Value} (h:(iY P w).is k u = true):RelV (kV k) u:=by
 have h:v7 k u = true:=h
 cases k with
 | inl i =>
  cases u <;> simp [v7,Value.isInt] at h
  .subst h; exact ⟨_,rfl⟩
 | inr x =>
  cases u <;> simp [v7,Value.isStrOf] at h
  .subst h; exact ⟨_,rfl⟩
theorem KV.at {κ:Type} {kvs:List (κ × V)} {vs:List (κ × Value)} (r:KV kvs vs):∀ {i:Nat} {k:κ} {y:V},kvs[i]? = some (k,y)->∃ u,vs[i]? = some (k,u)/\RelV y u:=by
 unfold KV at r
 induction r with
 | nil=>intro i k y h; cases h
 | @cons p q ps qs h t ih =>
  intro i k y e
  cases i with
  | zero =>
   rw [List.getElem?_cons_zero] at e
   cases e
   obtain ⟨q1,q2⟩:=q
   obtain ⟨h1,h2⟩:=h
   cases h1
   exact ⟨q2,rfl,h2⟩
  | succ i =>
   rw [List.getElem?_cons_succ] at e ⊢
   exact ih e
theorem O6 {P:Program} {w:World} {K:Frag} {tg:Expr} (it a:Addr) (o:Obj) (kvs:List (Key × V)) (vs:List (Key × Value)) (ep:Nat) (rel:KV kvs vs) (hD:∀ h:Heap,h.get? a = some o->h.DictAt (iY P w) a vs ep) :
  Turn P w K tg (Itk a o kvs) [it] it (fun i h=>h.IsKeyIter it a i vs.length ep) where
 mem:=by simp
 obj:=fun i h st b hb=>by
  have e:b = it:=by simpa using hb
  subst e
  obtain ⟨o,ho,_,hd⟩:=st
  exact ⟨o,ho,fun v z=>by rw [hd] at z; cases z⟩
 keep:=fun i h h' st k=>let ⟨o,ho,r⟩:=st; ⟨o,k it (by simp) o ho,r⟩
 item:=by
  intro X hP hw hK hc i pins s σ H E I hf st hg
  subst hP hw hK
  obtain ⟨hg,hlt⟩:=hg
  obtain ⟨ho,_⟩:=(show cZ X.prog X.w H s.heap a (.frz o (.dK kvs)) from I.hok a _ hg)
  obtain ⟨f0,f1,f2,f3,f4,f5⟩:=hf it (by simp)
  obtain ⟨⟨k,y⟩,hx⟩ : ∃ p,kvs[i]? = some p:=⟨kvs[i],by simp [hlt]⟩
  obtain ⟨u,hu,ru⟩:=rel.at hx
  refine wpAny_pyNext_dict_item st (hD _ ho) hu fun key h' hkey st' sb=>?_
  have I1:Inv X pins σ H { s with heap:=h' }:=I.turned (t':=s.toks) (fun b ob hb e=>(sb.2 b hb).trans e) f0 f1 f3 f4 f5
  obtain ⟨oi,e,c,d⟩:=id st'
  exact ⟨key,rfl,JB (s:={ s with heap:=h' }) e c d (by decide) ⟨kV k,H,I1,acY hkey,⟨rfl,k,y,hx,rfl⟩,st',fun b hb=>(hf b hb).1⟩⟩
 done:=by
  intro X hP hw hK hc i pins s σ H E I hf st hg
  subst hP hw hK
  obtain ⟨hg,rfl⟩:=hg
  obtain ⟨ho,_⟩:=(show cZ X.prog X.w H s.heap a (.frz o (.dK kvs)) from I.hok a _ hg)
  obtain ⟨f0,f1,f2,f3,f4,f5⟩:=hf it (by simp)
  have hl:=rel.length
  exact wpAny_pyNext_dict_end (I.ok.hd hc) st (hD _ ho) (by simp; omega) fun h' eb=>⟨rfl,I.turned (t':=s.toks) (fun b ob hb e=>eb b ob hb e) f0 f1 f3 f4 f5⟩
 self:=fun _ _ _ _ _ st h=>wpAny_pyIter_keyiter st h
section
variable {X:Cx} {tg:Expr}
noncomputable def Yy (te:TE):TI:=fun σ H R=>te σ H fun x H1=>∃ a kvs,x = .ref a/\H1 a = some (.dK kvs)/\∀ o,R (Itk a o kvs) (upd H1 a (.frz o (.dK kvs)))
theorem Xx {l:Expr} {tl:TE} (hl:PE X l tl):PI X tg l (Yy tl):=by
 intro pins s σ H R I h
 refine thn (hl pins s σ H _ I h) fun v s1 ⟨x,H1,I1,r1,a,kvs,ex,ha,q⟩=>?_
 subst ex
 cases r1
 have ok:=(show cZ X.prog X.w H1 s1.heap a (.dK kvs) from I1.hok a _ ha)
 obtain ⟨z,hd,vs,rel,o,es,ep,e,ex,ed,ek,epr,en⟩:=ok
 have hD:∀ h:Heap,h.get? a = some o->h.DictAt (iY X.prog X.w) a vs ep:=fun h e=>⟨o,es,e,ex,ed,ek,epr,en⟩
 have I2:Inv X pins σ (upd H1 a (.frz o (.dK kvs))) s1:=by
  have:=I1.write (x:=a) (e:=a) (o:=.frz o (.dK kvs)) (h':=s1.heap) (t':=s1.toks) (by rw [ha]; exact True.intro) (.inl rfl) (fun b u hb z=>z) ⟨o,e⟩ ⟨e,z,hd,vs,rel,o,es,ep,e,ex,ed,ek,epr,en⟩
  exact this
 refine wpAny_pyIter_dict hd (hD _ e) ?_
 refine ⟨s1.heap.objs.size,[s1.heap.objs.size],_,Itk a o kvs,_,rfl,I2.kept (t':=s1.toks) fun b ob z=>aF _ z,O6 _ a o kvs vs ep rel hD,⟨_,aW _ rfl,rfl,rfl⟩,fun b hb=>?_,q o⟩
 have e:b = s1.heap.objs.size:=by simpa using hb
 subst e
 exact I2.fpOk (aD _) (I2.hok.fresh (aD _))
noncomputable def tMG (g:TG):TG:=fun v σ H Q=>∃ R:L2.St->Hp->Prop,g v σ H R/\∀ σ' H',R σ' H'->Q σ' H'
noncomputable def tMT (t:TT):TT:=fun σ H Q=>∃ R:Bool->Hp->Prop,t σ H R/\∀ b H',R b H'->Q b H'
theorem PG.mono {e:Expr} {g:TG} (h:PG X e g):PG X e (tMG g):=fun pins s σ H v u Q I r ⟨R,h1,h2⟩=>thn (h pins s σ H v u R I r h1) fun _ s' ⟨σ',H',I',q⟩=>⟨σ',H',I',h2 σ' H' q⟩
theorem PTs.mono {ifs:List Expr} {t:TT} (h:PTs X ifs t):PTs X ifs (tMT t):=fun pins s σ H Q I ⟨R,h1,h2⟩=>thn (h pins s σ H R I h1) fun b s' ⟨H',I',q⟩=>⟨H',I',h2 b H' q⟩
noncomputable def xR (n:Nat) (gt:TG) (tc:TT) (te:TE) (x:V) (σ:L2.St) (H:Hp) (Y:VK) (No:Hp->Prop):Prop:=∀ pre:L2.St,pre.length = n->gt x (pre ++ σ) H fun σ2 H2=>∃ pre':L2.St,pre'.length = n/\σ2 = pre' ++ σ/\tc σ2 H2 fun b H3 =>
 match b with
 | true=>te σ2 H3 Y
 | false=>No H3
theorem xR.weak {n:Nat} {gt:TG} {tc:TT} {te:TE} {x:V} {σ:L2.St} {H:Hp} {Y Y':VK} {No No':Hp->Prop} (h:xR n gt tc te x σ H Y No) (h1:∀ y H',Y y H'->Y' y H') (h2:∀ H',No H'->No' H'):xR n (tMG gt) (tMT tc) (tM te) x σ H Y' No':=fun pre hp =>
 ⟨_,h pre hp,fun σ2 H2 ⟨pre',e1,e2,q⟩=>⟨pre',e1,e2,_,q,fun b H3 z=>match b,z with
  | true,z=>⟨_,z,h1⟩
  | false,z=>h2 H3 z⟩⟩
theorem m7 {K:Frag} {tl te:TE} {gt:TG} {tc:TT} {n:Nat} {σ:L2.St} {H:Hp} {Q:VK} (h:tl σ H fun x H1=>∃ a xs,x = .ref a/\H1 a = some (.lst xs)/\xs.length <= sizeLine/\∀ D,H1 D = none->∃ J:Nat->List V->Hp->Prop,J 0 [] (upd H1 D (.lst [])) /\
   (∀ k x ys Hc,xs[k]? = some x->J k ys Hc->ys.length <= k->Hc a = some (.lst xs)->xR n gt tc te x σ Hc (fun y H2=>H2 D = some (.lst ys)/\H2 a = some (.lst xs)/\J (k + 1) (ys ++ [y]) (upd H2 D (.lst (ys ++ [y])))) fun H2=>H2 a = some (.lst xs)/\J (k + 1) ys H2) /\
   ∀ ys Hc,J xs.length ys Hc->ys.length <= xs.length->Q (.ref D) Hc):jz (z8 K (tM tl)) n (tMG gt) (tMT tc) (tM te) σ H Q:=by
 refine ⟨_,h,?_⟩
 rintro x H1 ⟨a,xs,rfl,hx,hz,rest⟩
 refine ⟨a,rfl,⟨xs,.of hx⟩,fun D hD=>?_⟩
 obtain ⟨J,j0,step,fin⟩:=rest D hD
 have ne:a ≠ D:=bA hx hD
 refine ⟨fun k m ys Hc=>k <= xs.length/\m = xs.length - k/\ys.length <= k/\Hc a = some (.lst xs)/\J k ys Hc,⟨_,aZ _,rfl,aZ _,(bF ne).trans hx,j0⟩,?_⟩
 rintro k m ys Hc ⟨hk,rfl,hy,hx',j⟩
 by_cases e:k = xs.length
 .subst e
  exact .inl ⟨⟨xs,.of hx',aD _⟩,fin ys Hc j hy⟩
 .have hlt:k < xs.length:=by omega
  refine .inr ⟨⟨xs,_,.of hx',aj hlt⟩,?_⟩
  rintro x H'' ⟨rfl,y⟩
  refine (step k x ys H'' (y xs (.of hx')) j hy hx').weak ?_ ?_
  .rintro yv H2 ⟨z1,z2,z3⟩
   refine ⟨by omega,z1,xs.length - (k + 1),by omega,by omega,rfl,?_,?_,z3⟩
   .rw [au]; simp; omega
   .rw [bF ne]; exact z2
  .rintro H2 ⟨z2,z3⟩
   exact ⟨xs.length - (k + 1),by omega,by omega,rfl,by omega,z2,z3⟩
theorem Im {tl te:TE} {gt:TG} {tc:TT} {n:Nat} {σ:L2.St} {H:Hp} {Q:VK} (h:tl σ H fun x H1=>∃ a kvs,x = .ref a/\H1 a = some (.dK kvs)/\kvs.length <= sizeLine/\∀ o D,upd H1 a (.frz o (.dK kvs)) D = none->∃ J:Nat->List V->Hp->Prop,J 0 [] (upd (upd H1 a (.frz o (.dK kvs))) D (.lst [])) /\
   (∀ i k y ys Hc,kvs[i]? = some (k,y)->J i ys Hc->ys.length <= i->Hc a = some (.frz o (.dK kvs))->xR n gt tc te (kV k) σ Hc (fun y H2=>H2 D = some (.lst ys)/\H2 a = some (.frz o (.dK kvs))/\J (i + 1) (ys ++ [y]) (upd H2 D (.lst (ys ++ [y])))) fun H2=>H2 a = some (.frz o (.dK kvs))/\J (i + 1) ys H2) /\
   ∀ ys Hc,J kvs.length ys Hc->ys.length <= kvs.length->Q (.ref D) Hc):jz (Yy (tM tl)) n (tMG gt) (tMT tc) (tM te) σ H Q:=by
 refine ⟨_,h,?_⟩
 rintro x H1 ⟨a,kvs,rfl,hx,hz,rest⟩
 refine ⟨a,kvs,rfl,hx,fun o D hD=>?_⟩
 obtain ⟨J,j0,step,fin⟩:=rest o D hD
 have ne:a ≠ D:=bA bB hD
 refine ⟨fun k m ys Hc=>k <= kvs.length/\m = kvs.length - k/\ys.length <= k/\Hc a = some (.frz o (.dK kvs))/\J k ys Hc,⟨_,aZ _,rfl,aZ _,(bF ne).trans bB,j0⟩,?_⟩
 rintro k m ys Hc ⟨hk,rfl,hy,hx',j⟩
 by_cases e:k = kvs.length
 .subst e
  exact .inl ⟨⟨hx',rfl⟩,fin ys Hc j hy⟩
 .have hlt:k < kvs.length:=by omega
  refine .inr ⟨⟨hx',hlt⟩,?_⟩
  rintro x H'' ⟨rfl,kk,yy,hkk,rfl⟩
  refine (step k kk yy ys H'' hkk j hy hx').weak ?_ ?_
  .rintro yv H2 ⟨z1,z2,z3⟩
   refine ⟨by omega,z1,kvs.length - (k + 1),by omega,by omega,rfl,?_,?_,z3⟩
   .rw [au]; simp; omega
   .rw [bF ne]; exact z2
  .rintro H2 ⟨z2,z3⟩
   exact ⟨kvs.length - (k + 1),by omega,by omega,rfl,by omega,z2,z3⟩
end
end L2
namespace L2
open PySem PySem.Spec PyProof.Rows
theorem Same.tup {K:Frag} {H H':Hp} {a:Addr} {xs:List V} (e:Same H H') (h:SqT K H a xs):SqT K H' a xs:=by
 rcases h with (h | ⟨o,h⟩) | h
 .exact .inl (.inl (e _ _ h))
 .exact .inl (.inr ⟨o,e _ _ h⟩)
 .exact .inr h
theorem SqT.updO {K:Frag} {H:Hp} {a l:Addr} {xs:List V} {o u:HO} (h:SqT K H a xs) (hl:H l = some o) (h1:∀ ys,o ≠ .tup ys) (h2:∀ ob ys,o ≠ .frz ob (.tup ys)):SqT K (upd H l u) a xs:=by
 rcases h with (h | ⟨ob,h⟩) | h
 .exact .inl (.inl ((bF (eV h hl (fun z=>h1 xs z.symm))).trans h))
 .exact .inl (.inr ⟨ob,(bF (eV h hl (fun z=>h2 ob xs z.symm))).trans h⟩)
 .exact .inr h
mutual
inductive jK (K:Frag) (H:Hp):V->PyData->Prop
 | non:jK K H .non .none
 | bl (b:Bool):jK K H (.bl b) (.bool b)
 | int (i:Int):jK K H (.int i) (.int i)
 | str (x:Str):jK K H (.str x) (.str x)
 | lst {a:Addr} {xs:List V} {ds:List PyData} : H a = some (.lst xs)->cI K H xs ds->jK K H (.ref a) (.list ds)
 | tup {a:Addr} {xs:List V} {ds:List PyData} : SqT K H a xs->cI K H xs ds->jK K H (.ref a) (.tuple ds)
inductive cI (K:Frag) (H:Hp):List V->List PyData->Prop
 | nil:cI K H [] []
 | cons {x:V} {xs:List V} {d:PyData} {ds:List PyData} : jK K H x d->cI K H xs ds->cI K H (x :: xs) (d :: ds)
end
mutual
theorem jK.same {K:Frag} {H H':Hp} (S:Same H H'):∀ {x:V} {d:PyData},jK K H x d->jK K H' x d
 | _,_,.non=>.non
 | _,_,.bl b=>.bl b
 | _,_,.int i=>.int i
 | _,_,.str x=>.str x
 | _,_,.lst e h=>.lst (S _ _ e) (cI.same S h)
 | _,_,.tup e h=>.tup (S.tup e) (cI.same S h)
theorem cI.same {K:Frag} {H H':Hp} (S:Same H H'):∀ {xs:List V} {ds:List PyData},cI K H xs ds->cI K H' xs ds
 | _,_,.nil=>.nil
 | _,_,.cons h t=>.cons (jK.same S h) (cI.same S t)
end
theorem cI.ints (K:Frag) (H:Hp):∀ ns:List Int,cI K H (ns.map V.int) (ns.map PyData.int)
 | []=>.nil
 | n :: ns=>.cons (.int n) (cI.ints K H ns)
section
variable {X:Cx} {pins:List (Addr × Obj)} {σ:L2.St} {H:Hp} {s:Shared}
mutual
theorem Inv.readsK (I:Inv X pins σ H s):∀ {x:V} {d:PyData} {v:Value},jK X.K H x d->RelV x v->∃ as,Reads s.heap v d as
 | _,_,_,.non,r=>by cases r; exact ⟨_,.none⟩
 | _,_,_,.bl b,r=>by cases r; exact ⟨_,.bool b⟩
 | _,_,_,.int i,r=>by obtain ⟨t,rfl⟩:=r; exact ⟨_,.int i t⟩
 | _,_,_,.str x,r=>by obtain ⟨t,rfl⟩:=r; exact ⟨_,.str x t⟩
 | _,_,_,.lst e h,r=>by
  cases r
  obtain ⟨its,rv,⟨o,ho,hc,n,hd⟩⟩:=I.lstIs e
  obtain ⟨as,q⟩:=Inv.readsAllK I h rv
  exact ⟨_,.list ho hc hd q⟩
 | _,_,_,.tup e h,r=>by
  cases r
  obtain ⟨its,rv,⟨o,ho,hc,n,hd⟩,_⟩:=I.tuple e
  obtain ⟨as,q⟩:=Inv.readsAllK I h rv
  exact ⟨_,.tuple ho hc hd q⟩
theorem Inv.readsAllK (I:Inv X pins σ H s):∀ {xs:List V} {ds:List PyData} {vs:List Value},cI X.K H xs ds->Vals xs vs->∃ as,ReadsAll s.heap vs ds as
 | _,_,_,.nil,r=>by cases r; exact ⟨_,.nil⟩
 | _,_,_,.cons h t,r=>by
  cases r with
  | cons r1 r2 =>
   obtain ⟨a,q1⟩:=Inv.readsK I h r1
   obtain ⟨b,q2⟩:=Inv.readsAllK I t r2
   exact ⟨_,.cons q1 q2⟩
end
noncomputable def T_ (K:Frag) (neg:Bool):R2:=fun x y H Q=>∃ d e,jK K H x d/\jK K H y e/\SeqAt.shaped d = true/\SeqAt.shaped e = true/\Q (.bl (if neg then !PyData.eqv d e else PyData.eqv d e)) H
theorem Zf (hu:X.A.units + 64 < cLine):OpR X (compareOp .NotEq) (T_ X.K true):=by
 intro pins s σ H x y v u Q I rx ry h
 obtain ⟨d,e,hd,he,sd,se,q⟩:=h
 obtain ⟨as,ra⟩:=I.readsK hd rx
 obtain ⟨bs,rb⟩:=I.readsK he ry
 exact SeqAt.compareNe_shaped ra rb sd se hu ⟨.bl _,H,I,rfl,q⟩
end
section
variable {X:Cx}
noncomputable def M5 (K:Frag):List V->Hp->VK->Prop:=fun xs H Q=>∃ p ys,xs = [.ref p]/\SqT K H p ys/\Q (.int ys.length) H
theorem Qq:eG X (.builtin "len") (M5 X.K):=oU.imp fun xs H Q ⟨p,ys,a,b,c⟩=>⟨p,ys,a,.inr b,c⟩
noncomputable def yK (K:Frag):List V->Hp->VK->Prop:=fun xs H Q=>∃ p T ys,xs = [.ref p,.ty T]/\T ∈ ["bool", "int", "str", "list", "tuple", "dict"]/\SqT K H p ys/\Q (.bl (Qg "tuple" T)) H
theorem Ih:eG X (.builtin "isinstance") (yK X.K):=by
 intro pins s σ H xs us Q I r h
 obtain ⟨p,T,ys,rfl,hT,hp,q⟩:=h
 obtain ⟨u,v,rfl,ru,rv⟩:=r.two
 cases ru
 cases rv
 obtain ⟨its,rvs,⟨o,ho,hc,n,hd⟩,_⟩:=I.tuple hp
 refine PySem.W.kia_one (PySem.W.kitx_tuple (a:=p)) I.kIn ⟨o,ho,hc⟩ (MJ (K:=X.K) (t := "tuple") (by decide) hT) (fun z=>nomatch z) fun tk=>⟨.bl _,H,I.tok _,rfl,q⟩
end
end L2
namespace L2
open PySem PySem.Spec PyProof.Rows
noncomputable def OkI (P:Program) (w:World) (K:Frag) (mg:Str->Option Value) (base:Heap) (CX:CXT) (k:Nat) (f:Addr) (ps:List Str) (sp:Sp):Prop:=∃ fd,cj P w K mg base CX k f fd ps sp/\Binds K fd ps []
noncomputable def pq (K:Frag) (x qual:Str) (st:Stmt) (ps:List Str) (f:Addr):Prop:=∃ fd,Fun K x qual st f fd/\∀ us:List Value,us.length = ps.length->bindArgs fd ⟨us,[]⟩ = pure (ps.zip us)
theorem pq.ok {P:Program} {w:World} {K:Frag} {mg:Str->Option Value} {base:Heap} {CX:CXT} {k:Nat} {x qual:Str} {st:Stmt} {ps:List Str} {f:Addr} {sp:Sp} (h:pq K x qual st ps f) (hf:∀ fd,Fun K x qual st f fd->cj P w K mg base CX k f fd ps sp):OkI P w K mg base CX k f ps sp :=
 let ⟨fd,a,b⟩:=h; ⟨fd,hf fd a,.all b⟩
theorem XC {K:Frag} {x qual:Str} {st:Stmt} {ps:List Str} {f:Addr} {oc:Value} {od an:Option Addr} {osl:Array (Option Value)} {kV doc pm cdv ct:Value}
  (l:K.lookup f = some ⟨oc,od,.func (PySem.W.fnOf x qual (iG st) (eX st) (bH st) .none kV doc pm an cdv ct),osl⟩) (c:PySem.W.codeIn K cdv qual = true) (k:PySem.W.keepIn K (.ref f) = true)
  (hb:∀ (kV doc pm:Value) (an:Option Addr) (cdv ct:Value) (us:List Value),us.length = ps.length->bindArgs (PySem.W.fnOf x qual (iG st) (eX st) (bH st) .none kV doc pm an cdv ct) ⟨us,[]⟩ = pure (ps.zip us)):pq K x qual st ps f :=
 ⟨_,RN l c k,hb kV doc pm an cdv ct⟩
section
variable {X:Cx} {k:Nat} {f C B:Addr} {ps:List Str} {sp:Sp} {x m:Str} {p pos apos:Pos} {e o:Expr} {es:List Expr} {ta:TE} {t:TA} {Ex:Value->Option Addr->L2.St->Hp->Prop}
theorem PE.any {ι:Sort _} {R:ι->Prop} {a:Expr} {ts:ι->TE} (h:∀ i,R i->PE X a (ts i)):PE X a (fun σ H Q=>∃ i,R i/\ts i σ H Q):=fun pins s σ H Q I ⟨i,r,q⟩=>h i r pins s σ H Q I q
noncomputable def GJ (C:Addr) (sp:Sp) (Ex:Value->Option Addr->L2.St->Hp->Prop) (t:TA):TE:=fun σ H Q=>t σ H fun vs H1=>∀ x dx,H1 x = none->H1 dx = none->dx ≠ x->sp (.ref x :: vs) (upd (upd H1 dx (.own x)) x (.ins C dx [])) (fun v H2=>v = .non/\Q (.ref x) H2) fun E d H'=>Ex E d σ H'
theorem pZ (M:Mk X.K C f) (G:OkI X.prog X.w X.K X.mg X.base (CXO X.prog X.w) k f ps sp) (hr:fW (k + 1) X.A) (hg:Gl X x) (hm:X.mg x = some (.ref C)) (hx:zN X Ex) (ha:PA X (e :: es) t) (hdb:(x == ("__debug__" : Str)) = false:=by decide)
  (he:starEach (e :: es) X.env = (false,eval e X.env) :: starEach es X.env:=by rfl) (hpl:(backTo pos (starEach es X.env)).any (·.1) = false:=by rfl):PE X (.Call (.Name x p) (e :: es) [] pos) (GJ C sp Ex t):=by
 obtain ⟨fd,F,hb⟩:=G
 refine (RZ M F hr hg hm hb .nil hx ha.mono hdb he hpl).imp fun σ H Q h=>⟨_,h,fun vs H1 q x dx h1 h2 h3=>?_⟩
 rw [List.append_nil]
 exact q x dx h1 h2 h3
noncomputable def Gm (C:Addr) (m:Str) (sp:Sp) (ta:TE) (t:TA):TE:=fun σ H Q=>ta σ H fun x H1=>∃ a dx fs,x = .ref a/\H1 a = some (.ins C dx fs)/\fs.lookup m = none/\t σ H1 fun vs H2=>sp (x :: vs) H2 Q E0
theorem Dg {pl:Sem Bool} (he:PE X o ta) (c:Cls X.K C) (hm:Meth X.K C m f) (G:OkI X.prog X.w X.K X.mg X.base CX0 k f ps sp) (hr:fW k X.A)
  (ht:eval (.Call (.Attribute o m apos) [] [] pos) X.env = (do
   let ov <- eval o X.env
   standAt apos.atName
   let (f,first) <- holding [ov] (getMethod ov m pl)
   callWith pos f first (backTo pos (starEach [] X.env)) (backToKw pos (keywordEach [] X.env))):=by rfl) :
  PE X (.Call (.Attribute o m apos) [] [] pos) (Gm C m sp ta wX):=by
 obtain ⟨fd,F,hb⟩:=G
 refine (Rz (pl:=pl) he.mono c hm F hr hb .nil Uk ht).imp fun σ H Q h=>⟨_,h,?_⟩
 rintro x H1 ⟨a,dx,fs,h1,h2,h3,h4⟩
 exact ⟨a,dx,fs,h1,h2,h3,h4⟩
theorem vo {pl:Sem Bool} (c:jH X.K B m f) (G:OkI X.prog X.w X.K X.mg X.base (CXO X.prog X.w) k f ps sp) (hr:fW k X.A) (hg:Gl X x) (hm:X.mg x = some (.ref B)) (hx:zN X Ex) (ha:PA X (e :: es) t) (hdb:(x == ("__debug__" : Str)) = false:=by decide)
  (hst:starEach (e :: es) X.env = (false,eval e X.env) :: starEach es X.env:=by rfl) (hpl:(backTo pos (starEach es X.env)).any (·.1) = false:=by rfl)
  (ht:eval (.Call (.Attribute (.Name x p) m apos) (e :: es) [] pos) X.env = (do
   let ov <- eval (.Name x p) X.env
   standAt apos.atName
   let (f,first) <- holding [ov] (getMethod ov m pl)
   callWith pos f first (backTo pos (starEach (e :: es) X.env)) (backToKw pos (keywordEach [] X.env))):=by rfl) :
  PE X (.Call (.Attribute (.Name x p) m apos) (e :: es) [] pos) (xG sp Ex t):=by
 obtain ⟨fd,F,hb⟩:=G
 exact Vc (pl:=pl) c F hr hg hm hb hx ha hdb hst hpl ht
theorem jN {D:Addr} {pos:Pos} (hg:Gl X x) (hm:X.mg x = some (.ref D)) (hd:(x == ("__debug__" : Str)) = false:=by decide):PE X (.Name x pos) (tC (.ref D)):=GK hg hm rfl hd
end
theorem M8 {X:Cx} {K:Frag} (e:X.K = K) (hu:X.A.units + 64 < cLine):OpR X (compareOp .NotEq) (T_ K true):=e ▸ Zf hu
end L2
namespace L2
open PySem PySem.Spec PyProof.Rows
theorem P_ {h:Heap} {o ob:Obj} {b:Addr} (e:(h.push o).get? b = some ob) (hs:b ≠ h.objs.size):h.get? b = some ob:=by
 obtain ⟨e1,e2⟩:=Heap.get?_some_iff.mp e
 refine Heap.get?_some_iff.mpr ⟨?_,e2⟩
 cases h
 simpa [Heap.push,Array.getElem?_push,hs] using e1
section
variable {X:Cx}
end
section
variable {ta:TA} {te:TE} {σ:L2.St} {H:Hp} {Q:VK}
end
section
variable {X:Cx}
theorem Je:∀ {ys:List Str} {vs:List Value},Vals (ys.map V.str) vs->StrsAre vs ys
 | [],_,h=>by cases h; exact .nil
 | y :: ys,_,h=>by
  rw [List.map_cons] at h
  cases h with
  | cons a b =>
   obtain ⟨t,rfl⟩:=a
   exact .cons y t (Je b)
noncomputable def rJoin:V->List V->Hp->VK->Prop:=fun x vs H Q=>∃ a l ys,x = .str a/\vs = [.ref l]/\H l = some (.lst (ys.map V.str))/\(ys.map (·.length)).sum + ys.length * a.length <= 16777216/\Q (.str (Txt.join a ys)) H
theorem Ww:MtM X "str.join" rJoin:=by
 intro pins s σ H x vs v us Q I rx rv h
 obtain ⟨a,l,ys,rfl,rfl,hl,hz,q⟩:=h
 obtain ⟨t,rfl⟩:=rx
 obtain ⟨u,rfl,ru⟩:=rv.one
 cases ru
 obtain ⟨_,its,n,r,_,e⟩:=I.lstM hl
 exact join_list ⟨_,e,rfl,n,rfl⟩ (by simpa using Je r) hz fun t' k=>⟨.str _,H,I.tok _,⟨_,rfl⟩,q⟩
structure Jz (K:Frag) (C:Addr):Prop where
 ha:PySem.W.findIn K (.ref C) "__class__" = some (some (.builtin "object.__class__"))
 hn:PySem.W.specialIn K (.builtin "object.__class__") "__get__" = some (some (.builtin "getset_descriptor.__get__"))
 tk:PySem.W.takesIn K (.builtin "object.__class__") = some true
 hm:PySem.W.mroIn K C (.type "object") = some true
noncomputable def Rx (K:Frag):List V->Hp->VK->Prop:=fun xs H Q=>∃ a D C dx fs b,xs = [.ref a,.ref D]/\H a = some (.ins C dx fs)/\Cls K C/\Jz K C/\PySem.W.kitOne K (.ref C) (.ref D) = some b/\Q (.bl b) H
noncomputable def Vf:List V->Hp->VK->Prop:=fun xs H Q=>∃ i j,xs = [.int i,.int j]/\Q (.int (if j < i then j else i)) H
noncomputable def Ub:List V->Hp->VK->Prop:=fun xs H Q=>∃ i j,xs = [.int i,.int j]/\Q (.int (if j > i then j else i)) H
end
end L2
namespace L2
open PySem PySem.Spec PyProof.Rows
section
variable {X:Cx} {elt iter:Expr} {pos:Pos} {scope:Scope} {wi:TI} {te:TE}
theorem RP {i0:Nat} {y0:Str} {py spos:Pos} {xs N':List Str} {tg:Expr} {ifs:List Expr} {gt:TG} {tc:TT} (hc:X.calm = true) (hsh:CT xs X.N = N') (hN:(xs ++ N').Nodup) (hkind:scope.kind = .function) (hcell:∀ y ∈ scope.names,y.2 ≠ .cell) (hnames:∀ y ∈ scope.names,y.2 = .local->scope.names.lookup y.1 = some .local)
  (hfree:∀ y ∈ scope.names,y.2 = .free->X.env.kindOf y.1 = some .cell\/X.env.kindOf y.1 = some .free) (hloc:∀ y ∈ X.N,y ∉ xs->(relabel scope X.env).names.lookup y ≠ some .local) (hq:∀ y ∈ X.N,y ∈ xs->(relabel scope X.env).names.lookup (hid y) = none) (hi:PI X tg iter wi)
  (hg:∀ C s₀ H₀ ex pn,PG (X.compG N' scope xs C s₀ H₀ ex pn) tg gt) (ht:∀ C s₀ H₀ ex pn,PTs (X.compG N' scope xs C s₀ H₀ ex pn) ifs tc) (he:∀ C s₀ H₀ ex pn,PE (X.compG N' scope xs C s₀ H₀ ex pn) elt te) (hgy:PG X (.Name y0 py) (cL i0)) (hsw:swapsWith (.ListComp elt [⟨tg,iter,ifs,0⟩] scope pos) (some (.Name y0 py)) spos.line X.env = pure true) (hs:∀ z,foldedSetIterable iter X.env z = pure z:=by intro _; rfl) :
  PS X (.Assign [.Name y0 py] (.ListComp elt [⟨tg,iter,ifs,0⟩] scope pos) spos) (G5 (jz wi xs.length gt tc te) (cL i0)):=by
 intro pins s σ H D0 I h
 have h:jz wi xs.length gt tc te σ H (fun x H1=>cL i0 x σ H1 D0.nx):=h
 rw [exec_Assign_Name_used _ _ _ _ hsw]
 refine wpAny_bind (wpAny_standAt (wpAny_bind ?_))
 show wpAny _ X.A (comprehension (.ListComp elt [⟨tg,iter,ifs,0⟩] scope pos) scope X.env _ (newList []) false (eval iter X.env) (some (assign (.Name y0 py) X.env)) >>= fun _=>_) _ _ s
 refine wpAny_bind (wpAny_mono (yU (use:=some (assign (.Name y0 py) X.env)) (post:=fun _ s'=>SP X pins D0 .next s') hc hsh hN hkind hcell hnames hfree hloc hq hi hg ht he hs I h fun C D Hc s6 m fl hn6 I6 fC qn=>?_) (fun _ s' hq=>wpAny_pure (wpAny_pure hq)) fun _ _ e=>e)
 obtain ⟨oc,es,ep,ho,hdat,_⟩:=id hn6
 have I7:=I6.pinned (fp:=[C]) (fun b hb=>by rw [List.mem_singleton.mp hb]; exact fC) fun b hb=>by
  rw [List.mem_singleton.mp hb]
  exact ⟨oc,ho,fun v z=>by rw [hdat] at z; cases z⟩
 show wpAny _ X.A (assign (.Name y0 py) X.env _) _ _ s6
 refine thn (hgy _ s6 σ Hc (.ref D) _ D0.nx I7 rfl qn) fun _ s7 ⟨σ7,H7,Z7,q7⟩=>?_
 have pn7:=Z7.pin (C,oc) (aO _ (aO _ (mG (by simp) ho)))
 refine ⟨m,hn6.at' fun o e=>?_,fun h' hs'=>⟨σ7,H7,Z7.unpinned.turned (it:=C) (h':=h') (t':=s7.toks) (fun b o hb e=>(hs'.2 b hb).trans e) pn7.2.1 fC.2.1 fC.2.2.2.1 fC.2.2.2.2.1 fC.2.2.2.2.2,q7⟩⟩
 rw [ho] at e
 cases e
 exact pn7.1
theorem Tc {te:TE} {x:V} {σ:L2.St} {H:Hp} {Y:VK} {No:Hp->Prop} (h:te (some x :: σ) H Y):xR 1 (cL 0) Jr te x σ H Y No:=fun pre hp=>by
 obtain ⟨u,rfl⟩:=List.length_eq_one_iff.mp hp
 exact ⟨[some x],rfl,rfl,h⟩
theorem dB {K:Frag} {tl te:TE} {σ:L2.St} {H:Hp} {Q:VK} (h:tl σ H fun x H1=>∃ a xs,x = .ref a/\H1 a = some (.lst xs)/\xs.length <= sizeLine/\∀ D,H1 D = none->∃ J:Nat->List V->Hp->Prop,J 0 [] (upd H1 D (.lst [])) /\
   (∀ k x ys Hc,xs[k]? = some x->J k ys Hc->ys.length = k->Hc a = some (.lst xs)->te (some x :: σ) Hc fun y H2=>H2 D = some (.lst ys)/\H2 a = some (.lst xs)/\J (k + 1) (ys ++ [y]) (upd H2 D (.lst (ys ++ [y])))) /\
   ∀ ys Hc,J xs.length ys Hc->ys.length = xs.length->Q (.ref D) Hc):jz (z8 K (tM tl)) 1 (tMG (cL 0)) (tMT Jr) (tM te) σ H Q:=by
 refine ⟨_,h,?_⟩
 rintro x H1 ⟨a,xs,rfl,hx,hz,rest⟩
 refine ⟨a,rfl,⟨xs,.of hx⟩,fun D hD=>?_⟩
 obtain ⟨J,j0,step,fin⟩:=rest D hD
 have ne:a ≠ D:=bA hx hD
 refine ⟨fun k m ys Hc=>k <= xs.length/\m = xs.length - k/\ys.length = k/\Hc a = some (.lst xs)/\J k ys Hc,⟨_,aZ _,rfl,rfl,(bF ne).trans hx,j0⟩,?_⟩
 rintro k m ys Hc ⟨hk,rfl,hy,hx',j⟩
 by_cases e:k = xs.length
 .subst e
  exact .inl ⟨⟨xs,.of hx',aD _⟩,fin ys Hc j hy⟩
 .have hlt:k < xs.length:=by omega
  refine .inr ⟨⟨xs,_,.of hx',aj hlt⟩,?_⟩
  rintro x H'' ⟨rfl,y⟩
  refine (Tc (No:=fun _=>False) (step k x ys H'' (y xs (.of hx')) j hy hx')).weak ?_ (fun _ z=>z.elim)
  rintro yv H2 ⟨z1,z2,z3⟩
  refine ⟨by omega,z1,xs.length - (k + 1),by omega,by omega,rfl,?_,?_,z3⟩
  .rw [au,hy]; rfl
  .rw [bF ne]; exact z2
theorem Le {te:TE} {σ:L2.St} {H:Hp} {Q:VK} {lo:Int} {n:Nat} (hn:n <= 64) (rest:∀ D,H D = none->∃ J:Nat->List V->Hp->Prop,J 0 [] (upd H D (.lst []))/\(∀ k ys Hc,k < n->J k ys Hc->ys.length = k->te (some (.int (lo + k)) :: σ) Hc fun y H2=>H2 D = some (.lst ys)/\J (k + 1) (ys ++ [y]) (upd H2 D (.lst (ys ++ [y]))))/\∀ ys Hc,J n ys Hc->ys.length = n->Q (.ref D) Hc) :
  ∀ D,H D = none->∃ W:Nat->Nat->List V->Hp->Prop,(∃ m,W 0 m [] (upd H D (.lst [])))/\∀ i m ys Hc,W i m ys Hc->((Itr lo n).stop i Hc/\Q (.ref D) Hc)\/((Itr lo n).go i Hc/\∀ x H',(Itr lo n).yld i Hc x H'->xR 1 (tMG (cL 0)) (tMT Jr) (tM te) x σ H' (fun y H2=>ys.length < sizeLine/\H2 D = some (.lst ys)/\∃ m',m' < m/\W (i + 1) m' (ys ++ [y]) (upd H2 D (.lst (ys ++ [y])))) fun H3=>∃ m',m' < m/\W (i + 1) m' ys H3):=by
 intro D hD
 obtain ⟨J,j0,step,fin⟩:=rest D hD
 have hz:64 <= sizeLine:=by decide
 refine ⟨fun k m ys Hc=>k <= n/\m = n - k/\ys.length = k/\J k ys Hc,⟨_,aZ _,rfl,rfl,j0⟩,?_⟩
 rintro k m ys Hc ⟨hk,rfl,hy,j⟩
 by_cases e:k = n
 .subst e
  exact .inl ⟨aD _,fin ys Hc j hy⟩
 .have hlt:k < n:=by omega
  refine .inr ⟨hlt,?_⟩
  rintro x H'' ⟨rfl,rfl⟩
  refine (Tc (No:=fun _=>False) (step k ys H'' hlt j hy)).weak ?_ (fun _ z=>z.elim)
  rintro yv H2 ⟨z1,z2⟩
  exact ⟨by omega,z1,n - (k + 1),by omega,by omega,rfl,by rw [au,hy]; rfl,z2⟩
theorem kO {ta:TA} {te:TE} {σ:L2.St} {H:Hp} {Q:VK} (h:ta σ H fun vs H1=>∃ n:Nat,vs = [.int n]/\n <= 64/\∀ D,H1 D = none->∃ J:Nat->List V->Hp->Prop,J 0 [] (upd H1 D (.lst []))/\(∀ (k:Nat) ys Hc,k < n->J k ys Hc->ys.length = k->te (some (.int k) :: σ) Hc fun y H2=>H2 D = some (.lst ys)/\J (k + 1) (ys ++ [y]) (upd H2 D (.lst (ys ++ [y]))))/\∀ ys Hc,J n ys Hc->ys.length = n->Q (.ref D) Hc) :
  jz (Oc (tMA ta)) 1 (tMG (cL 0)) (tMT Jr) (tM te) σ H Q:=by
 refine ⟨_,h,?_⟩
 rintro vs H1 ⟨n,rfl,hn,rest⟩
 refine ⟨n,rfl,by omega,by omega,?_⟩
 rw [Int.toNat_natCast]
 refine Le hn fun D hD=>?_
 obtain ⟨J,j0,step,fin⟩:=rest D hD
 exact ⟨J,j0,fun k ys Hc h1 h2 h3=>by rw [Int.zero_add]; exact step k ys Hc h1 h2 h3,fin⟩
end
theorem cj.wild {P:Program} {w:World} {K:Frag} {mg:Str->Option Value} {base:Heap} {k:Nat} {f:Addr} {fd:FuncData} {ps:List Str} {sp:Sp} (F:cj P w K mg base CX0 k f fd ps sp):cj P w K mg base (CXO P w) k f fd ps sp:=by
 refine ⟨F.len,fun A outer s H args us vs Q E hr e0 hb r h=>?_⟩
 refine codeAny_mono (F.run A outer s H args us vs Q E hr e0 hb r h) fun res s' hs=>?_
 cases res with
 | error e=>exact False.elim hs
 | ok fl =>
  cases fl with
  | ret u=>exact hs
  | next=>exact hs
  | brk=>exact hs
  | cont=>exact hs
theorem OkF.wild {P:Program} {w:World} {K:Frag} {mg:Str->Option Value} {base:Heap} {k:Nat} {x:Str} {ps:List Str} {sp:Sp} (F:OkF P w K mg base k x ps sp):OkX P w K mg base k x ps sp:=let ⟨f,fd,a,b⟩:=F; ⟨f,fd,a.wild,b⟩
end L2
namespace L2
open PySem PySem.Spec PyProof.Rows
section
variable {X:Cx} {pins:List (Addr × Obj)} {σ:L2.St} {H:Hp} {s:Shared} {h':Heap}
theorem Inv.turnedL {t':Nat} {ch:List Addr} (I:Inv X pins σ H s) (k:∀ b o,b ∉ ch->s.heap.get? b = some o->h'.get? b = some o) (hf:∀ b ∈ ch,yw X pins H b):Inv X pins σ H { s with heap:=h',toks:=t' }:=by
 have nit:∀ b u,H b = some u->b ∉ ch:=fun b u e z=>by rw [(hf b z).1] at e; cases e
 refine I.step (g':=s.gens) (d':=s.drawn) (ch:=ch) (fun b hb=>⟨(hf b hb).2.2.2.1,(hf b hb).2.1,(hf b hb).2.2.2.2.1,(hf b hb).2.2.2.2.2⟩) (fun b o _ _ hc e _=>k b o hc e) (fun b o _ _ hc e _=>⟨o.slots,k b o hc e⟩) (fun _ _ _ _ n=>n) (fun b o hc e=>⟨o,k b o hc e⟩) (fun _ _ e=>e) (fun _ _ _ e=>e) (fun b ps e=>⟨#[],by rw [e]; simp⟩) (fun m hm=>?_) (fun b u e=>?_) I.bare
 .obtain ⟨o,es,ep,ho,r⟩:=hm
  exact ⟨o,es,ep,k _ o (fun z=>(hf _ z).2.1 rfl) ho,r⟩
 .refine (I.hok b u e).stay (fun c v hc q=>k c v ?_ q) (fun _ q=>q) fun _ _ q=>q
  rcases hc with z | z
  .rw [z]; exact nit b u e
  .exact nit c _ z
end
noncomputable def Itz (a b:Addr):It:=⟨fun i H=>∃ xs ys,H a = some (.lst xs)/\H b = some (.lst ys)/\i < xs.length/\i < ys.length,fun i H v H'=>∃ xs ys x y t,H a = some (.lst xs)/\H b = some (.lst ys)/\xs[i]? = some x/\ys[i]? = some y/\H t = none/\v = .ref t/\H' = upd H t (.tup [x,y]),fun i H=>∃ xs ys,H a = some (.lst xs)/\H b = some (.lst ys)/\(xs.length <= i\/ys.length <= i)⟩
theorem su {h g:Heap} {a l:Addr} {i:Nat} (x:h.IsListIter a l i) (k:∀ o,h.get? a = some o->g.get? a = some o):g.IsListIter a l i:=let ⟨o,e,r⟩:=x; ⟨o,k o e,r⟩
theorem Mr {xs:List V} {vs:List Value} : Vals xs vs->∀ {i:Nat} {x:V},xs[i]? = some x->∃ u,vs[i]? = some u/\RelV x u:=by
 intro h
 induction h with
 | nil=>intro i x e; cases e
 | cons a b ih =>
  intro i x e
  cases i with
  | zero=>rw [List.getElem?_cons_zero] at e; cases e; exact ⟨_,rfl,a⟩
  | succ i=>rw [List.getElem?_cons_succ] at e ⊢; exact ih e
theorem Tt {P:Program} {w:World} {K:Frag} {elts:List Expr} {x1} {pos:Pos} (z TI TO i1 i2 l1 l2:Addr) (D:ZipApart z TI TO i1 i2 l1 l2) :
  Turn P w K (.Tuple elts x1 pos) (Itz l1 l2) [z,TI,TO,i1,i2] z (fun i h=>IsZip h z TI TO .none/\IsPair h TI (.ref i1) (.ref i2)/\(∃ p q,IsPair h TO p q)/\h.IsListIter i1 l1 i/\h.IsListIter i2 l2 i) where
 mem:=by simp
 obj:=by
  rintro i h ⟨s1,s2,⟨p,q,s3⟩,⟨o4,s4,_,d4⟩,⟨o5,s5,_,d5⟩⟩ b hb
  simp only [List.mem_cons,List.not_mem_nil,or_false] at hb
  rcases hb with rfl | rfl | rfl | rfl | rfl
  .exact ⟨_,s1,fun v e=>by cases e⟩
  .exact ⟨_,s2,fun v e=>by cases e⟩
  .exact ⟨_,s3,fun v e=>by cases e⟩
  .exact ⟨_,s4,fun v e=>by rw [d4] at e; cases e⟩
  .exact ⟨_,s5,fun v e=>by rw [d5] at e; cases e⟩
 keep:=fun i h h' ⟨s1,s2,⟨p,q,s3⟩,s4,s5⟩ k=>⟨k z (by simp) _ s1,k TI (by simp) _ s2,⟨p,q,k TO (by simp) _ s3⟩,su s4 (k i1 (by simp)),su s5 (k i2 (by simp))⟩
 item:=by
  intro X hP hw hK hc i pins s σ H E I hf st hg
  subst hP hw hK
  obtain ⟨s1,s2,⟨p,q,s3⟩,s4,s5⟩:=st
  obtain ⟨xs,ys,ha,hb,lt1,lt2⟩:=hg
  obtain ⟨_,it1,n1,rv1,le1,g1⟩:=I.lstM ha
  obtain ⟨_,it2,n2,rv2,le2,g2⟩:=I.lstM hb
  have ex:xs[i]? = some xs[i]:=aj lt1
  have ey:ys[i]? = some ys[i]:=aj lt2
  obtain ⟨u,hu,ru⟩:=Mr rv1 ex
  obtain ⟨v,hv,rv⟩:=Mr rv2 ey
  refine wpAny_pyNext_zip_item D s1 s2 s3 s4 s5 (xs:=it1.toArray) (ys:=it2.toArray) ⟨_,g1,rfl,n1,rfl⟩ ⟨_,g2,rfl,n2,rfl⟩ (x:=u) (y:=v) (by simpa using hu) (by simpa using hv) fun h' a1 a2 a3 a4 a5 a6 a7=>⟨_,rfl,?_⟩
  refine wpAny_letOwnedTupleGo_zip a1 fun h2 st2 sb=>?_
  have nt:H s.heap.objs.size = none:=I.fresh
  have I1:=I.laid (a:=s.heap.objs.size) (o:=.tup [xs[i],ys[i]]) (h':=s.heap.push { cls:=.type "tuple",data:=.seq #[u,v] }) (t':=s.toks) (fun b q z=>aF _ z) (aD _)
   ⟨(by show 2 <= sizeLine; decide),[u,v],.cons ru (.cons rv .nil),_,aW _ rfl,rfl,_,rfl⟩
  have nz:z ≠ s.heap.objs.size:=aP (aH s1)
  have nO:TO ≠ s.heap.objs.size:=aP (aH s3)
  have nI:TI ≠ s.heap.objs.size:=aP (aH s2)
  have n1':i1 ≠ s.heap.objs.size:=by obtain ⟨o,e,_⟩:=s4; exact aP (aH e)
  have n2':i2 ≠ s.heap.objs.size:=by obtain ⟨o,e,_⟩:=s5; exact aP (aH e)
  have fpn:∀ b ∈ [z,TI,TO,i1,i2],upd H s.heap.objs.size (.tup [xs[i],ys[i]]) b = none:=by
   intro b hb
   have f0:=(hf b hb).1
   simp only [List.mem_cons,List.not_mem_nil,or_false] at hb
   rcases hb with rfl | rfl | rfl | rfl | rfl
   .exact (bF nz).trans f0
   .exact (bF nI).trans f0
   .exact (bF nO).trans f0
   .exact (bF n1').trans f0
   .exact (bF n2').trans f0
  have I2:=I1.turnedL (ch:=[z,TO,i1,i2]) (h':=h2) (t':=s.toks) (fun b ob hb e=>by
   simp only [List.mem_cons,List.not_mem_nil,or_false,not_or] at hb
   obtain ⟨b1,b2,b3,b4⟩:=hb
   refine (sb.2 b b1).trans ?_
   by_cases hs:b = s.heap.objs.size
   .subst hs
    have e2:=aW s.heap (o:={ cls:=.type "tuple",data:=.seq #[u,v] }) rfl
    have e:(s.heap.push { cls:=.type "tuple",data:=.seq #[u,v] }).get? s.heap.objs.size = some ob:=e
    rw [e2] at e
    cases e
    exact a5
   .exact a7 b _ b1 b2 b3 b4 (P_ e hs)) fun b hb=>by
    have hb':b ∈ [z,TI,TO,i1,i2]:=by
     simp only [List.mem_cons,List.not_mem_nil,or_false] at hb ⊢
     rcases hb with h | h | h | h <;> simp [h]
    exact ⟨fpn b hb',(hf b hb').2⟩
  have mv:∀ c o,c ≠ z->h'.get? c = some o->h2.get? c = some o:=fun c o n e=>(sb.2 c n).trans e
  exact ⟨.ref _,_,I2,rfl,⟨xs,ys,_,_,_,ha,hb,ex,ey,nt,rfl,rfl⟩,⟨st2,mv _ _ D.TIz (a7 _ _ D.TIz D.TITO D.TIi1 D.TIi2 s2),⟨_,_,mv _ _ D.TOz a2⟩,su a3 fun o e=>mv _ _ D.i1z e,su a4 fun o e=>mv _ _ D.i2z e⟩,fpn⟩
 done:=by
  intro X hP hw hK hc i pins s σ H E I hf st hg
  subst hP hw hK
  obtain ⟨s1,s2,⟨p,q,s3⟩,s4,s5⟩:=st
  obtain ⟨xs,ys,ha,hb,lt⟩:=hg
  obtain ⟨_,it1,n1,rv1,le1,g1⟩:=I.lstM ha
  obtain ⟨_,it2,n2,rv2,le2,g2⟩:=I.lstM hb
  refine wpAny_pyNext_zip_end (I.ok.hd hc) D s1 s2 s3 s4 s5 (xs:=it1.toArray) (ys:=it2.toArray) ⟨_,g1,rfl,n1,rfl⟩ ⟨_,g2,rfl,n2,rfl⟩ (by simp; omega) fun h' k=>⟨rfl,I.turnedL (ch:=[z,TO,i1,i2]) (t':=s.toks) (fun b ob hb e=>?_) fun b hb=>?_⟩
  .simp only [List.mem_cons,List.not_mem_nil,or_false,not_or] at hb
   exact k b ob hb.1 hb.2.1 hb.2.2.1 hb.2.2.2 e
  .exact hf b (by
    simp only [List.mem_cons,List.not_mem_nil,or_false] at hb ⊢
    rcases hb with h | h | h | h <;> simp [h])
 self:=fun _ _ _ _ _ ⟨s1,_⟩ h=>wpAny_pyIter_zip s1 h
section
variable {X:Cx}
theorem Ox (n l1 l2:Nat) (h1:l1 < n) (h2:l2 < n):ZipApart (n + 4) (n + 2) (n + 3) n (n + 1) l1 l2:=by
 constructor <;> first | exact aP (by omega) | exact Nat.ne_of_gt (by omega)
theorem Xl (n b:Nat) (h:b = n + 4\/b = n + 2\/b = n + 3\/b = n\/b = n + 1):n <= b:=by omega
theorem boot_zip:bootBuiltins "zip" = some (.type "zip"):=by decide +kernel
noncomputable def Y0 (ta:TA):TI:=fun σ H R=>ta σ H fun vs H1=>∃ a b xs ys,vs = [.ref a,.ref b]/\H1 a = some (.lst xs)/\H1 b = some (.lst ys)/\R (Itz a b) H1
theorem Gu {a b:Expr} {ta:TA} {elts:List Expr} {x1} {p pos tpos:Pos} (hg:Gl X "zip") (hm:X.mg "zip" = none) (ha:PA X [a,b] ta) (hs:starEach [a,b] X.env = [(false,eval a X.env),(false,eval b X.env)]:=by rfl) (hs2:starEach [b] X.env = [(false,eval b X.env)]:=by rfl) :
  PI X (.Tuple elts x1 tpos) (.Call (.Name "zip" p) [a,b] [] pos) (Y0 ta):=by
 intro pins s σ H R I h
 refine Call_ (yX I hg hm boot_zip (PyProof.Rows.callWith_type1 (thn (ha pos pins s σ H _ I h) fun us s1 ⟨vs,H1,I1,r1,q1⟩=>?_) (by rw [hs,hs2]) (by rw [hs2]; rfl)))
 obtain ⟨l1,l2,xs,ys,e,h1,h2,q⟩:=q1
 subst e
 obtain ⟨u,v,rfl,ru,rv⟩:=r1.two
 cases ru
 cases rv
 obtain ⟨_,it1,n1,rv1,le1,g1⟩:=I1.lstM h1
 obtain ⟨_,it2,n2,rv2,le2,g2⟩:=I1.lstM h2
 have z1:=aH g1
 have z2:=aH g2
 refine call_zip_2 (xs:=it1.toArray) (ys:=it2.toArray) ⟨_,g1,rfl,n1,rfl⟩ ⟨_,g2,rfl,n2,rfl⟩ fun h' a1 a2 a3 a4 a5 a6 a7=>?_
 refine wpAny_pyIter_zip a1 ?_
 refine ⟨_,[s1.heap.objs.size + 4,s1.heap.objs.size + 2,s1.heap.objs.size + 3,s1.heap.objs.size,s1.heap.objs.size + 1],_,Itz l1 l2,H1,rfl,I1.kept (t':=s1.toks) fun b ob e=>a7 b ob e,Tt _ _ _ _ _ l1 l2 (Ox _ _ _ z1 z2),⟨a1,a2,⟨_,_,a3⟩,a4,a5⟩,fun b hb=>?_,q⟩
 have hb':s1.heap.objs.size <= b:=by
  simp only [List.mem_cons,List.not_mem_nil,or_false] at hb
  exact Xl _ _ hb
 exact I1.fpOk hb' (I1.hok.fresh hb')
end
theorem uc {ta:TA} {te:TE} {gt:TG} {tc:TT} {n:Nat} {σ:L2.St} {H:Hp} {Q:VK} (h:ta σ H fun vs H1=>∃ a b xs ys,vs = [.ref a,.ref b]/\H1 a = some (.lst xs)/\H1 b = some (.lst ys)/\xs.length = ys.length/\xs.length <= 64/\∀ D,H1 D = none->∃ J:Nat->List V->Hp->Prop,J 0 [] (upd H1 D (.lst [])) /\
   (∀ k x y zs Hc t,xs[k]? = some x->ys[k]? = some y->J k zs Hc->zs.length <= k->Hc t = none->Hc a = some (.lst xs)->Hc b = some (.lst ys)->xR n gt tc te (.ref t) σ (upd Hc t (.tup [x,y])) (fun v H2=>H2 D = some (.lst zs)/\H2 a = some (.lst xs)/\H2 b = some (.lst ys)/\J (k + 1) (zs ++ [v]) (upd H2 D (.lst (zs ++ [v])))) fun H2=>H2 a = some (.lst xs)/\H2 b = some (.lst ys)/\J (k + 1) zs H2) /\
   ∀ zs Hc,J xs.length zs Hc->zs.length <= xs.length->Q (.ref D) Hc):jz (Y0 (tMA ta)) n (tMG gt) (tMT tc) (tM te) σ H Q:=by
 refine ⟨_,h,?_⟩
 rintro vs H1 ⟨a,b,xs,ys,rfl,hx,hy,hl,h64,rest⟩
 refine ⟨a,b,xs,ys,rfl,hx,hy,fun D hD=>?_⟩
 obtain ⟨J,j0,step,fin⟩:=rest D hD
 have na:a ≠ D:=bA hx hD
 have nb:b ≠ D:=bA hy hD
 have z64:64 <= sizeLine:=by decide
 refine ⟨fun k m zs Hc=>k <= xs.length/\m = xs.length - k/\zs.length <= k/\Hc a = some (.lst xs)/\Hc b = some (.lst ys)/\J k zs Hc,⟨_,aZ _,rfl,aZ _,(bF na).trans hx,(bF nb).trans hy,j0⟩,?_⟩
 rintro k m zs Hc ⟨hk,rfl,hz,ha',hb',j⟩
 by_cases e:k = xs.length
 .subst e
  exact .inl ⟨⟨xs,ys,ha',hb',.inl (aD _)⟩,fin zs Hc j hz⟩
 .have hlt:k < xs.length:=by omega
  refine .inr ⟨⟨xs,ys,ha',hb',hlt,by omega⟩,?_⟩
  rintro v H'' ⟨xs',ys',x,y,t,e1,e2,e3,e4,e5,rfl,rfl⟩
  rw [ha'] at e1
  rw [hb'] at e2
  cases e1
  cases e2
  refine (step k x y zs Hc t e3 e4 j hz e5 ha' hb').weak ?_ ?_
  .rintro yv H2 ⟨z1,z2,z3,z4⟩
   refine ⟨by omega,z1,xs.length - (k + 1),by omega,by omega,rfl,?_,(bF na).trans z2,(bF nb).trans z3,z4⟩
   rw [au]; simp; omega
  .rintro H2 ⟨z2,z3,z4⟩
   exact ⟨xs.length - (k + 1),by omega,by omega,rfl,by omega,z2,z3,z4⟩
theorem Ot {ta:TA} {g:TG} {tb:TS} {D:Ends} {σ:L2.St} {H:Hp} (h:ta σ H fun vs H1=>∃ a b xs ys,vs = [.ref a,.ref b]/\H1 a = some (.lst xs)/\H1 b = some (.lst ys)/\xs.length = ys.length/\∃ J:Nat->L2.St->Hp->Prop,J 0 σ H1 /\
   (∀ k x y σ' H' t,xs[k]? = some x->ys[k]? = some y->J k σ' H'->H' a = some (.lst xs)->H' b = some (.lst ys)->H' t = none->g (.ref t) σ' (upd H' t (.tup [x,y])) fun σ2 H2=>tb { D with nx:=fun σ3 H3=>H3 a = some (.lst xs)/\H3 b = some (.lst ys)/\J (k + 1) σ3 H3,ct:=fun σ3 H3=>H3 a = some (.lst xs)/\H3 b = some (.lst ys)/\J (k + 1) σ3 H3,bk:=D.nx } σ2 H2) /\
   ∀ σ' H',J xs.length σ' H'->H' a = some (.lst xs)->H' b = some (.lst ys)->D.nx σ' H'):K1 (Y0 (tMA ta)) g tb D σ H:=by
 refine ⟨_,h,?_⟩
 rintro vs H1 ⟨a,b,xs,ys,rfl,hx,hy,hl,J,j0,step,fin⟩
 refine ⟨a,b,xs,ys,rfl,hx,hy,fun k m σ' H'=>k <= xs.length/\m = xs.length - k/\H' a = some (.lst xs)/\H' b = some (.lst ys)/\J k σ' H',⟨_,aZ _,rfl,hx,hy,j0⟩,?_⟩
 rintro k m σ' H' ⟨hk,rfl,ha',hb',j⟩
 by_cases e:k = xs.length
 .subst e
  exact .inl ⟨⟨xs,ys,ha',hb',.inl (aD _)⟩,fin σ' H' j ha' hb'⟩
 .have hlt:k < xs.length:=by omega
  refine .inr ⟨⟨xs,ys,ha',hb',hlt,by omega⟩,fun σ3 H3=>H3 a = some (.lst xs)/\H3 b = some (.lst ys)/\J (k + 1) σ3 H3,fun σ3 H3 ⟨z1,z2,z3⟩=>⟨xs.length - (k + 1),by omega,by omega,rfl,z1,z2,z3⟩,?_⟩
  rintro v H'' ⟨xs',ys',x,y,t,e1,e2,e3,e4,e5,rfl,rfl⟩
  rw [ha'] at e1
  rw [hb'] at e2
  cases e1
  cases e2
  exact step k x y σ' H' t e3 e4 j ha' hb' e5
end L2
namespace L2
open PySem PySem.Spec PyProof.Rows
section
variable {X:Cx} {elt iter:Expr} {pos:Pos} {scope:Scope} {wi:TI} {te:TE}
end
end L2
namespace L2
open PySem PySem.Spec PyProof.Rows
end L2
namespace L2
open PySem PySem.Spec PyProof.Rows
section
variable {X:Cx}
end
end L2
namespace L2
open PySem PySem.Spec PyProof.Rows
section
variable {X:Cx}
end
end L2
namespace L2
open PySem PySem.Spec PyProof.Rows
end L2
namespace L2
open PySem PySem.Spec PyProof.Rows
section
variable {X:Cx}
noncomputable def acU:List V->Hp->VK->Prop:=fun xs H Q=>∃ p kvs,xs = [.ref p]/\H p = some (.dK kvs)/\Q (.int kvs.length) H
theorem CQ:eG X (.builtin "len") acU:=by
 intro pins s σ H xs us Q I r h
 obtain ⟨p,kvs,rfl,hq,q⟩:=h
 obtain ⟨u,rfl,rx⟩:=vals1 r
 cases rx
 obtain ⟨z,y,vs,kv,d⟩:=(show cZ X.prog X.w H s.heap p (.dK kvs) from I.hok p _ hq)
 have hl:=qb
 have hlen:kvs.length = vs.length:=kv.length
 exact call_len_dict y d (by omega) ⟨.int kvs.length,H,I.tok _,⟨_,by rw [hlen]⟩,q⟩
theorem Xd {e:Expr} {ta:TE} {f:Str} {pos:Pos} {K':Frag} (hK:X.K = K') (he:PE X e ta) (hb:attributeBase e f X.env (eval e X.env) = eval e X.env):PE X (.Attribute e f pos) (Sv K' ta f):=hK ▸ pJ he hb
theorem Nm (c:Nat):∀ (n:Nat) (acc:Array Nat),((List.replicate n #[c]).foldl (· ++ ·) acc).toList = acc.toList ++ List.replicate n c
 | 0,acc=>by simp
 | n + 1,acc=>by
  rw [List.replicate_succ,List.foldl_cons,Nm c n,Array.toList_append,List.append_assoc]
  rfl
noncomputable def Yu:R2:=fun x y H Q=>∃ c n,x = .str ⟨#[c]⟩/\y = .int n/\1 <= n/\n <= 1000/\∀ z:Str,z.cps.toList = List.replicate n.toNat c->Q (.str z) H
theorem VD:OpR X (binaryOp .Mult) Yu:=by
 intro pins s σ H x y v u Q I rx ry h
 obtain ⟨c,n,rfl,rfl,h0,h1,q⟩:=h
 obtain ⟨t,rfl⟩:=rx
 obtain ⟨t',rfl⟩:=ry
 have hi:(⟨#[c]⟩ : Str).length = 1:=rfl
 have made:∀ z:Str,z.cps.toList = List.replicate n.toNat c->(Made.str z).post (EP X pins σ Q) s:=fun z hz=>⟨by
  have:z.length = n.toNat:=by
   show z.cps.size = _
   rw [<- Array.length_toList,hz,aL]
  exact aK (show z.length <= 1001 by omega) (by decide),.str z,H,I.tok _,⟨_,rfl⟩,q z hz⟩
 refine PySem.P.mul_str ?_ (fun _ _=>?_) (fun _ _=>?_) ?_
 .rw [decide_eq_false (by omega),decide_eq_false (by omega)]; rfl
 .rw [hi]
  have:1 <= (2 ^ 63 - 1:Int) / n:=Int.le_ediv_of_mul_le (by omega) (by omega)
  omega
 .rw [hi]
  unfold Builtin.Str.tooLong
  exact decide_eq_false (by
   have:n.toNat <= 1000:=by omega
   have e:1000 <= sizeLine:=by decide
   omega)
 .split
  .omega
  .split
   .rename_i hc
    rw [hi] at hc
    have e:n.toNat = 1:=by
     simp at hc
     omega
    refine ⟨.str ⟨#[c]⟩,H,I,⟨t,rfl⟩,q _ ?_⟩
    rw [e]; rfl
   .refine made _ ?_
    show ((List.replicate n.toNat #[c]).foldl (· ++ ·) #[]).toList = _
    rw [Nm]; rfl
theorem OkI.wild {P:Program} {w:World} {K:Frag} {mg:Str->Option Value} {base:Heap} {k:Nat} {f:Addr} {ps:List Str} {sp:Sp} (h:OkI P w K mg base CX0 k f ps sp):OkI P w K mg base (CXO P w) k f ps sp:=let ⟨fd,a,b⟩:=h; ⟨fd,a.wild,b⟩
end
end L2
namespace L2
open PySem PySem.Spec PyProof.Rows
section
variable {X:Cx} {p pos:Pos} {e:Expr} {es:List Expr} {t:TA} {tv:TE} {x:Str} {k:Nat} {ps:List Str} {sp:Sp} {f:Addr}
end
end L2
namespace L2
open PySem PySem.Spec PyProof.Rows
section
variable {prog:Program} {w:World} {A:Around} {E:Value->Shared->Prop} {h:Heap} {g:Array GenState} {d:Drawn} {t:Nat} {os:OsState} {nm q:Str} {C N:Addr} {bs bm bmB:List Value} {hdct:Bool} {sn:List Str} {sub:List Value} {ab:Bool} {col:Option Bool} {dd:Option Addr} {k0 k1 k2 k3 k5:Option Value} {B newId initId:String}
noncomputable abbrev C_ (h:Heap) (C:Addr) (us:List Value):Heap:=(h.push { cls:=.type "tuple",data:=.seq us.toArray }).push { cls:=.ref C,data:=.fields #[.ref h.objs.size,.none,.none,.none,.bool false,.none] }
theorem xP {us:List Value} (b:Addr) (o:Obj) (e:h.get? b = some o):(C_ h C us).get? b = some o:=aF _ (aF _ e)
theorem B_ (F:ExcBaseFacts B newId initId bmB) (T:OwnTail h bmB bm) {mN:Str->Option Value} {us:List Value} {fI:Addr} {oI:Obj} {Q:Fin->Shared->Prop} (hC:h.get? C = some (excClassObj nm q C N bs bm hdct sn sub ab col dd k0 k1 k2 k3 k5 newId)) (hn:h.Ns N mN) (hi:mN "__init__" = some (.ref fI)) (hf:h.get? fI = some oI) (hc:oI.cls = .type "function") (hl:us.length <= sizeLine)
  (hq:wpAny (model prog w) A (call (.ref fI) (.ref (h.objs.size + 1) :: us)) (fun r s'=>r = .none/\Q (.done (.ret (.ref (h.objs.size + 1)))) s') E ⟨C_ h C us,g,d,t,os⟩):wpAny (model prog w) A (Builtin.«type.__call__» ⟨.ref C :: us,[]⟩) Q E ⟨h,g,d,t,os⟩:=by
 have K:=xP (h:=h) (C:=C) (us:=us)
 have C1:=K _ _ hC
 have T1:=T.keeps K
 have at_:(C_ h C us).get? (h.objs.size + 1) = some { cls:=.ref C,data:=.fields #[.ref h.objs.size,.none,.none,.none,.bool false,.none] }:=by heap_get
 have isC:(Value.ref C :: bm).contains (.ref C) = true:=by simp
 repeat (first | with_reducible refine wpAny_loadPart_at hC ?_ | with_reducible refine wpAny_madeBy_exc hC ?_ | wp_step)
 refine codeAny_call_builtin_code (Code.quiet_builtin _ F.quiet) (wpAny_check_new_subT F T hC (codeAny_exc_new_subT F T hC ?_ hl))
 show wpAny _ _ _ _ _ _
 unfold isInstance
 repeat (first | with_reducible refine wpAny_loadPart_at at_ ?_ | (with_reducible refine wpAny_isSubtype_exc C1 ?_; rw [isC]) | wp_step)
 show wpAny _ _ (typeLookup (.ref C) _) _ _ _
 refine wpAny_typeLookup_tail C1 (hn.keeps K) T1 F.mroIs F.init.lookup ?_
 rw [hi]
 refine wpAny_holding (wpAny_bind ?_)
 unfold bindSpecial
 refine wpAny_bind (wpAny_typeOf (T := "function") ⟨_,K _ _ hf,hc⟩ ?_)
 rw [if_pos (by decide)]
 refine wpAny_pure (wpAny_bind (wpAny_mono hq (fun r s' ⟨e,z⟩=>?_) fun _ _ x=>x))
 subst e
 wp_walk
 exact z
theorem U0 (F:ExcBaseFacts B newId initId bmB) (T:OwnTail h bmB bm) {mN:Str->Option Value} {us:List Value} {fI:Addr} {oI:Obj} {Q:Value->Shared->Prop} (hC:h.get? C = some (excClassObj nm q C N bs bm hdct sn sub ab col dd k0 k1 k2 k3 k5 newId)) (hn:h.Ns N mN) (hi:mN "__init__" = some (.ref fI)) (hf:h.get? fI = some oI) (hc:oI.cls = .type "function") (hl:us.length <= sizeLine)
  (hq:wpAny (model prog w) (A.under (.builtin "type.__call__" ⟨.ref C :: us,[]⟩)) (call (.ref fI) (.ref (h.objs.size + 1) :: us)) (fun r s'=>r = .none/\Q (.ref (h.objs.size + 1)) s') E ⟨C_ h C us,g,d,t,os⟩):wpAny (model prog w) A (call (.ref C) us) Q E ⟨h,g,d,t,os⟩:=by
 have a1:=tc_lookup
 have a2:=tc_bind (.ref C)
 have a3:(⟨h,g,d,t,os⟩ : Shared).TypeIs (.ref C) "type" := ⟨_,hC,rfl⟩
 refine wpAny_call (codeAny_of_tree ?_)
 show wpAny _ _ (callAny (.ref C) _) _ _ _
 repeat (any_goals (first | assumption | with_reducible refine wpAny_loadPart_at hC ?_ | wp_step))
 exact ⟨rfl,codeAny_call_builtin_at (Code.quiet_builtin _ (by decide +kernel)) entry_typeCall (wpAny_check_type_call_sub hC (B_ F T hC hn hi hf hc hl hq))⟩
end
end L2
namespace L2
open PySem PySem.Spec PyProof.Rows
noncomputable def Hy:List Value->Bool
 | .ref _ :: l=>Hy l
 | l=>l == bmV
theorem Kp {self:Value} {l:List Value} (h:Hy l = true):refuseLoop self "__setattr__" l = pure ():=by
 induction l with
 | nil=>cases h
 | cons x l ih =>
  cases x with
  | ref C=>rw [refuseLoop_ref]; exact ih h
  | type n =>
   have e:Value.type n :: l = bmV:=beq_iff_eq.mp h
   rw [e]
   exact PySem.F.store_ValueError.passes self
  | _=>exact absurd (beq_iff_eq.mp h) (by intro z; cases z)
structure Ri (K:Frag) (C:Addr):Prop where
 cd:∃ cd,PySem.W.clsIn K C = some cd/\cd.hasDict = true/\Hy cd.mro = true
 sa:PySem.W.findIn K (.ref C) "__setattr__" = some (some (.builtin "object.__setattr__"))
 mo:PySem.W.mroIn K C (.type "object") = some true
section
variable {prog:Program} {w:World} {A:Around} {E:Value->Shared->Prop} {K:Frag} {s:Shared} {x C:Addr} {ox:Obj} {f:Str} {v:Value} {vs:Array Value}
theorem Yo {Q:Unit->Shared->Prop} (X:K.In s.heap) (S:Ri K C) (n:bZ K C f) (hx:s.heap.get? x = some ox) (hc:ox.cls = .ref C) (hd:ox.dict = none) (hv:ox.data = .fields vs)
  (hq:∀ h' t',h'.Ns1 s.heap.objs.size (fun y=>if y = f then some v else none)->h'.get? x = some { ox with dict:=some s.heap.objs.size }->(∀ b,b ≠ x->b ≠ s.heap.objs.size->h'.get? b = s.heap.get? b)->Q () ⟨h',s.gens,s.drawn,t',s.os⟩):wpAny (model prog w) A (setAttr (.ref x) f v) Q E s:=by
 obtain ⟨cd,hcd,hdi,hm⟩:=S.cd
 have J:PySem.W.InstAt s.heap x ox C none:=⟨hx,hc,by unfold PySem.W.notCls; rw [hv],by rw [hd]; trivial⟩
 have SF:=PySem.F.store_object
 refine PySem.W.set_plain X J S.sa ?_
 have sub:PySem.W.Looks (model prog w) s.heap (isInstance (.ref x) (.type "object")) true:=J.type.andThen (PySem.W.looks_mroIn X S.mo)
 have lm:PySem.W.Looks (model prog w) s.heap (mroOf (.ref C)) cd.mro:=(PySem.W.looks_clsIn X hcd).andThen .now
 generalize hs1:({ s with toks:=s.toks + 1 } : Shared) = s1
 have e1:s1.heap = s.heap:=by rw [<- hs1]
 rw [<- e1] at sub lm X J
 refine codeAny_call_builtin SF.slot.plain SF.entry (@PySem.W.check_slot (model prog w) _ _ s1 "object.__setattr__" "object" "__setattr__" (.ref x) [.str f s.toks,v] [] _ SF.kind SF.split sub (SF.args (.ref x) (.str f s.toks) v) ?_)
 rw [PySem.W.osa_eq,refuse_eq]
 refine wpAny_bind (wpAny_bind (J.type.here (wpAny_bind (lm.here ?_))))
 rw [Kp hm]
 refine wpAny_pure (wpAny_bind (J.type.here (wpAny_bind ((PySem.W.looks_findIn X n).here (wpAny_bind (wpAny_pure ?_))))))
 have hx1:s1.heap.get? x = some ox:=by rw [e1]; exact hx
 obtain ⟨oc,odi,oda,osl⟩:=ox
 dsimp only at hc hd hv
 subst hc hd hv
 refine wpAny_bind (wpAny_pure (wpAny_bind (wpAny_bind (wpAny_loadPart hx1 (wpAny_bind ((PySem.W.looks_clsIn X hcd).here ?_))))))
 rw [hdi,if_neg (by simp),if_neg (by simp [typeHasDict])]
 have e0:=hs1
 obtain ⟨hp,gg,dr,tk,os⟩:=s1
 dsimp only at hx1 e1 ⊢
 cases e0
 have hxs:x ≠ s.heap.objs.size:=aP (aH hx)
 refine wpAny_bind (wpAny_alloc' (wpAny_bind (wpAny_update' (aF _ hx) (wpAny_pure ?_))))
 generalize hu:(s.heap.push { cls:=.type "dict",data:=.dict #[] }).update x _ = hU
 have q1:hU.get? s.heap.objs.size = some { cls:=.type "dict",data:=.dict #[] }:=by
  rw [<- hu]; exact (Heap.get?_update_ne _ _ _ _ hxs.symm).trans (Heap.get?_push_at rfl rfl)
 have q2:hU.get? x = some { cls:=.ref C,dict:=some s.heap.objs.size,data:=.fields vs,slots:=osl }:=by
  rw [<- hu]; exact Heap.get?_update_self _ (aF _ hx) rfl
 have q3:∀ b,b ≠ x->b ≠ s.heap.objs.size->hU.get? b = s.heap.get? b:=fun b n1 n2=>by
  rw [<- hu]; exact (Heap.get?_update_ne _ _ _ _ n1).trans (Heap.get?_push_ne _ _ _ n2)
 dsimp only
 unfold Builtin.ObjectAttr.storeInDict Builtin.ObjectAttr.newKeyGuard
 refine wpAny_bind (wpAny_pure (wpAny_bind (wpAny_nsSet1 (Heap.Ns1.of_empty ⟨_,#[],_,q1,rfl,fun _ z=>absurd z (by simp),fun _=>rfl⟩) fun h' hn hs=>?_)))
 obtain ⟨oD,esD,epD,hoD,hdD,hcD⟩:=hn.count (Within.cons f v Within.nil)
 refine wpAny_bind (wpAny_lookBehind hoD (by rw [hdD]; exact pastItsLine_dict (aK hcD (by rw [List.length_cons,List.length_nil,sizeLine_eq]; omega))) ?_)
 wp_walk
 exact hq h' _ hn ((hs.2 x hxs).trans q2) fun b n1 n2=>(hs.2 b n2).trans (q3 b n1 n2)
end
end L2
namespace L2
open PySem PySem.Spec PyProof.Rows
structure Jd (K:Frag) (C HE fI:Addr):Prop where
 ex:∃ nm qn N bs sn sub ab col dd k0 k1 k2 k3 k5,K.lookup C = some (excClassObj nm qn C N bs (.ref HE :: bmV) true sn sub ab col dd k0 k1 k2 k3 k5 "ValueError.__new__")/\PySem.W.nsOkIn K N = true/\PySem.W.nsIn K N "__init__" = some (some (.ref fI))
 he:GD K HE
 fn:∃ o,K.lookup fI = some o/\o.cls = .type "function"
 kp:PySem.W.keepIn K (.ref C) = true
theorem XM {K:Frag} {h:Heap} {N:Addr} {m:Str->Option Value} {n:Str} {v:Value} (X:K.In h) (G:h.Ns N m) (e:PySem.W.nsIn K N n = some (some v)):m n = some v:=by
 obtain ⟨o,es,ep,ho,hd,_,hf⟩:=G
 rw [<- hf]
 unfold PySem.W.nsIn at e
 split at e
 .rename_i q
  cases (X _ _ q).symm.trans ho
  cases hd
  unfold nsFind findBy
  rw [<- Array.find?_toList]
  split at e
  .rename_i en he
   cases e
   rw [he]; rfl
  .split at e <;> cases e
 .cases e
theorem Jd.obj {K:Frag} {h:Heap} {C HE fI:Addr} (q:Jd K C HE fI) (X:K.In h):∃ nm qn N bs sn sub ab col dd k0 k1 k2 k3 k5 mN o,h.get? C = some (excClassObj nm qn C N bs (.ref HE :: bmV) true sn sub ab col dd k0 k1 k2 k3 k5 "ValueError.__new__") /\
  h.Ns N mN/\mN "__init__" = some (.ref fI)/\h.get? fI = some o/\o.cls = .type "function" /\ OwnTail h bmV (.ref HE :: bmV):=by
 obtain ⟨nm,qn,N,bs,sn,sub,ab,col,dd,k0,k1,k2,k3,k5,l,a,b⟩:=q.ex
 obtain ⟨o,lo,ho⟩:=q.fn
 obtain ⟨bm,N',nm',qn',bs',hd',sn',sub',ab',col',dd',k0',k1',k2',k3',k5',mN',hC,hN,hi,T⟩:=MF X q.he
 exact ⟨nm,qn,N,bs,sn,sub,ab,col,dd,k0,k1,k2,k3,k5,_,o,X _ _ l,.of_isNs (PySem.W.isNs_of_in X a),XM X (.of_isNs (PySem.W.isNs_of_in X a)) b,X _ _ lo,ho,.own hC hN hi .base⟩
noncomputable abbrev Ik (C t:Addr) (d:Option Addr):Obj:={ cls:=.ref C,dict:=d,data:=.fields #[.ref t,.none,.none,.none,.bool false,.none] }
noncomputable def XN (a C:Addr) (d:Option Addr):HO:=.ext fun h=>∃ t,h.get? a = some (Ik C t d)
theorem QM {P:Program} {w:World} {H:Hp} {h:Heap} {a C t:Addr} {d:Option Addr} (e:h.get? a = some (Ik C t d)):cZ P w H h a (XN a C d):=⟨⟨t,e⟩,⟨_,e⟩,fun _ _ ⟨u,z⟩ k=>⟨u,k _ z⟩⟩
theorem Ni {P:Program} {w:World} {H:Hp} {h:Heap} {a C:Addr} {d:Option Addr} (e:cZ P w H h a (XN a C d)):∃ t,h.get? a = some (Ik C t d):=e.1
theorem Y9 {H:Hp} {a:Addr} {o:HO} (e:H a = some o):upd H a o = H:=by
 funext b; unfold upd; split
 .rename_i z; rw [z,e]
 .rfl
structure Rg (K:Frag) (B:Addr):Prop where
 ga:PySem.W.specialIn K (.ref B) "__getattribute__" = some (some (.builtin "type.__getattribute__"))
 rd:PySem.W.readsIn K B (.type "type") = true
 at_:PySem.W.findCls K (.ref B) (.type "type") "__init__" = some (.val (.builtin "ValueError.__init__"))
section
variable {X:Cx} {B C HE fI:Addr} {x:Str} {p pos apos:Pos} {e:Expr} {es:List Expr} {t:TA} {pins:List (Addr × Obj)} {σ:L2.St} {H:Hp} {s:Shared}
theorem init_exc {A:Around} {E:Value->Shared->Prop} {Q:Value->Shared->Prop} {a:Addr} {us:List Value} (I:Inv X pins σ H s) (q:Jd X.K C HE fI) (ha:H a = some (XN a C none)) (hl:us.length <= sizeLine)
  (h:∀ s',Inv X pins σ H s'->Q .none s'):wpAny (model X.prog X.w) A (call (.builtin "ValueError.__init__") (.ref a :: us)) Q E s:=by
 obtain ⟨nm,qn,N,bs,sn,sub,ab,col,dd,k0,k1,k2,k3,k5,mN,o,hC,hN,hi,hf,hfc,T⟩:=q.obj I.kIn
 obtain ⟨u,hx⟩:=Ni (I.hok a _ ha)
 have F:=PySem.F.excBase_ValueError
 obtain ⟨hp,gs,dr,tk,os⟩:=s
 refine wpAny_call (codeAny_call_builtin F.init.plain F.initEntry (wpAny_check_init_subT F T hC hx rfl ?_))
 wp_walk
 refine h _ ?_
 have e1:(hp.push { cls:=.type "tuple",data:=.seq us.toArray }).get? a = some (Ik C u none):=aF _ hx
 have J:=I.write (x:=a) (e:=a) (o:=XN a C none) (t':=tk) (h':=(hp.push { cls:=.type "tuple",data:=.seq us.toArray }).update a (Obj.mapFields fun x=>x.setIfInBounds 0 (Value.ref hp.objs.size))) (by rw [ha]; trivial) (.inl rfl)
  (fun b v n z=>(Heap.get?_update_other _ _ (Ne.symm n)).trans (aF _ z)) ⟨_,Heap.get?_update_self _ e1 rfl⟩ (QM (t:=hp.objs.size) (Heap.get?_update_self _ e1 rfl))
 rwa [Y9 ha] at J
noncomputable def Zo (C:Addr) (t:TA):TE:=fun σ H Q=>t σ H fun vs H1=>∃ a ws,vs = .ref a :: ws/\H1 a = some (XN a C none)/\ws.length <= sizeLine/\Q .non H1
theorem Rb {pl:Sem Bool} (c:Rg X.K B) (q:Jd X.K C HE fI) (hg:Gl X x) (hm:X.mg x = some (.ref B)) (ha:PA X (e :: es) t) (hdb:(x == ("__debug__" : Str)) = false:=by decide)
  (hst:starEach (e :: es) X.env = (false,eval e X.env) :: starEach es X.env:=by rfl) (hpl:(backTo pos (starEach es X.env)).any (·.1) = false:=by rfl)
  (ht:eval (.Call (.Attribute (.Name x p) "__init__" apos) (e :: es) [] pos) X.env = (do
   let ov <- eval (.Name x p) X.env
   standAt apos.atName
   let (f,first) <- holding [ov] (getMethod ov "__init__" pl)
   callWith pos f first (backTo pos (starEach (e :: es) X.env)) (backToKw pos (keywordEach [] X.env))):=by rfl) :
  PE X (.Call (.Attribute (.Name x p) "__init__" apos) (e :: es) [] pos) (Zo C t):=by
 intro pins s σ H Q I h
 refine PySem.W.methodCall_KW (pl:=pl) (lU I hg hm (PySem.W.method_cls I.kIn c.ga (PySem.W.cls_value I.kIn c.rd c.at_ (by decide) ?_)) hdb) ht
 show wpAny _ _ (callWith pos (.builtin "ValueError.__init__") [] (backTo pos (starEach (e :: es) X.env)) []) _ _ _
 have h2:=ha pos pins _ σ H _ (I.tok (s.toks + 1)) h
 rw [hst] at h2 ⊢
 refine PySem.W.callWith_of (P:=fun _=>True) (by show ((false || (backTo pos (starEach es X.env)).any (·.1)) || false) = false; rw [hpl]; rfl) (fun _ _=>⟨.machine,.inr (.inl rfl),.now⟩) (Calls.evalArgs_plain (thn h2 fun us s2 ⟨vs,H2,I2,r,a,ws,e1,e2,e3,e4⟩=>⟨trivial,?_⟩))
 subst e1
 cases r with
 | cons r1 r2 =>
  cases r1
  exact init_exc I2 q e2 (by rw [<- r2.length]; exact e3) fun s' J=>⟨.non,H2,J,rfl,e4⟩
end
end L2
namespace L2
open PySem PySem.Spec PyProof.Rows
section
variable {X:Cx} {pins:List (Addr × Obj)} {σ:L2.St} {H:Hp} {s:Shared} {a C HE fI:Addr} {f:Str} {v:V} {A:Around} {E:Value->Shared->Prop}
theorem PN {u:Value} {Q:Unit->Shared->Prop} (I:Inv X pins σ H s) (e:H a = some (XN a C none)) (c:Ri X.K C) (n:bZ X.K C f) (r:RelV v u)
  (h:∀ d s',H d = none->d ≠ a->Inv X pins σ (upd (upd H a (XN a C (some d))) d (.xd [(f,v)])) s'->Q () s'):wpAny (model X.prog X.w) A (setAttr (.ref a) f u) Q E s:=by
 obtain ⟨t,ha⟩:=Ni (I.hok a _ e)
 have nd:H s.heap.objs.size = none:=I.hok.fresh (aD _)
 have na:s.heap.objs.size ≠ a:=(aP (aH ha)).symm
 refine Yo I.kIn c n ha rfl rfl rfl fun h' t' hn hx ho=>h s.heap.objs.size _ nd na ?_
 have J:=I.write (x:=a) (e:=a) (o:=XN a C (some s.heap.objs.size)) (t':=t') (h':=h') (by rw [e]; trivial) (.inl rfl) (fun b w z q=>(ho b z (aP (aH q))).trans q) ⟨_,hx⟩ (QM hx)
 refine J.track ((bF na).trans nd) (Heap.get?_none_of_le I.sz) (Nat.ne_of_gt I.lt) (fun x c q z=>?_) (fun p q z=>?_) ⟨_,hn,fun g=>?_⟩
 .obtain ⟨w,o,q',_⟩:=I.cell x c q
  rw [z] at q'
  exact Nat.lt_irrefl _ (aH q')
 .have q':=(I.pin p q).1
  rw [z] at q'
  exact Nat.lt_irrefl _ (aH q')
 .by_cases z:g = f
  .subst z
   simp [List.lookup]
   exact r
  .have:(g == f) = false:=by simp [z]
   simp [List.lookup,this,z]
   trivial
noncomputable def aaK (K:Frag) (ta tv:TE) (f:Str):TS:=fun D σ H=>tv σ H fun y H1=>ta σ H1 fun x H2=>∃ a C,x = .ref a/\H2 a = some (XN a C none)/\Ri K C/\bZ K C f/\∀ d,H2 d = none->d ≠ a->D.nx σ (upd (upd H2 a (XN a C (some d))) d (.xd [(f,y)]))
theorem XS {o value:Expr} {ta tv:TE} {pos pos':Pos} (ha:PE X o ta) (hv:PE X value tv) (hs:swapsWith value (some (.Attribute o f pos')) pos.line X.env = pure false):PS X (.Assign [.Attribute o f pos'] value pos) (aaK X.K ta tv f):=by
 intro pins s σ H D I h
 refine plainObj_wpAny_Assign_Attribute (thn (hv pins s σ H _ I h) fun u s1 ⟨y,H1,I1,ry,q⟩=>thn (ha pins s1 σ H1 _ I1 q) fun ov s2 ⟨x,H2,I2,rx,a,C,ex,ea,c,n,q2⟩=>?_) hs
 subst ex
 obtain rfl:ov = Value.ref a:=rx
 exact PN I2 ea c n ry fun d s3 h1 h2 I3=>⟨σ,_,I3,q2 d h1 h2⟩
theorem Inv.madeE {us:List Value} (I:Inv X pins σ H s):Inv X pins σ (upd H (s.heap.objs.size + 1) (XN (s.heap.objs.size + 1) C none)) { s with heap:=C_ s.heap C us } :=
 I.laid (a:=s.heap.objs.size + 1) (o:=XN (s.heap.objs.size + 1) C none) (h':=C_ s.heap C us) (t':=s.toks) xP (Nat.le_succ _) (QM (t:=s.heap.objs.size) (by heap_get))
theorem Pg {k:Nat} {fd:FuncData} {ps:List Str} {sp:Sp} {us:List Value} {vs:List V} {Q:Addr->Hp->Prop} (q:Jd X.K C HE fI) (F:cj X.prog X.w X.K X.mg X.base CX0 k fI fd ps sp) (hr:fW (k + 1) X.A) (hb:Binds X.K fd ps [])
  (I:Inv X pins σ H s) (r:Vals vs us) (hl:us.length <= sizeLine) (h:∀ x,H x = none->sp (.ref x :: vs) (upd H x (XN x C none)) (fun v H2=>v = .non/\Q x H2) E0) :
  wpAny (model X.prog X.w) X.A (call (.ref C) us) (fun u s'=>∃ a H',u = .ref a/\X.s₀.heap.objs.size <= a/\Inv X pins σ H' s'/\Q a H') X.xe s:=by
 obtain ⟨nm,qn,N,bs,sn,sub,ab,col,dd,k0,k1,k2,k3,k5,mN,o,hC,hN,hi,hf,hfc,T⟩:=q.obj I.kIn
 have hq:=h (s.heap.objs.size + 1) (I.hok.fresh (Nat.le_succ _))
 have I2:=I.madeE (C:=C) (us:=us)
 have r2:Vals (V.ref (s.heap.objs.size + 1) :: vs) (Value.ref (s.heap.objs.size + 1) :: us):=.cons rfl r
 have hl2:(Value.ref (s.heap.objs.size + 1) :: us ++ []).length = ps.length:=by
  rw [List.append_nil,<- r2.length]
  exact F.len _ _ _ _ hq
 have hb':=hb _ (Value.ref (s.heap.objs.size + 1) :: us) I2.kIn hl2
 rw [List.append_nil] at hb'
 have sz:=I.sz
 obtain ⟨hp,g,d,t,os⟩:=s
 refine U0 PySem.F.excBase_ValueError T hC hN hi hf hfc hl (wpAny_call (codeAny_mono (F.run _ X.stack _ _ ⟨Value.ref (hp.objs.size + 1) :: us,[]⟩ _ _ _ E0 (hr.make C us []) (I2.env0.make C us []) hb' r2 hq) fun r s' hq'=>?_))
 cases r with
 | error e=>exact Uk pins σ _ _ e s' I2 hq'
 | ok fl =>
  cases fl with
  | ret u =>
   obtain ⟨v,H',I3,rv,ev,q3⟩:=I2.after hq'
   subst ev
   exact ⟨rv,hp.objs.size + 1,H',rfl,Nat.le_succ_of_le sz,I3,q3⟩
  | next=>exact False.elim hq'
  | brk=>exact False.elim hq'
  | cont=>exact False.elim hq'
end
end L2
namespace L2
open PySem PySem.Spec PyProof.Rows
noncomputable def out (H:Hp) (a:Addr):Hp:=fun b=>if b = a then none else H b
theorem I8 {H:Hp} {a:Addr} : out H a a = none:=by unfold out; rw [if_pos rfl]
theorem rm {H:Hp} {a b:Addr} (n:b ≠ a):out H a b = H b:=by unfold out; rw [if_neg n]
theorem IK {H:Hp} {a b:Addr} {o:HO} (e:out H a b = some o):b ≠ a/\H b = some o:=by
 by_cases z:b = a
 .subst z; rw [I8] at e; cases e
 .exact ⟨z,by rw [rm z] at e; exact e⟩
section
variable {X:Cx} {pins:List (Addr × Obj)} {σ:L2.St} {H:Hp} {s:Shared} {a C:Addr} {B h':Heap} {d:Option Addr}
theorem Inv.flyMade (I:Inv X pins σ H s) (hx:X.ex = []) (e:H a = some (XN a C d)) (sz:X.s₀.heap.objs.size <= a) (hB:B = PySem.W.hideAll (s.heap.hide a) (frs X.stack)) (fl:pG B X.outer a (.ref C) d .none h') (up:s.heap.UpToSlots h') :
  Fly X.prog X.w X.outer X.H₀ X.s₀ a (.ref C) (out H a) { s with heap:=h' } B d:=by
 have inB:∀ b o,b ≠ a->s.heap.get? b = some o->b ∉ frs X.stack->B.get? b = some o:=fun b o n q m=>by rw [hB]; exact PySem.W.hideAll_get _ ((Heap.hide_ne _ n).trans q) m
 have ni:∀ b u,H b = some u->b ∉ frs X.stack:=fun b u q z=>by rw [I.stkFree b z] at q; cases q
 have trk:∀ b u o,b ≠ a->H b = some u->s.heap.get? b = some o->B.get? b = some o:=fun b u o n q r=>inB b o n r (ni b u q)
 have na:∀ b,H b = none->b ≠ a:=fun b q z=>by rw [z,e] at q; cases q
 have nf:∀ b ∈ frs X.stack,∀ o,s.heap.get? b = some o->∀ vs,o.data ≠ .fields vs:=fun b hb o q=>by
  obtain ⟨_,o',e',z⟩:=I.stack.mem hb
  rw [q] at e'
  cases e'
  exact z
 have hok:HOk X.prog X.w (out H a) h':=fun b u q=>by
  obtain ⟨n,q⟩:=IK q
  refine (I.hok b u q).stay (fun c v hc r=>?_) (fun c r=>?_) fun c xs r=>?_
  .rcases hc with z | z
   .subst z; exact fl.1 c v (trk c u v n q r)
   .exact fl.1 c v (trk c _ v (eV z e (by intro z; cases z)) z r)
  .rw [rm (eV r e (by intro z; cases z))]; exact r
  .rw [rm (eV r e (by intro z; cases z))]; exact r
 have un:Un (frs X.stack) [a] H (out H a) s.heap h':=by
  refine ⟨fun b o q n hb _=>fl.1 b o (inB b o (na b n) q hb),fun b o q n hb _=>up b o q (nf b hb o q),fun b o _ n _=>by rw [rm (na b n)]; exact n,fun b o q hb=>?_,fun b xs q=>?_,fun b o u q=>?_,fun b ps q=>⟨#[],?_⟩⟩
  .by_cases m:b ∈ frs X.stack
   .obtain ⟨sl,r⟩:=up b o q (nf b m o q)
    exact ⟨_,r⟩
   .exact ⟨o,fl.1 b o (inB b o (by simpa using hb) q m)⟩
  .rw [rm (eV q e (by intro z; cases z))]; exact q
  .rw [rm (eV q e (by intro z; cases z))]; exact q
  .rw [rm (eV q e (by intro z; cases z)),q]; simp
 have J:Inv X pins σ (out H a) { s with heap:=h' }:=I.call' (s':={ s with heap:=h' }) (ch:=[a]) rfl un hok I.bare fun b hb=>by
  obtain rfl:b = a:=by simpa using hb
  exact ⟨.inr sz,(fun z=>by have:=I.free; rw [<- z,e] at this; cases this),(fun x c q z=>by have:=I.freeC x c q; rw [z,e] at this; cases this),(fun p hp z=>by have:=(I.pin p hp).2.1; rw [z,e] at this; cases this)⟩
 have lta:∀ b o,X.s₀.heap.get? b = some o->b ≠ a:=fun b o q z=>Nat.lt_irrefl a (aQ (z ▸ aH q) sz)
 refine ⟨J.os,J.bare,Heap.get?_none_of_le sz,by have:=J.base; rw [hx] at this; exact this,J.hok,fun b hb=>?_,fl,fun b o q hb hc=>?_⟩
 .obtain ⟨_,o,ho,_⟩:=I.ok.funs.mem hb
  exact J.base.free b o ho (I.ok.frf b hb) fun z=>I.ok.exfs b z hb
 .have fin:∀ v,B.get? b = some v->B.get? b = some o:=fun v y=>by
   have e2:=fl.1 b v y
   rw [show ({ s with heap:=h' } : Shared).heap.get? b = h'.get? b from rfl,e2] at q
   cases q
   exact y
  rcases hc with ⟨u,r⟩ | ⟨u,r⟩
  .obtain ⟨⟨v,z⟩,n⟩:=I.old hx r
   exact fin v (inB b v (lta b u r) z (I.nostk n hb))
  .obtain ⟨n,r⟩:=IK r
   obtain ⟨o',e'⟩:=(I.hok b u r).there
   exact fin o' (trk b u o' n r e')
end
noncomputable def U4 (X:Cx) (Ex:Value->Option Addr->L2.St->Hp->Prop):Prop :=
 ∀ pins σ H s a C d,Inv X pins σ H s->H a = some (XN a C d)->X.s₀.heap.objs.size <= a->Ex (.ref C) d σ (out H a)->X.xe (.ref a) s
section
variable {P:Program} {w:World} {K:Frag} {mg:Str->Option Value} {base:Heap} {N:List Str} {qual:Str} {scope:Scope} {f:Addr} {cd:Value} {A:Around} {outer:List Env} {s:Shared} {H:Hp} {E:XK}
theorem Qe:U4 (A_ (CXO P w) P w K mg base N qual scope f cd A outer s H E) (fun C d _ H'=>E C d H'):=by
 intro pins σ H1 s1 a C d I e sz q
 show wpAny _ _ (leaving _ (.ref a)) _ _ _
 have hin:∀ env ∈ (envOfC qual scope s.heap.objs.size f cd :: outer),∀ b,env.frame = some b->b ∈ frs (envOfC qual scope s.heap.objs.size f cd :: outer):=fun env he b hb=>List.mem_filterMap.mpr ⟨env,he,hb⟩
 obtain ⟨t,ha⟩:=Ni (I.hok a _ e)
 have fr:(s1.heap.hide a).FunFrames base (envOfC qual scope s.heap.objs.size f cd :: outer):=PySem.W.funFrames_hideAll (as:=[a]) I.stack fun env he b hb z=>by
  obtain rfl:b = a:=by simpa using hb
  have:=I.stkFree b (hin env he b z)
  rw [e] at this; cases this
 refine Cw (base:=PySem.W.hideAll (s1.heap.hide a) (frs (envOfC qual scope s.heap.objs.size f cd :: outer))) (h0:=s1.heap.hide a) (outer:=outer) I.ok.frames rfl (fun b o q=>PySem.W.of_hideAll _ q) (PySem.W.funFrames_hide fr hin) (fun b o q=>Heap.of_hide q) (Heap.hide_self _ _) ha rfl rfl fun h' fl up=>?_
 exact ⟨a,.ref C,d,out H1 a,_,rfl,I.flyMade rfl e sz rfl fl up,q⟩
end
section
variable {prog:Program} {w:World} {A:Around} {E:Value->Shared->Prop} {s:Shared} {env:Env} {nm qn:Str} {C N:Addr} {bs bm:List Value} {hd:Bool} {sn:List Str} {sub:List Value} {ab:Bool} {col:Option Bool} {dd:Option Addr} {k0 k1 k2 k3 k5:Option Value}
theorem Ql {x:Sem Value} {Q:Flow->Shared->Prop} (hb:bm.contains (.type "BaseException") = true) (hh:A.handled = none)
  (h:wpAny (model prog w) A x (fun v s1=>∃ a t d,v = .ref a/\s1.heap.get? C = some (excClassObj nm qn C N bs bm hd sn sub ab col dd k0 k1 k2 k3 k5 "ValueError.__new__")/\s1.heap.get? a = some (Ik C t d)/\E (.ref a) s1) E s):wpAny (model prog w) A (raiseStmt env (some x) none) Q E s:=by
 have hB:(Value.ref C :: bm).contains (.type "BaseException") = true:=by rw [List.contains_cons,hb,Bool.or_true]
 unfold raiseStmt
 refine wpAny_bind (wpAny_mono h (fun v s1 z=>?_) fun _ _ z=>z)
 obtain ⟨a,t,d,rfl,hC,ha,hE⟩:=z
 obtain ⟨hp,gs,dr,tk,os⟩:=s1
 repeat (first | with_reducible refine wpAny_loadPart_at ha ?_ | with_reducible refine wpAny_loadPart_at hC ?_ | (with_reducible refine wpAny_isSubtype_exc hC ?_; rw [hB]) | wp_step)
 exact wpAny_raiseNew_none hh hE
end
section
variable {X:Cx} {x:Str} {np cpos pos:Pos} {e₀:Expr} {rest:List Expr} {ta:TA} {C HE fI:Addr} {Ex:Value->Option Addr->L2.St->Hp->Prop} {k:Nat} {ps:List Str} {sp:Sp}
noncomputable def Gh (C:Addr) (sp:Sp) (Ex:Value->Option Addr->L2.St->Hp->Prop) (ta:TA):TS:=fun _ σ H=>ta σ H fun vs H1=>vs.length <= sizeLine/\∀ a,H1 a = none->sp (.ref a :: vs) (upd H1 a (XN a C none)) (fun v H2=>v = .non/\∃ d,H2 a = some (XN a C d)/\Ex (.ref C) d σ (out H2 a)) E0
theorem Px (hc:X.calm = true) (hg:Gl X x) (hm:X.mg x = some (.ref C)) (q:Jd X.K C HE fI) (G:OkI X.prog X.w X.K X.mg X.base CX0 k fI ps sp) (hr:fW (k + 1) X.A) (hx:U4 X Ex) (ha:PA X (e₀ :: rest) ta) (hdb:(x == ("__debug__" : Str)) = false:=by decide)
  (he:starEach (e₀ :: rest) X.env = (false,eval e₀ X.env) :: starEach rest X.env:=by rfl) (hpl:(backTo cpos (starEach rest X.env)).any (·.1) = false:=by rfl) :
  PS X (.Raise (some (.Call (.Name x np) (e₀ :: rest) [] cpos)) none pos) (Gh C sp Ex ta):=by
 obtain ⟨fd,F,hb⟩:=G
 intro pins s σ H D I h
 obtain ⟨nm,qn,N,bs,sn,sub,ab,col,dd,k0,k1,k2,k3,k5,mN,o,hC,hN,hi,hf,hfc,T⟩:=q.obj I.ok.mod.kin
 rw [arm_exec_Raise]
 refine wpAny_bind (wpAny_standAt (Ql (C:=C) (nm:=nm) (qn:=qn) (N:=N) (bs:=bs) (bm:=.ref HE :: bmV) (hd:=true) (sn:=sn) (sub:=sub) (ab:=ab) (col:=col) (dd:=dd) (k0:=k0) (k1:=k1) (k2:=k2) (k3:=k3) (k5:=k5) (T.hasType (by decide)) (I.ok.hd hc) ?_))
 refine wpAny_bind (thn (Q:=fun u s1=>∃ a H' d,u = .ref a/\X.s₀.heap.objs.size <= a/\Inv X pins σ H' s1/\H' a = some (XN a C d)/\Ex (.ref C) d σ (out H' a)) ?_ fun u s1 ⟨a,H',d,e1,e2,I1,e3,e4⟩=>wpAny_bind (wpAny_standAt (wpAny_pure ?_)))
 .refine wpAny_Call_Name_kw (lU I hg hm ?_ hdb)
  refine PySem.W.callWith_K (h₀:=X.base) I.ok.mod.kin q.kp (thn (ha cpos pins s σ H _ I h) fun us s1 ⟨vs,H1,I1,r,hl,q1⟩=>⟨I1.kIn,?_⟩) he hpl
  exact thn (Pg (Q:=fun a H2=>∃ d,H2 a = some (XN a C d)/\Ex (.ref C) d σ (out H2 a)) q F hr hb I1 r (by show us.length <= _; rw [<- r.length]; exact hl) q1) fun u s2 ⟨a,H2,e1,e2,I2,d,e3,e4⟩=>⟨a,H2,d,e1,e2,I2,e3,e4⟩
 .obtain ⟨t,ht⟩:=Ni (I1.hok a _ e3)
  exact ⟨a,t,d,e1,I1.bk _ _ hC,ht,hx pins σ H' s1 a C d I1 e3 e2 e4⟩
end
end L2
namespace L2
open PySem PySem.Spec PyProof.Rows
section
variable {prog:Program} {w:World} {A:Around} {E:Value->Shared->Prop} {h:Heap} {g:Array GenState} {d:Drawn} {t:Nat} {os:OsState} {a C:Addr} {o:Obj} {od:Option Obj} {K:Frag} {f:Str} {u:Value}
theorem K3 {tk:Tok} {fl b:Bool} {Q:Value->Shared->Prop} (X:K.In h) (T:yx K C) (J:PySem.W.InstAt h a o C od) (hx:h.get? a = some o) (hc:o.cls = .ref C) (hf:PySem.W.findObj K C od f = some (.value u)) (hh:PySem.W.handedIn u = true) (hq:Q u ⟨h,g,d,t,os⟩) :
  wpAny (model prog w) A (getAttrBy (.ref a) (.str f tk) fl b) Q E ⟨h,g,d,t,os⟩:=by
 have f3:=F.excAttr_ValueError.ga.bind (.ref a)
 have n2:(Value.builtin "BaseException.__getattribute__" == Value.builtin "object.__getattribute__") = false:=by decide +kernel
 have n1:(onTheHeap (Value.ref C) && Value.builtin "BaseException.__getattribute__" == Value.builtin "object.__getattribute__") = false:=by rw [n2]; exact Bool.and_false _
 have LT:=ig (M:=model prog w) hx hc
 have LG:=PySem.W.looks_findIn (M:=model prog w) X T.ga
 have LN:=PySem.W.looks_findIn (M:=model prog w) X T.gn
 have LF:=PySem.W.looks_find (M:=model prog w) X J hf
 repeat (any_goals (first | assumption | with_reducible refine LT.at ?_ | with_reducible refine LG.at ?_ | with_reducible refine LN.at ?_ | (with_reducible refine wpAny_loadPart_at hx ?_; rw [hc]) | wp_step))
 rw [if_neg (show ¬ (b && onTheHeap (Value.builtin "BaseException.__getattribute__")) = true from by rw [show onTheHeap (Value.builtin "BaseException.__getattribute__") = false from rfl,Bool.and_false]; exact bh)]
 repeat (any_goals (first | assumption | wp_step))
 refine codeAny_call_builtin F.excAttr_ValueError.ga.plain F.entry_bexc_ga (vQ X T hx hc ?_)
 repeat (any_goals (first | assumption | with_reducible refine LT.at ?_ | with_reducible refine LF.at ?_ | wp_step))
 show wpAny _ _ (handedOut u) _ _ _
 rw [PySem.W.handedOut_of hh]
 exact wpAny_pure hq
end
section
variable {X:Cx} {pins:List (Addr × Obj)} {σ:L2.St} {H:Hp} {s:Shared} {a d C:Addr} {fs:List (Str × V)} {f:Str} {v:V} {A:Around} {E:Value->Shared->Prop}
theorem Oz {b:Bool} {Q:Value->Shared->Prop} (I:Inv X pins σ H s) (e:H a = some (XO a C (some d))) (ed:H d = some (.xd fs)) (c:yx X.K C) (hh:PySem.W.hasDictIn X.K C = true) (n:bZ X.K C f) (l:fs.lookup f = some v)
  (h:∀ u s',Inv X pins σ H s'->RelV v u->Q u s'):wpAny (model X.prog X.w) A (getAttr (.ref a) f b) Q E s:=by
 obtain ⟨ox,hx,hc,hd,vs,hv⟩:=(I.hok a _ e).1
 obtain ⟨mA,hn,r⟩:=I.hok d _ ed
 obtain ⟨od,ho,hl⟩:=Dv hn
 obtain ⟨u,hu,ru⟩:=qU.some_of (v:=v) (o:=mA f) (by rw [<- l]; exact r f)
 have J:PySem.W.InstAt s.heap a ox C (some od):=⟨hx,hc,by unfold PySem.W.notCls; rw [hv],by rw [hd]; exact ho⟩
 have I2:=I.tok (s.toks + 1)
 have kI:=I.kIn
 obtain ⟨hp,g,dr,t,os⟩:=s
 unfold getAttr
 repeat (first | exact K3 kI c J hx hc (PySem.W.findObj_own hh n rfl (by rw [hl,hu])) (Du ru) (h u _ I2 ru) | wp_step)
noncomputable def YH (K:Frag) (ta:TE) (f:Str):TE:=fun σ H Q=>ta σ H fun x H1=>∃ a C d fs v,x = .ref a/\H1 a = some (XO a C (some d))/\H1 d = some (.xd fs)/\yx K C/\PySem.W.hasDictIn K C = true/\bZ K C f/\fs.lookup f = some v/\Q v H1
theorem Xf {e:Expr} {ta:TE} {pos:Pos} (he:PE X e ta) (hb:attributeBase e f X.env (eval e X.env) = eval e X.env):PE X (.Attribute e f pos) (YH X.K ta f):=by
 intro pins s σ H Q I h
 refine Mv hb (thn (he pins s σ H _ I h) fun u s1 ⟨x,H1,I1,rx,a,C,d,fs,v,ex,ea,ed,c,hd,n,l,q⟩=>?_)
 subst ex
 obtain rfl:u = Value.ref a:=rx
 exact Oz I1 ea ed c hd n l fun u' s2 I2 ru=>⟨v,H1,I2,ru,q⟩
end
end L2
namespace L2
open PySem PySem.Spec PyProof.Rows
theorem fsc {N P:List Str} {sc:Scope} (h1:sc.kind = .function:=by rfl) (h2:sc.isCoroutine = false:=by rfl) (h3:sc.isGenerator = false:=by rfl) (h4:N.Nodup/\(∀ x ∈ P,sc.names.lookup x = some .local\/sc.names.lookup x = some .cell)/\∀ y ∈ sc.names,y.2 ≠ .free:=by decide +kernel) (h5:N.take P.length = P:=by rfl):bO N P sc:=⟨h1,h2,h3,h4.1,h5,h4.2.1,h4.2.2⟩
noncomputable abbrev CK (sc scope:Scope) (N N' xs:List Str):Prop:=CT xs N = N'/\(xs ++ N').Nodup/\(∀ y ∈ scope.names,y.2 ≠ .cell)/\(∀ y ∈ scope.names,y.2 = .local->scope.names.lookup y.1 = some .local)/\(∀ y ∈ scope.names,y.2 = .free->sc.names.lookup y.1 = some .cell\/sc.names.lookup y.1 = some .free) /\
 (∀ y ∈ N,y ∉ xs->(scope.names.map fun (n,k)=>if (k == NameKind.free && sc.kind == .function && sc.names.lookup n == some .cell) then (n,NameKind.cell) else (n,k)).lookup y ≠ some .local)/\∀ y ∈ N,y ∈ xs->(scope.names.map fun (n,k)=>if (k == NameKind.free && sc.kind == .function && sc.names.lookup n == some .cell) then (n,NameKind.cell) else (n,k)).lookup (hid y) = none
section
variable {X:Cx} {elt iter tg:Expr} {pos:Pos} {scope:Scope} {wi:TI} {te:TE} {ifs:List Expr} {gt:TG} {tc:TT}
theorem jl (sc:Scope) (N N' xs:List Str) (hi:PI X tg iter wi) (hg:∀ {C s₀ H₀ ex pn},PG (X.compG N' scope xs C s₀ H₀ ex pn) tg gt) (ht:∀ {C s₀ H₀ ex pn},PTs (X.compG N' scope xs C s₀ H₀ ex pn) ifs tc) (he:∀ {C s₀ H₀ ex pn},PE (X.compG N' scope xs C s₀ H₀ ex pn) elt te)
  (hsc:X.env.scope = sc:=by rfl) (hNN:X.N = N:=by rfl) (hc:X.calm = true:=by rfl) (hk:scope.kind = .function:=by rfl) (h:CK sc scope N N' xs:=by decide +kernel) (hs:∀ z,foldedSetIterable iter X.env z = pure z:=by intro _; rfl):PE X (.ListComp elt [⟨tg,iter,ifs,0⟩] scope pos) (jz wi xs.length (tMG gt) (tMT tc) (tM te)) :=
 by
 subst hsc hNN
 exact Uq hc h.1 h.2.1 hk h.2.2.1 h.2.2.2.1 h.2.2.2.2.1 h.2.2.2.2.2.1 h.2.2.2.2.2.2 hi (fun _ _ _ _ _=>hg.mono) (fun _ _ _ _ _=>ht.mono) (fun _ _ _ _ _=>he.mono) hs
theorem Ml {i0:Nat} {y0:Str} {py spos:Pos} (sc:Scope) (N N' xs:List Str) (hi:PI X tg iter wi) (hg:∀ {C s₀ H₀ ex pn},PG (X.compG N' scope xs C s₀ H₀ ex pn) tg gt) (ht:∀ {C s₀ H₀ ex pn},PTs (X.compG N' scope xs C s₀ H₀ ex pn) ifs tc) (he:∀ {C s₀ H₀ ex pn},PE (X.compG N' scope xs C s₀ H₀ ex pn) elt te) (hgy:PG X (.Name y0 py) (cL i0))
  (hsc:X.env.scope = sc:=by rfl) (hNN:X.N = N:=by rfl) (hc:X.calm = true:=by rfl) (hk:scope.kind = .function:=by rfl) (h:CK sc scope N N' xs:=by decide +kernel) (hsw:swapsWith (.ListComp elt [⟨tg,iter,ifs,0⟩] scope pos) (some (.Name y0 py)) spos.line X.env = pure true:=by rfl) (hs:∀ z,foldedSetIterable iter X.env z = pure z:=by intro _; rfl) :
  PS X (.Assign [.Name y0 py] (.ListComp elt [⟨tg,iter,ifs,0⟩] scope pos) spos) (G5 (jz wi xs.length (tMG gt) (tMT tc) (tM te)) (cL i0)) :=
 by
 subst hsc hNN
 exact RP hc h.1 h.2.1 hk h.2.2.1 h.2.2.2.1 h.2.2.2.2.1 h.2.2.2.2.2.1 h.2.2.2.2.2.2 hi (fun _ _ _ _ _=>hg.mono) (fun _ _ _ _ _=>ht.mono) (fun _ _ _ _ _=>he.mono) hgy hsw hs
theorem dU {N' xs:List Str} {C s₀ H₀ ex pn} {i:Nat} {x:Str} {p:Pos} (hN:(xs ++ N').Nodup:=by decide +kernel) (hi:(xs ++ N')[i]? = some x:=by rfl) (hx:Loc (X.compG N' scope xs C s₀ H₀ ex pn).env.scope x:=by exact Or.inl rfl) (hf:(X.compG N' scope xs C s₀ H₀ ex pn).fn x = true\/(X.compG N' scope xs C s₀ H₀ ex pn).env.scope.names.lookup x = some .local:=by exact Or.inr rfl):PG (X.compG N' scope xs C s₀ H₀ ex pn) (.Name x p) (cL i):=cF hN hi hx hf
end
theorem HD {tl te:TE} {σ:L2.St} {H:Hp} {Q:VK} (p:Nat->Bool) (y:Str) (hl:∀ R:VK,R (.str y) H->tl σ H R) (hz:y.length <= sizeLine) (he:∀ (c:Nat) (Hc:Hp) (R:VK),R (.bl (p c)) Hc->te (some (.str ⟨#[c]⟩) :: σ) Hc R)
  (q:∀ D,H D = none->Q (.ref D) (upd H D (.lst ((y.cps.toList.map p).map V.bl)))):jz (abl (tM tl)) 1 (tMG (cL 0)) (tMT Jr) (tM te) σ H Q:=by
 refine YF (hl _ ⟨y,rfl,fun D hD=>?_⟩)
 have hy:y.cps.size <= sizeLine:=hz
 refine ⟨fun k m ys Hc=>k <= y.cps.size/\m = y.cps.size - k/\ys = ((y.cps.toList.take k).map p).map V.bl/\Hc = upd H D (.lst ys),⟨_,aZ _,rfl,rfl,rfl⟩,?_⟩
 rintro k m ys Hc ⟨hk,rfl,rfl,rfl⟩
 by_cases e:k = y.cps.size
 .subst e
  refine .inl ⟨rfl,?_⟩
  rw [aJ (by simp)]
  exact q D hD
 .have hlt:k < y.cps.size:=by omega
  refine .inr ⟨hlt,?_⟩
  rintro x H'' ⟨rfl,c,hc,rfl⟩
  refine (Tc (No:=fun _=>False) (he c _ (fun v H2=>v = .bl (p c)/\H2 = upd H D (.lst (((y.cps.toList.take k).map p).map V.bl))) ⟨rfl,rfl⟩)).weak ?_ fun _ z=>z.elim
  rintro v H2 ⟨rfl,rfl⟩
  refine ⟨?_,bB,y.cps.size - (k + 1),by omega,by omega,rfl,?_,?_⟩
  .rw [ak,ak,aY]
   simp only [Array.length_toList]
   omega
  .have e1:y.cps.toList.take (k + 1) = y.cps.toList.take k ++ [c]:=by
    rw [List.take_succ]
    have:y.cps.toList[k]? = some c:=by simpa using hc
    rw [this]; rfl
   rw [e1,bf,bf]; rfl
  .exact m6
theorem acV {K:Frag} {a:Addr} {i j:Int} {d:Option Addr} {n:Nat} {sl:Array (Option Value)} {t u:Tok} (l:K.lookup a = some ⟨.type "tuple",d,.seq #[.int i t,.int j u] n,sl⟩):∀ H,SqT K H a [.int i,.int j]:=fun H=>.inr ⟨_,_,_,l,rfl,rfl,(by show 2 <= sizeLine; decide),.cons ⟨_,rfl⟩ (.cons ⟨_,rfl⟩ .nil)⟩
theorem aev {K:Frag} {h:Heap} {mg:Str->Option Value} {x:Str} {i:Int} {t:Tok} (X:K.In h) (G:h.Ns mainGlobals mg) (l:PySem.W.nsIn K mainGlobals x = some (some (.int i t))):∃ u,mg x = some u/\RelV (.int i) u:=⟨_,PySem.W.mg_of X G l,_,rfl⟩
noncomputable def Lst:Nat->(List Value->Prop)->Prop
 | 0,P=>P []
 | n + 1,P=>∀ a,Lst n fun l=>P (a :: l)
theorem Ez:∀ (n:Nat) {P:List Value->Prop},Lst n P->∀ us:List Value,us.length = n->P us
 | 0,_,h,[],_=>h
 | n + 1,_,h,a :: l,e=>Ez n (h a) l (Nat.succ.inj e)
section
variable {K:Frag} {h:Heap} {mg:Str->Option Value} {x m qual:Str} {v:Value} {C f:Addr} {st:Stmt} {ps:List Str} {oc:Value} {od an:Option Addr} {osl:Array (Option Value)} {kV doc pm cdv ct:Value} {i j:Int} {d:Option Addr} {n:Nat} {sl:Array (Option Value)} {t u:Tok}
theorem q_c (X:K.In h:=by assumption) (G:h.Ns mainGlobals mg:=by assumption) (e:PySem.W.nsIn K mainGlobals x = some (some v):=by k_is):mg x = some v:=PySem.W.mg_of X G e
theorem q_z (X:K.In h:=by assumption) (G:h.Ns mainGlobals mg:=by assumption) (e:PySem.W.nsIn K mainGlobals x = some none:=by k_is):mg x = none:=PySem.W.mg_none_of X G e
theorem q_n (e:PySem.W.findIn K (.ref C) x = some none:=by k_is):bZ K C x:=e
theorem q_m (a:PySem.W.findIn K (.ref C) m = some (some (.ref f)):=by k_is) (b:PySem.W.isFn K (.ref f) = true:=by k_is) (c:PySem.W.keepIn K (.ref f) = true:=by k_is):Meth K C m f:=⟨a,b,c⟩
theorem q_M (a:PySem.W.makesIn K C = true:=by k_is) (b:PySem.W.findIn K (.ref C) "__init__" = some (some (.ref f)):=by k_is) (c:PySem.W.isFn K (.ref f) = true:=by k_is) (e:PySem.W.keepIn K (.ref C) = true:=by k_is):Mk K C f:=⟨a,b,c,e⟩
theorem q_4 (a:PySem.W.plainGet K C Str.empty = true:=by k_is) (b:PySem.W.hasDictIn K C = true:=by k_is) (c:PySem.W.plainOver K C = true:=by k_is) (e:PySem.W.findIn K (.ref C) "__setattr__" = some (some (.builtin "object.__setattr__")):=by k_is):Cls K C:=⟨a,b,c,e⟩
theorem q_I (a:PySem.W.findIn K (.ref C) "__class__" = some (some (.builtin "object.__class__")):=by k_is) (b:PySem.W.specialIn K (.builtin "object.__class__") "__get__" = some (some (.builtin "getset_descriptor.__get__")):=by k_is) (c:PySem.W.takesIn K (.builtin "object.__class__") = some true:=by k_is) (e:PySem.W.mroIn K C (.type "object") = some true:=by k_is):Jz K C:=⟨a,b,c,e⟩
theorem q_B (a:PySem.W.specialIn K (.ref C) "__getattribute__" = some (some (.builtin "type.__getattribute__")):=by k_is) (b:PySem.W.readsIn K C (.type "type") = true:=by k_is) (c:PySem.W.findCls K (.ref C) (.type "type") m = some (.val (.ref f)):=by k_is) (e:PySem.W.keepIn K (.ref f) = true:=by k_is):jH K C m f:=⟨a,b,c,rfl,e⟩
theorem q_x (e:PySem.W.excIn K C bmV "ValueError.__new__" = true:=by k_exc):GD K C:=e
theorem q_g (X:K.In h:=by assumption) (G:h.Ns mainGlobals mg:=by assumption) (l:PySem.W.nsIn K mainGlobals x = some (some (.int i t)):=by k_is):∃ u,mg x = some u/\RelV (.int i) u:=aev X G l
theorem q_t (l:K.lookup C = some ⟨.type "tuple",d,.seq #[.int i t,.int j u] n,sl⟩:=by k_is):∀ H,SqT K H C [.int i,.int j]:=acV l
theorem q_f (N:Nat) (hb:∀ (kV doc pm:Value) (an:Option Addr) (cdv ct:Value),Lst N fun us=>bindArgs (PySem.W.fnOf x x (iG st) (eX st) (bH st) .none kV doc pm an cdv ct) ⟨us,[]⟩ = pure (ps.zip us)) (hN:ps.length = N:=by rfl) (X:K.In h:=by assumption) (G:h.Ns mainGlobals mg:=by assumption)
  (a:PySem.W.nsIn K mainGlobals x = some (some (.ref f)):=by k_is) (l:K.lookup f = some ⟨oc,od,.func (PySem.W.fnOf x x (iG st) (eX st) (bH st) .none kV doc pm an cdv ct),osl⟩:=by k_is)
  (c:PySem.W.codeIn K cdv x = true:=by k_is) (k:PySem.W.keepIn K (.ref f) = true:=by k_is):dI K mg x st ps:=Xb X G a l c k fun kV doc pm an cdv ct us e=>Ez N (hb kV doc pm an cdv ct) us (e.trans hN)
theorem q_h (N:Nat) (hb:∀ (kV doc pm:Value) (an:Option Addr) (cdv ct:Value),Lst N fun us=>bindArgs (PySem.W.fnOf x qual (iG st) (eX st) (bH st) .none kV doc pm an cdv ct) ⟨us,[]⟩ = pure (ps.zip us)) (hN:ps.length = N:=by rfl)
  (l:K.lookup f = some ⟨oc,od,.func (PySem.W.fnOf x qual (iG st) (eX st) (bH st) .none kV doc pm an cdv ct),osl⟩:=by k_is) (c:PySem.W.codeIn K cdv qual = true:=by k_is) (k:PySem.W.keepIn K (.ref f) = true:=by k_is):pq K x qual st ps f:=XC l c k fun kV doc pm an cdv ct us e=>Ez N (hb kV doc pm an cdv ct) us (e.trans hN)
end
end L2
namespace L2
open PySem PySem.Spec PyProof.Rows
section
variable {K:Frag} {C HE fI:Addr} {nm qn:Str} {N:Addr} {bs sub:List Value} {sn:List Str} {ab:Bool} {col:Option Bool} {dd:Option Addr} {k0 k1 k2 k3 k5:Option Value} {o:Obj} {cd:ClassData}
theorem q_E (he:PySem.W.excIn K HE bmV "ValueError.__new__" = true:=by k_exc) (l:K.lookup C = some (excClassObj nm qn C N bs (.ref HE :: bmV) true sn sub ab col dd k0 k1 k2 k3 k5 "ValueError.__new__"):=by k_is) (n1:PySem.W.nsOkIn K N = true:=by kernel_rfl) (n2:PySem.W.nsIn K N "__init__" = some (some (.ref fI)):=by k_is)
  (lf:K.lookup fI = some o:=by k_is) (hf:o.cls = .type "function" := by rfl) (kp:PySem.W.keepIn K (.ref C) = true:=by k_is):Jd K C HE fI:=⟨⟨nm,qn,N,bs,sn,sub,ab,col,dd,k0,k1,k2,k3,k5,l,n1,n2⟩,he,⟨o,lf,hf⟩,kp⟩
theorem q_S (a:PySem.W.clsIn K C = some cd:=by k_is) (b:cd.hasDict = true:=by rfl) (c:Hy cd.mro = true:=by rfl) (e:PySem.W.findIn K (.ref C) "__setattr__" = some (some (.builtin "object.__setattr__")):=by k_is) (m:PySem.W.mroIn K C (.type "object") = some true:=by k_is):Ri K C:=⟨⟨cd,a,b,c⟩,e,m⟩
theorem q_b (a:PySem.W.specialIn K (.ref C) "__getattribute__" = some (some (.builtin "type.__getattribute__")):=by k_is) (b:PySem.W.readsIn K C (.type "type") = true:=by k_is) (c:PySem.W.findCls K (.ref C) (.type "type") "__init__" = some (.val (.builtin "ValueError.__init__")):=by k_is):Rg K C:=⟨a,b,c⟩
theorem q_5 (a:PySem.W.findIn K (.ref C) "__getattribute__" = some (some (.builtin "BaseException.__getattribute__")):=by k_is) (b:PySem.W.findIn K (.ref C) "__getattr__" = some none:=by k_is) (c:PySem.W.findIn K (.ref C) "__class__" = some (some (.builtin "object.__class__")):=by k_is) (e:PySem.W.mroIn K C (.type "object") = some true:=by k_is) (m:PySem.W.mroIn K C (.type "BaseException") = some true:=by k_is):yx K C:=⟨a,b,c,e,m⟩
end
end L2
namespace L2
open PySem PySem.Spec PyProof.Rows
section
variable {X:Cx} {k:Nat} {f C:Addr} {ps:List Str} {sp:Sp} {m:Str} {pos apos:Pos} {e o:Expr} {es:List Expr} {ta:TE} {t:TA} {Ex:Value->Option Addr->L2.St->Hp->Prop}
noncomputable def XR (C:Addr) (m:Str) (sp:Sp) (Ex:Value->Option Addr->L2.St->Hp->Prop) (ta:TE) (t:TA):TE:=fun σ H Q=>ta σ H fun x H1=>∃ a dx fs,x = .ref a/\H1 a = some (.ins C dx fs)/\fs.lookup m = none/\t σ H1 fun vs H2=>sp (x :: vs) H2 Q fun D d H'=>Ex D d σ H'
theorem Dj {pl:Sem Bool} (he:PE X o ta) (c:Cls X.K C) (hm:Meth X.K C m f) (G:OkI X.prog X.w X.K X.mg X.base (CXO X.prog X.w) k f ps sp) (hr:fW k X.A) (hx:zN X Ex) (ha:PA X (e :: es) t)
  (hst:starEach (e :: es) X.env = (false,eval e X.env) :: starEach es X.env:=by rfl) (hpl:(backTo pos (starEach es X.env)).any (·.1) = false:=by rfl)
  (ht:eval (.Call (.Attribute o m apos) (e :: es) [] pos) X.env = (do
   let ov <- eval o X.env
   standAt apos.atName
   let (f,first) <- holding [ov] (getMethod ov m pl)
   callWith pos f first (backTo pos (starEach (e :: es) X.env)) (backToKw pos (keywordEach [] X.env))):=by rfl) :
  PE X (.Call (.Attribute o m apos) (e :: es) [] pos) (XR C m sp Ex ta t):=by
 obtain ⟨fd,F,hb⟩:=G
 intro pins s σ H Q I h
 refine PySem.W.methodCall_KW (pl:=pl) (thn (he pins s σ H _ I h) fun u s1 ⟨x,H1,I1,rx,a,dx,fs,ex,ea,l,q⟩=>?_) ht
 subst ex
 obtain rfl:u = Value.ref a:=rx
 refine Bh I1 ea c hm l ?_
 refine PySem.W.callWith_K (first:=[.ref a]) (h₀:=X.base) I1.ok.mod.kin hm.kp (thn (ha pos pins _ σ H1 _ I1 q) fun us s2 ⟨vs,H2,I2,r,q2⟩=>⟨I2.kIn,?_⟩) hst hpl
 exact Mq (us:=.ref a :: us) (vs:=.ref a :: vs) F hr hb .nil hx I2 (.cons rfl r) (by rw [List.append_nil]; exact q2)
theorem Iz {K':Frag} {f:Str} (hK:X.K = K') (he:PE X e ta) (hb:attributeBase e f X.env (eval e X.env) = eval e X.env):PE X (.Attribute e f pos) (YH K' ta f):=by
 subst hK
 exact Xf he hb
theorem eO {K':Frag} (hK:X.K = K'):eG X (.builtin "isinstance") (YC K'):=by
 subst hK
 exact PB
end
end L2
namespace L2
open PySem PySem.Spec PyProof.Rows
section
variable {X:Cx} {es:List Expr} {t:TA} {pos:Pos}
noncomputable def adY (t:TA):TE:=fun σ H Q=>t σ H fun xs H1=>xs.length <= sizeLine/\∀ p H',Same H1 H'->H1 p = none->H' p = some (.lst xs)->Q (.ref p) H'
noncomputable def aeU (t:TA):TE:=fun σ H Q=>t σ H fun xs H1=>xs.length <= sizeLine/\∀ p H',Same H1 H'->H1 p = none->H' p = some (.tup xs)->Q (.ref p) H'
theorem mX (h:PA X es t):PE X (.List es pos) (adY t):=(iH h.mono).imp fun σ H Q h=>⟨_,h,fun xs H1 z=>⟨z.1,fun p hp=>z.2 p _ (Same.upd hp) hp bB⟩⟩
theorem yN {k:Nat} (h:PA X es t):PE X (.Tuple es k pos) (aeU t):=(c7 h.mono).imp fun σ H Q h=>⟨_,h,fun xs H1 z=>⟨z.1,fun p hp=>z.2 p _ (Same.upd hp) hp bB⟩⟩
noncomputable def acI:R2:=fun x y H Q=>∃ l b xs zs,x = .ref l/\y = .ref b/\H l = some (.lst xs)/\H b = some (.lst zs)/\xs.length + zs.length <= sizeLine/\∀ p H',Same H H'->H p = none->H' p = some (.lst (xs ++ zs))->Q (.ref p) H'
theorem XH:OpR X (binaryOp .Add) acI:=LK.imp fun x y H Q ⟨l,b,xs,zs,e1,e2,h1,h2,z,q⟩=>⟨l,b,xs,zs,e1,e2,h1,h2,z,fun p hp=>q p _ (Same.upd hp) hp bB⟩
noncomputable def Y6:List V->Hp->VK->Prop:=fun xs H Q=>∃ p ys,xs = [.ref p]/\H p = some (.lst ys)/\∀ l H',Same H H'->H l = none->H' l = some (.lst ys)->Q (.ref l) H'
theorem Aw:eG X (.type "list") Y6:=uf.imp fun xs H Q ⟨p,ys,a,b,c⟩=>⟨p,ys,a,b,fun l hl=>c l _ (Same.upd hl) hl bB⟩
noncomputable def aeG (to:TE):TE:=fun σ H Q=>to σ H fun x H1=>∃ l xs,x = .ref l/\H1 l = some (.lst xs)/\Q .non (upd H1 l (.lst xs.reverse))
theorem Za {o:Expr} {to:TE} {apos cpos:Pos} (ho:PE X o to) (hb:attributeBase o "reverse" X.env (eval o X.env) = eval o X.env:=by rfl) (hl:(apos.endLine == cpos.line) = true:=by rfl) :
  PE X (.Call (.Attribute o "reverse" apos) [] [] cpos) (aeG to):=by
 refine (YT PySem.F.plainAttrs_list PySem.F.slot_list_reverse PySem.F.type_list_reverse K7 ho.mono hb hl).imp fun σ H Q h=>?_
 refine ⟨_,h,?_⟩
 rintro x H1 ⟨l,xs,rfl,hx,q⟩
 exact ⟨.inl ⟨rfl,_,SqL.of hx⟩,l,xs,rfl,rfl,hx,q⟩
end
end L2
namespace L2
open PySem PySem.Spec PyProof.Rows
theorem O5 {K:Frag} {tl:TE} {g:TG} {tb:TS} {D:Ends} {σ:L2.St} {H:Hp} (h:tl σ H fun x H1=>∃ a xs,x = .ref a/\H1 a = some (.tup xs)/\∃ J:Nat->L2.St->Hp->Prop,J 0 σ H1 /\
   (∀ k x σ' H',xs[k]? = some x->J k σ' H'->H' a = some (.tup xs)->g x σ' H' fun σ2 H2=>tb { D with nx:=fun σ3 H3=>H3 a = some (.tup xs)/\J (k + 1) σ3 H3,ct:=fun σ3 H3=>H3 a = some (.tup xs)/\J (k + 1) σ3 H3,bk:=D.nx } σ2 H2) /\
   ∀ σ' H',J xs.length σ' H'->H' a = some (.tup xs)->D.nx σ' H'):K1 (acO K (tM tl)) g tb D σ H:=by
 refine ⟨_,h,?_⟩
 rintro x H1 ⟨a,xs,rfl,hx,J,j0,step,fin⟩
 refine ⟨a,rfl,⟨xs,.of hx⟩,fun k m σ' H'=>k <= xs.length/\m = xs.length - k/\H' a = some (.tup xs)/\J k σ' H',⟨_,aZ _,rfl,hx,j0⟩,?_⟩
 rintro k m σ' H' ⟨hk,rfl,hx',j⟩
 by_cases e:k = xs.length
 .subst e
  exact .inl ⟨⟨xs,.of hx',aD _⟩,fin σ' H' j hx'⟩
 .have hlt:k < xs.length:=by omega
  have e1:xs[k]? = some xs[k]:=aj hlt
  refine .inr ⟨⟨xs,_,.of hx',e1⟩,fun σ3 H3=>H3 a = some (.tup xs)/\J (k + 1) σ3 H3,fun σ3 H3 ⟨z1,z2⟩=>⟨xs.length - (k + 1),by omega,by omega,rfl,z1,z2⟩,?_⟩
  rintro x H'' ⟨rfl,y⟩
  exact step k x σ' H'' (y xs (.of hx')) j hx'
end L2
namespace Lv
noncomputable def O7 (bs:List Nat):Nat:=bs.foldl Nat.lcm 1
theorem tO:∀ (bs:List Nat) (a m:Nat),bs.foldl Nat.lcm a ∣ m ↔ a ∣ m/\∀ b ∈ bs,b ∣ m
 | [],a,m=>by simp
 | b :: bs,a,m=>by
  rw [List.foldl_cons,tO bs,Nat.lcm_dvd_iff]
  simp only [List.mem_cons,forall_eq_or_imp,and_assoc]
theorem Jg {bs:List Nat} {m:Nat} : O7 bs ∣ m ↔ ∀ b ∈ bs,b ∣ m:=by
 unfold O7
 rw [tO]
 simp
theorem TV {bs:List Nat} {b:Nat} (h:b ∈ bs):b ∣ O7 bs:=Jg.mp (Nat.dvd_refl _) b h
theorem tV:∀ (bs:List Nat) (a:Nat),0 < a->(∀ b ∈ bs,0 < b)->0 < bs.foldl Nat.lcm a
 | [],a,h,_=>h
 | b :: bs,a,h,hb=>tV bs _ (Nat.lcm_pos h (hb b aM)) fun c hc=>hb c (aG _ hc)
theorem UG {bs:List Nat} (h:∀ b ∈ bs,0 < b):0 < O7 bs:=tV bs 1 (by decide) h
end Lv
namespace Ac
noncomputable def lw (t b:Int):Int × Int:=(t / (Int.gcd t b:Nat),b / (Int.gcd t b:Nat))
theorem Rj {t b:Int} (hb:0 < b):(0:Int) < (Int.gcd t b:Nat):=by
 have:=Int.gcd_pos_of_ne_zero_right t (show b ≠ 0 by omega)
 omega
theorem jd {t b:Int} (hb:0 < b):0 < (lw t b).2:=Int.ediv_pos_of_pos_of_dvd hb (Int.le_of_lt (Rj hb)) (Int.gcd_dvd_right t b)
theorem ur {t b:Int} (hb:0 < b):Int.gcd (lw t b).1 (lw t b).2 = 1:=Int.gcd_ediv_gcd_ediv_gcd (by have:=Rj (t:=t) hb; omega)
theorem xV {t b:Int} (hb:0 < b):(lw t b).1 * b = t * (lw t b).2:=by
 have d1:=Int.gcd_dvd_left t b
 have d2:=Int.gcd_dvd_right t b
 have g0:=Rj (t:=t) hb
 unfold lw
 generalize hg:((Int.gcd t b:Nat):Int) = g at *
 obtain ⟨x,rfl⟩:=d1
 obtain ⟨y,rfl⟩:=d2
 show g * x / g * (g * y) = g * x * (g * y / g)
 rw [Int.mul_ediv_cancel_left _ (by omega),Int.mul_ediv_cancel_left _ (by omega),Int.mul_left_comm,Int.mul_assoc]
theorem zW (t b:Int):(lw t b).1.natAbs <= t.natAbs:=Int.natAbs_ediv_le_natAbs _ _
theorem xJ (t b:Int):(lw t b).2.natAbs <= b.natAbs:=Int.natAbs_ediv_le_natAbs _ _
theorem MK {a b c:Int} (h:a ∣ b * c) (g:Int.gcd a b = 1):a ∣ c:=by
 refine Int.natAbs_dvd_natAbs.mp ((show Nat.Coprime a.natAbs b.natAbs from g).dvd_of_dvd_mul_left ?_)
 rw [<- Int.natAbs_mul]
 exact Int.natAbs_dvd_natAbs.mpr h
theorem uniq {x y u v:Int} (hy:0 < y) (hv:0 < v) (g1:Int.gcd x y = 1) (g2:Int.gcd u v = 1) (e:x * v = u * y):x = u/\y = v:=by
 have d1:y ∣ v:=by
  have h:y ∣ x * v:=⟨u,by rw [e,Int.mul_comm]⟩
  exact MK h (by rw [Int.gcd_comm]; exact g1)
 have d2:v ∣ y:=by
  have h:v ∣ u * y:=⟨x,by rw [<- e,Int.mul_comm]⟩
  exact MK h (by rw [Int.gcd_comm]; exact g2)
 have e2:y = v:=Int.dvd_antisymm (by omega) (by omega) d1 d2
 subst e2
 exact ⟨Int.eq_of_mul_eq_mul_right (by omega) e,rfl⟩
theorem QV {t b x y:Int} (hb:0 < b) (hy:0 < y) (g:Int.gcd x y = 1) (e:x * b = t * y):x = (lw t b).1/\y = (lw t b).2:=by
 refine uniq hy (jd hb) g (ur hb) ?_
 have h:=xV (t:=t) hb
 have h1:x * (lw t b).2 * b = (lw t b).1 * y * b:=by
  rw [Int.mul_right_comm,e,Int.mul_right_comm _ y b,h,Int.mul_right_comm]
 exact Int.eq_of_mul_eq_mul_right (by omega) h1
theorem ZJ {W x S z o:Int} (hS:0 < S) (ho:0 < o) (g:Int.gcd z o = 1) (e:z * ((lw W S).2 * (lw x S).2) = ((lw W S).1 * (lw x S).2 + (lw x S).1 * (lw W S).2) * o):z = (lw (W + x) S).1/\o = (lw (W + x) S).2:=by
  refine QV hS ho g ?_
  have h1:=xV (t:=W) hS
  have h2:=xV (t:=x) hS
  have p1:=jd (t:=W) hS
  have p2:=jd (t:=x) hS
  generalize (lw W S).1 = a at *
  generalize (lw W S).2 = b at *
  generalize (lw x S).1 = c at *
  generalize (lw x S).2 = d at *
  have key:z * S * (b * d) = (W + x) * o * (b * d):=by
    calc z * S * (b * d) = z * (b * d) * S:=by rw [Int.mul_right_comm]
      _ = (a * d + c * b) * o * S:=by rw [e]
      _ = (a * S * d + c * S * b) * o:=by
        rw [Int.mul_right_comm,Int.add_mul,Int.mul_right_comm a d S,Int.mul_right_comm c b S]
      _ = (W * b * d + x * d * b) * o:=by rw [h1,h2]
      _ = (W + x) * o * (b * d):=by
        rw [Int.mul_assoc W,Int.mul_assoc x,Int.mul_comm d b,<- Int.add_mul,Int.mul_right_comm]
  exact Int.eq_of_mul_eq_mul_right (Int.ne_of_gt (Int.mul_pos p1 p2)) key
theorem GR {x S z o:Int} (hS:0 < S) (ho:0 < o) (g:Int.gcd z o = 1) (e:z * (1 * (lw x S).2) = (1 * (lw x S).2 - (lw x S).1 * 1) * o):z = (lw (S - x) S).1/\o = (lw (S - x) S).2:=by
  refine QV hS ho g ?_
  have h2:=xV (t:=x) hS
  have p2:=jd (t:=x) hS
  generalize (lw x S).1 = c at *
  generalize (lw x S).2 = d at *
  rw [Int.one_mul,Int.mul_one] at e
  have key:z * S * d = (S - x) * o * d:=by
    calc z * S * d = z * d * S:=by rw [Int.mul_right_comm]
      _ = (d - c) * o * S:=by rw [e]
      _ = (d * S - c * S) * o:=by rw [Int.mul_right_comm,Int.sub_mul]
      _ = (d * S - x * d) * o:=by rw [h2]
      _ = (S - x) * o * d:=by rw [Int.mul_comm d S,<- Int.sub_mul,Int.mul_right_comm]
  exact Int.eq_of_mul_eq_mul_right (Int.ne_of_gt p2) key
theorem sW {t b:Int} (hb:0 < b):((lw t b).1 = 0/\(lw t b).2 = 1) ↔ t = 0:=by
 have h:=xV (t:=t) hb
 have p:=jd (t:=t) hb
 constructor
 .rintro ⟨h1,h2⟩
  rw [h1,h2] at h
  omega
 .rintro rfl
  have g:=ur (t:=0) hb
  rw [Int.zero_mul] at h
  have h0:(lw 0 b).1 = 0:=by
   rcases Int.mul_eq_zero.mp h with z | z
   .exact z
   .omega
  rw [h0,Int.gcd_zero_left] at g
  exact ⟨h0,by omega⟩
theorem Yr {t b:Int} (hb:0 < b) (ht:0 <= t):0 <= (lw t b).1:=Int.ediv_nonneg ht (Int.le_of_lt (Rj hb))
theorem YG {t b:Int} (hb:0 < b) (ht:t <= b):(lw t b).1 <= (lw t b).2:=Int.ediv_le_ediv (Rj hb) ht
theorem Z_ {b:Int} (hb:0 < b):(lw 1 b).1 = 1/\(lw 1 b).2 = b:=by
 have:=QV (t:=1) (b:=b) (x:=1) (y:=b) hb hb (by rw [Int.gcd_comm]; simp) (by rw [Int.mul_comm])
 exact ⟨this.1.symm,this.2.symm⟩
section
variable {κ:Type} [DecidableEq κ]
noncomputable def look (acc:List (κ × Int)) (r:κ):Int:=((acc.find? fun g=>decide (g.1 = r)).map (·.2)).getD 0
noncomputable def put (acc:List (κ × Int)) (r:κ) (y:Int):List (κ × Int):=if (acc.any fun g=>decide (g.1 = r)) = true then acc.map (fun g=>if g.1 = r then (g.1,y) else g) else acc ++ [(r,y)]
noncomputable def gM (gs:List (κ × Int)):List (κ × Int):=gs.foldl (fun a g=>put a g.1 (look a g.1 + g.2)) []
theorem wV (gs:List (κ × Int)) (g:κ × Int):gM (gs ++ [g]) = put (gM gs) g.1 (look (gM gs) g.1 + g.2):=by
 unfold gM
 rw [List.foldl_append]; rfl
theorem Xy (acc:List (κ × Int)) (r:κ) (y:Int):(put acc r y).length <= acc.length + 1:=by
 unfold put
 split
 .rw [ak]; omega
 .rw [au]; simp
theorem Vi {acc:List (κ × Int)} (h:(acc.map (·.1)).Nodup) (r:κ) (y:Int):((put acc r y).map (·.1)).Nodup:=by
 unfold put
 split
 .have e:(acc.map (fun g=>if g.1 = r then (g.1,y) else g)).map (·.1) = acc.map (·.1):=by
   rw [List.map_map]
   refine List.map_congr_left fun g _=>?_
   show (if g.1 = r then (g.1,y) else g).1 = g.1
   split <;> rfl
  rw [e]; exact h
 .rename_i hn
  rw [bf]
  refine List.nodup_append.mpr ⟨h,by simp,?_⟩
  intro a ha b hb e
  subst e
  simp only [List.map_cons,List.map_nil,List.mem_singleton] at hb
  subst hb
  obtain ⟨g,hg,e⟩:=List.mem_map.mp ha
  exact hn (List.any_eq_true.mpr ⟨g,hg,decide_eq_true e⟩)
theorem JL (acc:List (κ × Int)) (r:κ):look acc r = 0\/∃ g ∈ acc,look acc r = g.2:=by
 unfold look
 cases h:acc.find? fun g=>decide (g.1 = r) with
 | none=>exact .inl rfl
 | some g=>exact .inr ⟨g,List.mem_of_find?_eq_some h,rfl⟩
theorem Yk {acc:List (κ × Int)} {r:κ} {y:Int} {g:κ × Int} (h:g ∈ put acc r y):g.2 = y\/g ∈ acc:=by
 unfold put at h
 split at h
 .obtain ⟨g',hg,e⟩:=List.mem_map.mp h
  split at e
  .subst e; exact .inl rfl
  .subst e; exact .inr hg
 .rcases List.mem_append.mp h with h | h
  .exact .inr h
  .rw [List.mem_singleton.mp h]; exact .inl rfl
theorem rK (gs:List (κ × Int)):(∀ g ∈ gs,0 <= g.2)->((gM gs).map (·.1)).Nodup/\(gM gs).length <= gs.length/\∀ g ∈ gM gs,0 <= g.2/\g.2 <= (gs.map (·.2)).sum:=by
 suffices H:∀ (n:Nat) (gs:List (κ × Int)),gs.length = n->(∀ g ∈ gs,0 <= g.2)->((gM gs).map (·.1)).Nodup/\(gM gs).length <= gs.length/\(0 <= (gs.map (·.2)).sum)/\∀ g ∈ gM gs,0 <= g.2/\g.2 <= (gs.map (·.2)).sum from fun h=>let ⟨a,b,_,c⟩:=H _ gs rfl h; ⟨a,b,c⟩
 intro n
 induction n with
 | zero =>
  intro gs h _
  rw [List.eq_nil_of_length_eq_zero h]
  exact ⟨by simp [gM],by simp [gM],by simp,by simp [gM]⟩
 | succ n ih =>
  intro gs h hp
  obtain ⟨gs',g,rfl⟩ : ∃ gs' g,gs = gs' ++ [g]:=⟨gs.dropLast,gs.getLast (by intro e; rw [e] at h; cases h),(List.dropLast_concat_getLast _).symm⟩
  have hl:gs'.length = n:=by rw [au] at h; simpa using h
  obtain ⟨h1,h2,h3,h4⟩:=ih gs' hl fun g hg=>hp g (List.mem_append_left _ hg)
  have hg:=hp g (aO _ (by simp))
  rw [wV]
  have hs:((gs' ++ [g]).map (·.2)).sum = (gs'.map (·.2)).sum + g.2:=by simp
  rw [hs]
  have lk:0 <= look (gM gs') g.1/\look (gM gs') g.1 <= (gs'.map (·.2)).sum:=by
   rcases JL (gM gs') g.1 with e | ⟨u,hu,e⟩
   .rw [e]; exact ⟨Int.le_refl _,h3⟩
   .rw [e]; exact h4 u hu
  refine ⟨Vi h1 _ _,?_,by omega,fun u hu=>?_⟩
  .have:=Xy (gM gs') g.1 (look (gM gs') g.1 + g.2)
   rw [au]
   simp only [List.length_cons,List.length_nil]
   omega
  .rcases Yk hu with e | hu
   .rw [e]; omega
   .have:=h4 u hu
    omega
theorem Yb {acc:List (κ × Int)} {r:κ} {y:Int} {g:κ × Int} (h:g ∈ put acc r y):g.1 = r\/g.1 ∈ acc.map (·.1):=by
 unfold put at h
 split at h
 .obtain ⟨g',hg,e⟩:=List.mem_map.mp h
  split at e
  .subst e; exact .inr (List.mem_map.mpr ⟨g',hg,rfl⟩)
  .subst e; exact .inr (List.mem_map.mpr ⟨_,hg,rfl⟩)
 .rcases List.mem_append.mp h with h | h
  .exact .inr (List.mem_map.mpr ⟨_,h,rfl⟩)
  .rw [List.mem_singleton.mp h]; exact .inl rfl
theorem Sw (gs:List (κ × Int)):∀ g ∈ gM gs,g.1 ∈ gs.map (·.1):=by
 suffices H:∀ (n:Nat) (gs:List (κ × Int)),gs.length = n->∀ g ∈ gM gs,g.1 ∈ gs.map (·.1) from H _ gs rfl
 intro n
 induction n with
 | zero =>
  intro gs h g hg
  rw [List.eq_nil_of_length_eq_zero h] at hg
  simp [gM] at hg
 | succ n ih =>
  intro gs h u hu
  obtain ⟨gs',g,rfl⟩ : ∃ gs' g,gs = gs' ++ [g]:=⟨gs.dropLast,gs.getLast (by intro e; rw [e] at h; cases h),(List.dropLast_concat_getLast _).symm⟩
  have hl:gs'.length = n:=by rw [au] at h; simpa using h
  rw [wV] at hu
  rw [bf]
  rcases Yb hu with e | e
  .rw [e]; exact aO _ (by simp)
  .obtain ⟨v,hv,e⟩:=List.mem_map.mp e
   rw [<- e]
   exact List.mem_append_left _ (ih gs' hl v hv)
noncomputable def ways (gs:List (κ × Int)) (S:Int):List (κ × Int × Int):=((gM gs).filter fun g=>decide (0 < g.2)).map fun g=>(g.1,lw g.2 S)
theorem RT {gs:List (κ × Int)} (h:∀ g ∈ gs,0 <= g.2) (S:Int):(ways gs S).length <= gs.length:=by
 unfold ways
 rw [ak]
 exact aK (List.length_filter_le _ _) (rK gs h).2.1
theorem Vj {gs:List (κ × Int)} {S:Int} {g:κ × Int × Int} (h:g ∈ ways gs S):g.1 ∈ gs.map (·.1):=by
 unfold ways at h
 obtain ⟨u,hu,rfl⟩:=List.mem_map.mp h
 exact Sw gs u (List.mem_filter.mp hu).1
theorem Tw {r:κ} : ways [(r,(1:Int))] 1 = [(r,(1,1))]:=by
 simp [ways,gM,put,look,lw]
end
end Ac
namespace K21
open PySem PyProof.Rows L2
local macro_rules | `(tactic| walk_at "rd")=>`(tactic| simp only [pR,Ke,OD,SX,tOp,tUn,rU,Oa,I_,X3,tSl,Aa,tC,Od,rI0,rI,WT,Tf,X6,xM,wX,tCB,Ba,Bc,Wj,tOr,Us,MN,Mj,ZF,Xk,G5,W7,cL,Yh,Oi,N_,Oe,NP,Nv,Xu,Mg,Fv,Ky,vL,Er,Qg,Tv,rEq,rNe,Hq,zV,Mf,xG,Lk,Dz,FP,Ux,Ug,Zn,aac,Ends.unset,Xz,Ze,En,Vz,Np,Xc,VR,Ms,R4,Td,YQ,tSM,JX,GJ,Gm,Sv,Yg,Nq,G9,Ym,yM,G4,Nf,Rx,rJoin,Vf,Ub,tB,Jx,V7,T_,yK,M5,Ma,V1,Y5,Va,NZ,Fw,Tr,J_,QW,Aq,WD,Yq,yL,V.str.injEq,
 L2.start,List.replicate_succ,List.replicate_zero,Nat.reduceSub,Nat.reduceAdd,List.map_cons,List.map_nil,List.length_cons,List.length_nil,List.cons_append,List.nil_append,List.append_nil,List.getElem?_cons_zero,List.getElem?_cons_succ,List.set_cons_zero,List.set_cons_succ,List.set_nil,Option.some.injEq,exists_eq_left',exists_eq_left,exists_and_left,exists_and_right,exists_eq_right,exists_eq,exists_eq',and_assoc,V.int.injEq,V.ref.injEq,V.bl.injEq,V.ty.injEq,List.cons.injEq,HO.tup.injEq,HO.lst.injEq,and_true,true_and,reduceCtorEq,cV,cG,bB,decide_true,decide_false,Bool.not_true,Bool.not_false,if_true,if_false,ite_true,ite_false,Bool.false_eq_true,List.mem_cons,String.reduceEq,or_true,true_or,or_false,false_or,beq_self_eq_true,Bool.or_true,Bool.true_or,Bool.or_false,Bool.false_or,Bool.and_true,Bool.and_false,Bool.true_and,Bool.false_and,String.reduceBEq,Int.reduceToNat,Int.reducePow,Int.reduceMul,Int.reduceSub,Int.reduceAdd,Int.reduceNeg,Int.reduceLE,Int.reduceLT,Int.reduceEq,ne_eq,not_false_eq_true,not_true_eq_false,Int.cast_ofNat_Int])
open PySem.NumText
noncomputable abbrev V9:Stmt:=top 0
noncomputable abbrev Ru:List Str:=["k"]
noncomputable abbrev Q0:Str := "_wall"
noncomputable abbrev ud:Stmt:=top 13
noncomputable abbrev fZ:List Str:=["thing"]
noncomputable abbrev gW:Str := "is_whole"
noncomputable abbrev Kf:List Str:=["thing"]
theorem Jq:bO Kf fZ (bH ud):=fsc
noncomputable abbrev w6:Stmt:=top 14
noncomputable abbrev jf:List Str:=["one", "other"]
noncomputable abbrev i_:Str := "divisor"
noncomputable abbrev Qk:List Str:=["one", "other", "left", "right", "rest"]
theorem j4:bO Qk jf (bH w6):=fsc
noncomputable abbrev Eh:Stmt:=top 18
noncomputable abbrev iV:List Str:=["top", "bottom"]
noncomputable abbrev iR:Str := "ratio"
noncomputable abbrev Wr:List Str:=["top", "bottom", "common"]
theorem Ar:bO Wr iV (bH Eh):=fsc
noncomputable abbrev uh:Stmt:=top 19
noncomputable abbrev gG:List Str:=["thing"]
noncomputable abbrev gk:Str := "is_ratio"
noncomputable abbrev L_:List Str:=["thing", "top", "bottom"]
theorem ql:bO L_ gG (bH uh):=fsc
noncomputable abbrev Ko:Stmt:=top 20
noncomputable abbrev sS:List Str:=["one", "other"]
noncomputable abbrev sI:Str := "plus"
noncomputable abbrev Zu:List Str:=["one", "other"]
theorem Wy:bO Zu sS (bH Ko):=fsc
noncomputable abbrev Hr:Stmt:=top 21
noncomputable abbrev rF:List Str:=["one", "other"]
noncomputable abbrev rP:Str := "minus"
noncomputable abbrev VL:List Str:=["one", "other"]
theorem Uo:bO VL rF (bH Hr):=fsc
noncomputable abbrev Gd:Stmt:=top 22
noncomputable abbrev qO:List Str:=["one", "other"]
noncomputable abbrev qM:Str := "times"
noncomputable abbrev Xp:List Str:=["one", "other"]
theorem Tp:bO Xp qO (bH Gd):=fsc
noncomputable abbrev Lw:Stmt:=top 23
noncomputable abbrev vA:List Str:=["one", "other"]
noncomputable abbrev vP:Str := "over"
noncomputable abbrev aap:List Str:=["one", "other"]
theorem X7:bO aap vA (bH Lw):=fsc
noncomputable abbrev GC:Stmt:=top 24
noncomputable abbrev oM:List Str:=["one", "other"]
noncomputable abbrev oK:Str := "under"
noncomputable abbrev Wx:List Str:=["one", "other"]
theorem Ur:bO Wx oM (bH GC):=fsc
noncomputable abbrev yD:Stmt:=top 26
noncomputable abbrev kY:List Str:=["fractions"]
noncomputable abbrev k_:Str := "level"
noncomputable abbrev Mw:List Str:=["fractions", "bottom", "one"]
theorem uQ:bO Mw kY (bH yD):=fsc
noncomputable abbrev DW:Stmt:=top 27
noncomputable abbrev qK:List Str:=["fractions"]
noncomputable abbrev rT:Str := "total"
noncomputable abbrev Wo:List Str:=["fractions", "leveled"]
theorem Jl:bO Wo qK (bH DW):=fsc
noncomputable abbrev iU:Stmt:=top 29
noncomputable abbrev gF:List Str:=["offer", "tops"]
noncomputable abbrev gQ:Str := "behind_door"
noncomputable abbrev iT:List Str:=["offer", "tops", "leveled"]
theorem qZ:bO iT gF (bH iU):=fsc
noncomputable abbrev nF:Stmt:=top 30
noncomputable abbrev gA:List Str:=["hall", "offer", "leveled"]
noncomputable abbrev gO:Str := "raised_look"
noncomputable abbrev Cj:List Str:=["hall", "offer", "leveled", "behind"]
theorem qR:bO Cj gA (bH nF):=fsc
noncomputable abbrev yI:Stmt:=top 31
noncomputable abbrev nW:List Str:=["hall", "room", "worths"]
noncomputable abbrev nZ:Str := "looks"
noncomputable abbrev Gv:List Str:=["hall", "room", "worths", "offered", "leveled"]
theorem yR:bO Gv nW (bH yI):=fsc
noncomputable abbrev sG:Stmt:=top 34
noncomputable abbrev jg:List Str:=["thing"]
noncomputable abbrev jc:Str := "is_word"
noncomputable abbrev wZ:List Str:=["thing"]
theorem K9:bO wZ jg (bH sG):=fsc
noncomputable abbrev oV:Stmt:=top 36
noncomputable abbrev fP:List Str:=["name", "pay"]
noncomputable abbrev fQ:Str := "check_head"
noncomputable abbrev GF:List Str:=["name", "pay"]
theorem BL:bO GF fP (bH oV):=fsc
noncomputable abbrev jO:Stmt:=top 37
noncomputable abbrev dj:List Str:=["room"]
noncomputable abbrev dh:Str := "check_room_name"
noncomputable abbrev vR:List Str:=["room"]
theorem uq:bO vR dj (bH jO):=fsc
noncomputable abbrev mR:Stmt:=top 38
noncomputable abbrev d_:List Str:=["chance"]
noncomputable abbrev d9:Str := "check_chance"
noncomputable abbrev zK:List Str:=["chance"]
theorem yq:bO zK d_ (bH mR):=fsc
noncomputable abbrev j7:Stmt:=top 39
noncomputable abbrev gB:List Str:=["pairs"]
noncomputable abbrev gj:Str := "check_pairs"
noncomputable abbrev nM:List Str:=["pairs", "room", "chance"]
theorem mj:bO nM gB (bH j7):=fsc
noncomputable abbrev kj:Stmt:=top 40
noncomputable abbrev gJ:List Str:=["pairs"]
noncomputable abbrev gP:Str := "joined_ways"
noncomputable abbrev tU:List Str:=["pairs", "chances", "room", "chance"]
theorem jD:bO tU gJ (bH kj):=fsc
noncomputable abbrev nQ:Stmt:=top 47
noncomputable abbrev gR:List Str:=["share"]
noncomputable abbrev gw:Str := "check_share"
noncomputable abbrev BW:List Str:=["share"]
theorem yW:bO BW gR (bH nQ):=fsc
noncomputable abbrev pH:Stmt:=top 48
noncomputable abbrev iM:List Str:=["rooms"]
noncomputable abbrev iI:Str := "numbers_of"
noncomputable abbrev Ft:List Str:=["rooms", "numbers", "room", "name"]
theorem j9:bO Ft iM (bH pH):=fsc
noncomputable abbrev lu:Stmt:=top 49
noncomputable abbrev fG:List Str:=["door", "numbers"]
noncomputable abbrev eY:Str := "numbered_ways"
noncomputable abbrev yu:List Str:=["door", "numbers", "numbered", "name", "chance"]
theorem iy:bO yu fG (bH lu):=fsc
noncomputable abbrev qj:Stmt:=top 50
noncomputable abbrev jB:List Str:=["doors", "numbers"]
noncomputable abbrev jw:Str := "offers_of"
noncomputable abbrev Jy:List Str:=["doors", "numbers", "taken", "told", "door"]
theorem lW:bO Jy jB (bH qj):=fsc
noncomputable abbrev Kh:Stmt:=top 53
noncomputable abbrev sU:List Str:=["_law_script", "_law_k"]
noncomputable abbrev sX:Str := "_law_cell"
noncomputable abbrev Zy:List Str:=["_law_script", "_law_k"]
theorem V_:bO Zy sU (bH Kh):=fsc
noncomputable abbrev Ax:Stmt:=top 54
noncomputable abbrev fu:List Str:=["_law_cell_here", "_law_many"]
noncomputable abbrev fD:Str := "_law_stream"
noncomputable abbrev T9:List Str:=["_law_cell_here", "_law_many", "_law_found", "_law_number", "_law_digits", "_law_k"]
theorem ji:bO T9 fu (bH Ax):=fsc
noncomputable abbrev U9:Stmt:=top 55
noncomputable abbrev wM:List Str:=["_law_one", "_law_other"]
noncomputable abbrev xH:Str := "_law_gcd"
noncomputable abbrev adi:List Str:=["_law_one", "_law_other", "_law_low", "_law_high"]
theorem Eo:bO adi wM (bH U9):=fsc
noncomputable abbrev Am:Stmt:=top 56
noncomputable abbrev jZ:List Str:=["_law_top", "_law_bottom"]
noncomputable abbrev jV:Str := "_law_ratio"
noncomputable abbrev Rn:List Str:=["_law_top", "_law_bottom", "_law_common"]
theorem CW:bO Rn jZ (bH Am):=fsc
noncomputable abbrev qy:Stmt:=top 57
noncomputable abbrev jo:List Str:=["_law_found"]
noncomputable abbrev jr:Str := "_law_is_ratio"
noncomputable abbrev Iw:List Str:=["_law_found", "_law_number"]
theorem uI:bO Iw jo (bH qy):=fsc
noncomputable abbrev lN:Stmt:=top 58
noncomputable abbrev iK:List Str:=["_law_found", "_law_many"]
noncomputable abbrev iQ:Str := "_law_are_ratios"
noncomputable abbrev oW:List Str:=["_law_found", "_law_many"]
theorem Bu:bO oW iK (bH lN):=fsc
noncomputable abbrev s_same:Stmt:=top 59
noncomputable abbrev vG:List Str:=["_law_one", "_law_other"]
noncomputable abbrev wj:Str := "_law_same"
noncomputable abbrev ZG:List Str:=["_law_one", "_law_other"]
theorem Wc:bO ZG vG (bH s_same):=fsc
noncomputable abbrev sH:Stmt:=top 60
noncomputable abbrev rH:List Str:=["_law_cell_here", "_law_many"]
noncomputable abbrev qd:Str := "_law_names"
noncomputable abbrev oZ:List Str:=["_law_cell_here", "_law_many", "_law_letters", "_law_xs", "_law_base", "_law_at", "_law_step"]
theorem oH:bO oZ rH (bH sH):=fsc
noncomputable abbrev EY:Stmt:=top 61
noncomputable abbrev qH:List Str:=["_law_cell_here"]
noncomputable abbrev rG:Str := "_law_share"
noncomputable abbrev WX:List Str:=["_law_cell_here", "_law_xs", "_law_bottom"]
theorem zH:bO WX qH (bH EY):=fsc
noncomputable abbrev Uz:Stmt:=top 62
noncomputable abbrev wQ:List Str:=["_law_cell_here", "_law_x", "_law_y"]
noncomputable abbrev wC:Str := "_law_pay"
noncomputable abbrev aaE:List Str:=["_law_cell_here", "_law_x", "_law_y"]
theorem aao:bO aaE wQ (bH Uz):=fsc
noncomputable abbrev uo:Stmt:=top 63
noncomputable abbrev uJ:List Str:=["_law_cell_here", "_law_many"]
noncomputable abbrev vB:Str := "_law_door"
noncomputable abbrev pF:List Str:=["_law_cell_here", "_law_many", "_law_xs", "_law_rooms", "_law_sort", "_law_pairs", "_law_bottom", "_law_part", "_law_weights"]
theorem iW:bO pF uJ (bH uo):=fsc
noncomputable abbrev yG:Stmt:=top 64
noncomputable abbrev qW:List Str:=["_law_script", "_law_at", "_law_many", "_law_most"]
noncomputable abbrev qL:Str := "_law_doors"
noncomputable abbrev Fd:List Str:=["_law_script", "_law_at", "_law_many", "_law_most", "_law_rooms", "_law_first", "_law_cells", "_law_cell_here", "_law_room", "_law_door_here"]
theorem mq:bO Fd qW (bH yG):=fsc
noncomputable abbrev vX:Stmt:=top 65
noncomputable abbrev qg:List Str:=["_law_title", "_law_door_here", "_law_names_here"]
noncomputable abbrev rQ:Str := "_law_built"
noncomputable abbrev uW:List Str:=["_law_title", "_law_door_here", "_law_names_here", "_law_told", "_law_sort", "_law_pay_here", "_law_pairs"]
theorem rM:bO uW qg (bH vX):=fsc
noncomputable abbrev Gk:Stmt:=top 66
noncomputable abbrev uz:List Str:=["_law_cell_here", "_law_share_here", "_law_rooms"]
noncomputable abbrev vZ:Str := "_law_hall"
noncomputable abbrev J3:List Str:=["_law_cell_here", "_law_share_here", "_law_rooms", "_law_names_here", "_law_found", "_law_k", "_law_titles"]
theorem vH:bO J3 uz (bH Gk):=fsc
noncomputable abbrev Kv:Stmt:=top 68
noncomputable abbrev u_:List Str:=["_law_share_here", "_law_door_here", "_law_worths_here"]
noncomputable abbrev uZ:Str := "_law_look"
noncomputable abbrev ZD:List Str:=["_law_share_here", "_law_door_here", "_law_worths_here", "_law_top", "_law_bottom", "_law_room", "_law_chance", "_law_part"]
theorem kh:bO ZD u_ (bH Kv):=fsc
noncomputable abbrev KR:Stmt:=top 69
noncomputable abbrev vW:List Str:=["_law_cell_here"]
noncomputable abbrev vC:Str := "_law_size"
noncomputable abbrev ZX:List Str:=["_law_cell_here", "_law_xs"]
theorem NQ:bO ZX vW (bH KR):=fsc
noncomputable abbrev vg:Stmt:=top 70
noncomputable abbrev nY:List Str:=["_law_cell_here", "_law_many"]
noncomputable abbrev ou:Str := "_law_worths"
noncomputable abbrev Af:List Str:=["_law_cell_here", "_law_many", "_law_xs"]
theorem Df:bO Af nY (bH vg):=fsc
noncomputable abbrev yH:Stmt:=top 71
noncomputable abbrev qI:List Str:=["_law_found", "_law_share_here", "_law_doors_here", "_law_worths_here"]
noncomputable abbrev pW:Str := "_law_right"
noncomputable abbrev Fz:List Str:=["_law_found", "_law_share_here", "_law_doors_here", "_law_worths_here"]
theorem R7:bO Fz qI (bH yH):=fsc
noncomputable abbrev wI:Stmt:=top 72
noncomputable abbrev mD:List Str:=["_law_hall_here", "_law_room", "_law_worths_here"]
noncomputable abbrev mz:Str := "_law_refused"
noncomputable abbrev Pb:List Str:=["_law_hall_here", "_law_room", "_law_worths_here", "e", "_law_others"]
theorem pN:bO Pb mD (bH wI):=fsc
noncomputable abbrev Nk:Stmt:=top 73
noncomputable abbrev KD:List Str:=["_law_script"]
noncomputable abbrev GQ:Str := "law"
noncomputable abbrev adC:List Str:=["_law_script", "_law_many", "_law_share_here", "_law_rooms", "_law_hall_here", "_law_one", "_law_other", "_law_handed", "_law_room", "_law_at", "_law_held", "_law_odd", "_law_again", "_law_found", "_law_worths_here"]
theorem iZ:bO adC KD (bH Nk):=fsc
noncomputable abbrev rN:Stmt:=dH 41 0
noncomputable abbrev gZ:List Str:=["self", "name", "pay"]
noncomputable abbrev uF:Str := "__init__"
noncomputable abbrev uY:Str := "Door.__init__"
noncomputable abbrev JF:List Str:=["self", "name", "pay"]
theorem Ea:bO JF gZ (bH rN):=fsc
noncomputable abbrev rA:Stmt:=dH 41 1
noncomputable abbrev jq:List Str:=["self"]
noncomputable abbrev uO:Str := "ways"
noncomputable abbrev uP:Str := "Door.ways"
noncomputable abbrev JV:List Str:=["self"]
theorem Gi:bO JV jq (bH rA):=fsc
noncomputable abbrev wR:Stmt:=dH 41 2
noncomputable abbrev v8:List Str:=["self", "room"]
noncomputable abbrev vq:Str := "chance_to"
noncomputable abbrev vm:Str := "Door.chance_to"
noncomputable abbrev qX:Stmt:=dH 42 0
noncomputable abbrev jy:List Str:=["self", "name", "pay", "room"]
noncomputable abbrev vD:Str := "__init__"
noncomputable abbrev uV:Str := "Sure.__init__"
noncomputable abbrev Jb:List Str:=["self", "name", "pay", "room"]
theorem Fi:bO Jb jy (bH qX):=fsc
noncomputable abbrev pL:Stmt:=dH 43 0
noncomputable abbrev eU:List Str:=["self", "name", "pay", "pairs"]
noncomputable abbrev tL:Str := "__init__"
noncomputable abbrev tD:Str := "Mixed.__init__"
noncomputable abbrev Gs:List Str:=["self", "name", "pay", "pairs"]
theorem Cv:bO Gs eU (bH pL):=fsc
noncomputable abbrev rW:Stmt:=dH 44 0
noncomputable abbrev jR:List Str:=["self", "name", "pay", "chance", "room", "other"]
noncomputable abbrev uy:Str := "__init__"
noncomputable abbrev uK:Str := "Toss.__init__"
noncomputable abbrev Jv:List Str:=["self", "name", "pay", "chance", "room", "other"]
theorem Gn:bO Jv jR (bH rW):=fsc
noncomputable abbrev mZ:Stmt:=dH 45 0
noncomputable abbrev jA:List Str:=["self", "name", "pay", "rooms"]
noncomputable abbrev uX:Str := "__init__"
noncomputable abbrev wg:Str := "Even.__init__"
noncomputable abbrev rO:List Str:=["self", "name", "pay", "rooms"]
theorem Gg:bO rO jA (bH mZ):=fsc
noncomputable abbrev m9:Stmt:=dH 51 0
noncomputable abbrev jG:List Str:=["self", "share", "rooms"]
noncomputable abbrev vY:Str := "__init__"
noncomputable abbrev uG:Str := "Hall.__init__"
noncomputable abbrev qJ:List Str:=["self", "share", "rooms"]
theorem G7:bO qJ jG (bH m9):=fsc
noncomputable abbrev qG:Stmt:=dH 51 1
noncomputable abbrev ju:List Str:=["self"]
noncomputable abbrev vK:Str := "size"
noncomputable abbrev vM:Str := "Hall.size"
noncomputable abbrev JT:List Str:=["self"]
theorem Ek:bO JT ju (bH qG):=fsc
noncomputable abbrev G6:Stmt:=dH 51 2
noncomputable abbrev Cr:List Str:=["self"]
noncomputable abbrev Cm:Str := "names"
noncomputable abbrev Bs:Str := "Hall.names"
noncomputable abbrev Fy:Stmt:=dH 51 3
noncomputable abbrev Br:List Str:=["self", "name"]
noncomputable abbrev BP:Str := "place"
noncomputable abbrev Cg:Str := "Hall.place"
noncomputable abbrev jF:Stmt:=dH 51 4
noncomputable abbrev dY:List Str:=["self", "room"]
noncomputable abbrev lZ:Str := "check_room"
noncomputable abbrev mU:Str := "Hall.check_room"
noncomputable abbrev uE:List Str:=["self", "room"]
theorem ug:bO uE dY (bH jF):=fsc
noncomputable abbrev Bg:Stmt:=dH 51 5
noncomputable abbrev yj:List Str:=["self", "room", "name"]
noncomputable abbrev yr:Str := "door_at"
noncomputable abbrev yh:Str := "Hall.door_at"
noncomputable abbrev j_:Stmt:=dH 51 6
noncomputable abbrev gU:List Str:=["self", "room"]
noncomputable abbrev qt:Str := "offers"
noncomputable abbrev pY:Str := "Hall.offers"
noncomputable abbrev nq:List Str:=["self", "room"]
theorem zX:bO nq gU (bH j_):=fsc
noncomputable abbrev nU:Stmt:=dH 9 0
noncomputable abbrev gC:List Str:=["self", "room"]
noncomputable abbrev qu:Str := "__init__"
noncomputable abbrev rD:Str := "NoRoom.__init__"
noncomputable abbrev BZ:List Str:=["self", "room"]
theorem zY:bO BZ gC (bH nU):=fsc
structure Adr where
 HallError:Addr
 NoNumber:Addr
 NoName:Addr
 NoChance:Addr
 NoShare:Addr
 NoText:Addr
 NoRow:Addr
 NoRoom:Addr
 NoDoor:Addr
 NoPlan:Addr
 Door:Addr
 Sure:Addr
 Mixed:Addr
 Toss:Addr
 Even:Addr
 Hall:Addr
 NOUGHT:Addr
 ONE:Addr
 Door_init:Addr
 Door_ways:Addr
 Door_chance_to:Addr
 Sure_init:Addr
 Mixed_init:Addr
 Toss_init:Addr
 Even_init:Addr
 Hall_init:Addr
 Hall_size:Addr
 Hall_names:Addr
 Hall_place:Addr
 Hall_check_room:Addr
 Hall_door_at:Addr
 Hall_offers:Addr
 NoRoom_init:Addr
structure Txt (K:Frag) (mg:Str->Option Value) (D:Adr):Prop where
 Rv:mg "Door" = some (.ref D.Door)
 Zx:mg "Even" = some (.ref D.Even)
 Zw:mg "Hall" = some (.ref D.Hall)
 xO:mg "HallError" = some (.ref D.HallError)
 Ej:mg "Mixed" = some (.ref D.Mixed)
 uT:mg "NOUGHT" = some (.ref D.NOUGHT)
 ux:mg "NoChance" = some (.ref D.NoChance)
 RK:mg "NoDoor" = some (.ref D.NoDoor)
 Bl:mg "NoName" = some (.ref D.NoName)
 zA:mg "NoNumber" = some (.ref D.NoNumber)
 Um:mg "NoPlan" = some (.ref D.NoPlan)
 Il:mg "NoRoom" = some (.ref D.NoRoom)
 Xr:mg "NoRow" = some (.ref D.NoRow)
 PL:mg "NoShare" = some (.ref D.NoShare)
 RM:mg "NoText" = some (.ref D.NoText)
 JW:mg "ONE" = some (.ref D.ONE)
 YX:mg "Sure" = some (.ref D.Sure)
 ZM:mg "Toss" = some (.ref D.Toss)
 zy:GD K D.NoChance
 Ju:GD K D.NoName
 K6:GD K D.NoNumber
 aas:GD K D.NoShare
 JC:PySem.W.mroIn K D.HallError (.type "BaseException") = some true
 JR:PySem.W.typeIn K (.ref D.HallError) = some (.type "type")
 ZP:PySem.W.mroIn K D.NoNumber (.ref D.HallError) = some true
 zR:∃ u,mg "LONGEST_WORD" = some u/\RelV (.int 8) u
 sE:∀ H,SqT K H D.NOUGHT [.int 0,.int 1]
 zJ:∀ H,SqT K H D.ONE [.int 1,.int 1]
 adF:Mk K D.Door D.Door_init
 U7:Cls K D.Door
 adJ:Jz K D.Door
 NK:Meth K D.Door "chance_to" D.Door_chance_to
 DQ:Meth K D.Door "ways" D.Door_ways
 Bw:bZ K D.Door "leads"
 GZ:bZ K D.Door "name"
 Qx:bZ K D.Door "numbers"
 QC:bZ K D.Door "offered"
 Ij:bZ K D.Door "pay"
 Vp:bZ K D.Door "share"
 Wu:Mk K D.Sure D.Sure_init
 IW:Cls K D.Sure
 adI:Jz K D.Sure
 MP:Meth K D.Sure "chance_to" D.Door_chance_to
 Fb:Meth K D.Sure "ways" D.Door_ways
 tQ:bZ K D.Sure "leads"
 Ew:bZ K D.Sure "name"
 QD:bZ K D.Sure "numbers"
 QH:bZ K D.Sure "offered"
 Jc:bZ K D.Sure "pay"
 Vt:bZ K D.Sure "share"
 Rr:Mk K D.Mixed D.Mixed_init
 PK:Cls K D.Mixed
 aco:Jz K D.Mixed
 La:Meth K D.Mixed "chance_to" D.Door_chance_to
 BK:Meth K D.Mixed "ways" D.Door_ways
 zZ:bZ K D.Mixed "leads"
 BX:bZ K D.Mixed "name"
 Qf:bZ K D.Mixed "numbers"
 Qi:bZ K D.Mixed "offered"
 Gj:bZ K D.Mixed "pay"
 Ua:bZ K D.Mixed "share"
 Ye:Mk K D.Toss D.Toss_init
 U6:Cls K D.Toss
 adE:Jz K D.Toss
 Ol:Meth K D.Toss "chance_to" D.Door_chance_to
 Ei:Meth K D.Toss "ways" D.Door_ways
 Cu:bZ K D.Toss "leads"
 Hx:bZ K D.Toss "name"
 QB:bZ K D.Toss "numbers"
 Qw:bZ K D.Toss "offered"
 Iu:bZ K D.Toss "pay"
 Vo:bZ K D.Toss "share"
 V2:Mk K D.Even D.Even_init
 QS:Cls K D.Even
 adD:Jz K D.Even
 Mt:Meth K D.Even "chance_to" D.Door_chance_to
 D_:Meth K D.Even "ways" D.Door_ways
 Cp:bZ K D.Even "leads"
 Hv:bZ K D.Even "name"
 Qy:bZ K D.Even "numbers"
 QG:bZ K D.Even "offered"
 HS:bZ K D.Even "pay"
 Vv:bZ K D.Even "share"
 Xa:Mk K D.Hall D.Hall_init
 qw:Cls K D.Hall
 adG:Jz K D.Hall
 um:Meth K D.Hall "check_room" D.Hall_check_room
 Qz:Meth K D.Hall "door_at" D.Hall_door_at
 Vq:Meth K D.Hall "names" D.Hall_names
 zT:Meth K D.Hall "offers" D.Hall_offers
 Vu:Meth K D.Hall "place" D.Hall_place
 DY:Meth K D.Hall "size" D.Hall_size
 Cq:bZ K D.Hall "leads"
 Ho:bZ K D.Hall "name"
 lg:bZ K D.Hall "numbers"
 pP:bZ K D.Hall "offered"
 HX:bZ K D.Hall "pay"
 tK:bZ K D.Hall "share"
 xi_NoRoom:Jd K D.NoRoom D.HallError D.NoRoom_init
 xs_NoRoom:Ri K D.NoRoom
 xk_NoRoom:yx K D.NoRoom
 hd_NoRoom:PySem.W.hasDictIn K D.NoRoom = true
 sm_NoRoom:PySem.W.mroIn K D.NoRoom (.ref D.HallError) = some true
 mQ:bZ K D.NoRoom "room"
 ki_NoRoom_NoChance:PySem.W.kitOne K (.ref D.NoRoom) (.ref D.NoChance) = some false
 ki_NoRoom_NoDoor:PySem.W.kitOne K (.ref D.NoRoom) (.ref D.NoDoor) = some false
 ki_NoRoom_NoName:PySem.W.kitOne K (.ref D.NoRoom) (.ref D.NoName) = some false
 ki_NoRoom_NoNumber:PySem.W.kitOne K (.ref D.NoRoom) (.ref D.NoNumber) = some false
 ki_NoRoom_NoPlan:PySem.W.kitOne K (.ref D.NoRoom) (.ref D.NoPlan) = some false
 ki_NoRoom_NoRoom:PySem.W.kitOne K (.ref D.NoRoom) (.ref D.NoRoom) = some true
 ki_NoRoom_NoRow:PySem.W.kitOne K (.ref D.NoRoom) (.ref D.NoRow) = some false
 ki_NoRoom_NoShare:PySem.W.kitOne K (.ref D.NoRoom) (.ref D.NoShare) = some false
 ki_NoRoom_NoText:PySem.W.kitOne K (.ref D.NoRoom) (.ref D.NoText) = some false
 ki_NoRoom_ValueError:PySem.W.kitOne K (.ref D.NoRoom) (.type "ValueError") = some true
 ib_HallError:Rg K D.HallError
 vO:jH K D.Door "__init__" D.Door_init
 Ec:pq K uF uY rN gZ D.Door_init
 W4:jH K D.Door "ways" D.Door_ways
 Gr:pq K uO uP rA jq D.Door_ways
 M6:jH K D.Door "chance_to" D.Door_chance_to
 M4:pq K vq vm wR v8 D.Door_chance_to
 VP:jH K D.Sure "__init__" D.Sure_init
 DX:pq K vD uV qX jy D.Sure_init
 tH:jH K D.Mixed "__init__" D.Mixed_init
 Bx:pq K tL tD pL eU D.Mixed_init
 W2:jH K D.Toss "__init__" D.Toss_init
 Fo:pq K uy uK rW jR D.Toss_init
 Xi:jH K D.Even "__init__" D.Even_init
 Fg:pq K uX wg mZ jA D.Even_init
 V4:jH K D.Hall "__init__" D.Hall_init
 FT:pq K vY uG m9 jG D.Hall_init
 Yi:jH K D.Hall "size" D.Hall_size
 FJ:pq K vK vM qG ju D.Hall_size
 Vm:jH K D.Hall "names" D.Hall_names
 Vs:pq K Cm Bs G6 Cr D.Hall_names
 Vr:jH K D.Hall "place" D.Hall_place
 Vn:pq K BP Cg Fy Br D.Hall_place
 Lf:jH K D.Hall "check_room" D.Hall_check_room
 tW:pq K lZ mU jF dY D.Hall_check_room
 QF:jH K D.Hall "door_at" D.Hall_door_at
 QJ:pq K yr yh Bg yj D.Hall_door_at
 R_:jH K D.Hall "offers" D.Hall_offers
 Av:pq K qt pY j_ gU D.Hall_offers
 Ab:pq K qu rD nU gC D.NoRoom_init
 FQ:mg "ValueError" = none
 Ji:mg "abs" = none
 U_:mg "all" = none
 El:mg "bool" = none
 RQ:mg "int" = none
 b_:mg "isinstance" = none
 m5:mg "len" = none
 zj:mg "list" = none
 mW:mg "range" = none
 Tq:mg "sorted" = none
 aaS:mg "str" = none
 Rq:mg "sum" = none
 N7:mg "tuple" = none
 Mi:mg "zip" = none
 adH:dI K mg Q0 V9 Ru
 Kl:dI K mg gW ud fZ
 Qm:dI K mg i_ w6 jf
 VF:dI K mg iR Eh iV
 Lq:dI K mg gk uh gG
 Zj:dI K mg sI Ko sS
 WK:dI K mg rP Hr rF
 Yn:dI K mg qM Gd qO
 aam:dI K mg vP Lw vA
 XF:dI K mg oK GC oM
 Og:dI K mg k_ yD kY
 f_total:dI K mg rT DW qK
 BJ:dI K mg gQ iU gF
 Bp:dI K mg gO nF gA
 X_:dI K mg nZ yI nW
 Pk:dI K mg jc sG jg
 Dy:dI K mg fQ oV fP
 uM:dI K mg dh jO dj
 zx:dI K mg d9 mR d_
 Bo:dI K mg gj j7 gB
 BR:dI K mg gP kj gJ
 Cd:dI K mg gw nQ gR
 Hw:dI K mg iI pH iM
 xZ:dI K mg eY lu fG
 Jf:dI K mg jw qj jB
 Y8:dI K mg sX Kh sU
 Uv:dI K mg fD Ax fu
 aa9:dI K mg xH U9 wM
 Rw:dI K mg jV Am jZ
 Ir:dI K mg jr qy jo
 Em:dI K mg iQ lN iK
 YL:dI K mg wj s_same vG
 XQ:dI K mg qd sH rH
 Wn:dI K mg rG EY qH
 adB:dI K mg wC Uz wQ
 ZL:dI K mg vB uo uJ
 VG:dI K mg qL yG qW
 Ws:dI K mg rQ vX qg
 Zi:dI K mg vZ Gk uz
 f_look:dI K mg uZ Kv u_
 aan:dI K mg vC KR vW
 Rp:dI K mg ou vg nY
 WQ:dI K mg pW yH qI
 Ou:dI K mg mz wI mD
noncomputable def Fam (D:Adr) (C:Addr):Prop:=C = D.Door\/C = D.Sure\/C = D.Mixed\/C = D.Toss\/C = D.Even\/C = D.Hall
theorem Txt.cl {K:Frag} {mg:Str->Option Value} {D:Adr} (T:Txt K mg D):∀ C,Fam D C->Cls K C:=by
 rintro C (rfl | rfl | rfl | rfl | rfl | rfl)
 .exact T.U7
 .exact T.IW
 .exact T.PK
 .exact T.U6
 .exact T.QS
 .exact T.qw
theorem Txt.zP {K:Frag} {mg:Str->Option Value} {D:Adr} (T:Txt K mg D):∀ C,Fam D C->bZ K C "leads" := by
 rintro C (rfl | rfl | rfl | rfl | rfl | rfl)
 .exact T.Bw
 .exact T.tQ
 .exact T.zZ
 .exact T.Cu
 .exact T.Cp
 .exact T.Cq
theorem Txt.yP {K:Frag} {mg:Str->Option Value} {D:Adr} (T:Txt K mg D):∀ C,Fam D C->bZ K C "name" := by
 rintro C (rfl | rfl | rfl | rfl | rfl | rfl)
 .exact T.GZ
 .exact T.Ew
 .exact T.BX
 .exact T.Hx
 .exact T.Hv
 .exact T.Ho
theorem Txt.Uw {K:Frag} {mg:Str->Option Value} {D:Adr} (T:Txt K mg D):∀ C,Fam D C->bZ K C "pay" := by
 rintro C (rfl | rfl | rfl | rfl | rfl | rfl)
 .exact T.Ij
 .exact T.Jc
 .exact T.Gj
 .exact T.Iu
 .exact T.HS
 .exact T.HX
noncomputable def dw (D:Adr) (C:Addr):Prop:=C = D.Hall
theorem dw.fam {D:Adr} {C:Addr} (h:dw D C):Fam D C:=by
 unfold dw at h
 unfold Fam
 simp [h]
theorem Txt.t_ {K:Frag} {mg:Str->Option Value} {D:Adr} (T:Txt K mg D):∀ C,dw D C->Meth K C "check_room" D.Hall_check_room:=by
 rintro C (rfl)
 .exact T.um
noncomputable def fB (D:Adr) (C:Addr):Prop:=C = D.Hall
theorem fB.fam {D:Adr} {C:Addr} (h:fB D C):Fam D C:=by
 unfold fB at h
 unfold Fam
 simp [h]
theorem Txt.za {K:Frag} {mg:Str->Option Value} {D:Adr} (T:Txt K mg D):∀ C,fB D C->Meth K C "offers" D.Hall_offers:=by
 rintro C (rfl)
 .exact T.zT
noncomputable def iu (D:Adr) (C:Addr):Prop:=C = D.Hall
theorem iu.fam {D:Adr} {C:Addr} (h:iu D C):Fam D C:=by
 unfold iu at h
 unfold Fam
 simp [h]
theorem Txt.GP {K:Frag} {mg:Str->Option Value} {D:Adr} (T:Txt K mg D):∀ C,iu D C->Meth K C "size" D.Hall_size:=by
 rintro C (rfl)
 .exact T.DY
noncomputable def dR (D:Adr) (C:Addr):Prop:=C = D.Door\/C = D.Sure\/C = D.Mixed\/C = D.Toss\/C = D.Even
theorem dR.fam {D:Adr} {C:Addr} (h:dR D C):Fam D C:=by
 unfold dR at h
 unfold Fam
 rcases h with h | h | h | h | h <;> simp [h]
theorem Txt.Gp {K:Frag} {mg:Str->Option Value} {D:Adr} (T:Txt K mg D):∀ C,dR D C->Meth K C "ways" D.Door_ways:=by
 rintro C (rfl | rfl | rfl | rfl | rfl)
 .exact T.DQ
 .exact T.Fb
 .exact T.BK
 .exact T.Ei
 .exact T.D_
section
variable {P:Program} {w:World} {K:Frag} {mg:Str->Option Value} {base:Heap} {D:Adr}
theorem boot_abs:bootBuiltins "abs" = some (.builtin "abs"):=by decide +kernel
theorem aaJ:1 <= sizeLine:=by decide
theorem dG:2 <= sizeLine:=by decide
theorem Wh {n:Int} (h0:0 <= n) (h1:n <= 1000000):acp 10 n:=⟨h0,h1,by decide⟩
theorem aai {n:Nat} (h:n <= 64):n <= sizeLine:=aK h (by decide)
theorem Wv (ns:List Int) (k:Nat):atI (qY (ns.map V.int) (some (k:Int)) (some ((k:Int) + 1)) ++ [V.int 0]) 0 = some (V.int (ns.getD k 0)):=by
 unfold qY
 rw [show ((k:Int) + 1) = ((k + 1:Nat):Int) by omega,HT.pC,HT.pC,ak]
 refine bY (j:=0) ?_
 by_cases h:k < ns.length
 .rw [Nat.min_eq_left (Nat.le_of_lt h),Nat.min_eq_left (Nat.succ_le_of_lt h)]
  rw [show k + 1 - k = 1 by omega]
  rw [List.drop_eq_getElem_cons (by rw [ak]; exact h)]
  simp [List.getD,h]
 .have e1:min k ns.length = ns.length:=by omega
  have e2:min (k + 1) ns.length = ns.length:=by omega
  rw [e1,e2]
  simp [List.getD,List.getElem?_eq_none (Nat.le_of_not_lt h)]
theorem cA {t u:TS} {D:Ends} {σ:L2.St} {H:Hp} (h:∀ u',u' = u->pR t u' D σ H):pR t u D σ H:=h u rfl
theorem Dd {a b c d:TS} {D:Ends} {σ:L2.St} {H:Hp} (h:∀ d',d' = d->pR a (pR b (pR c d')) D σ H):pR a (pR b (pR c d)) D σ H:=h d rfl
theorem qx {α:Type} : ∀ {l:List α},l.length = 2->∃ a b,l = [a,b]
 | [a,b],_=>⟨a,b,rfl⟩
theorem jT {te:TE} {D:Ends} {σ:L2.St} {H:Hp} (h:te σ H D.rt):OD te D σ H:=h
theorem jW {t u:TS} {D:Ends} {σ:L2.St} {H:Hp} (h:t { D with nx:=u D } σ H):pR t u D σ H:=h
theorem cM {te:TE} {g:TG} {u:TS} {D:Ends} {σ:L2.St} {H:Hp} (h:te σ H fun x H1=>g x σ H1 (u D)):pR (G5 te g) u D σ H:=h
theorem Kd {r:List V->Hp->VK->Prop} {te:TE} {σ:L2.St} {H:Hp} {Q:VK} (h:te σ H fun x H1=>r [x] H1 Q):tCB r (xM te wX) σ H Q:=h
noncomputable def kW:Sp:=fun vs H Q _=>∃ x t,vs = [x]/\tyS H x = some t/\Q (.bl (t == "int")) H
theorem HJ (F:Fun K gW gW ud f fd) (T:Txt K mg D):cj P w K mg base CX0 1 f fd fZ kW:=by
 refine F.ok Jq (fun vs H Q E h=>?_) (fun cdv A outer s H vs Q E hr h=>?_)
 .obtain ⟨x,t,rfl,_⟩:=h
  rfl
 .obtain ⟨x,t,rfl,ht,q⟩:=h
  refine ⟨_,(bI (bU (yS (bR iJ (by rfl) T.b_ boot_isinstance (bw (pv 0) (bw (jM (v:=.ty "int") (by rfl) T.RQ boot_int rfl) bD))) (Ak (YS (bR iJ (by rfl) T.b_ boot_isinstance (bw (pv 0) (bw (jM (v:=.ty "bool") (by rfl) T.El boot_bool rfl) bD)))))))),?_⟩
  walk_at "rd"
  rw [ht]
  walk_at "rd"
  have hm:=Ss ht
  simp only [List.mem_cons,List.not_mem_nil,or_false] at hm
  rcases hm with rfl | rfl | rfl | rfl | rfl | rfl | rfl <;> simpa using q
noncomputable def Bj:Sp:=fun vs H Q _=>∃ (a b:Int),vs = [.int a,.int b]/\Q (.int (Int.gcd a b:Nat)) H
theorem Zr (F:Fun K xH xH U9 f fd) (T:Txt K mg D):cj P w K mg base CX0 1 f fd wM Bj:=by
 refine cj.clean (sp:=fun vs H Q _=>∃ (a b:Int),vs = [.int a,.int b]/\∀ H',Same H H'->Q (.int (Int.gcd a b:Nat)) H')
  (F.ok Eo (fun vs H Q E h=>?_) (fun cdv A outer s H vs Q E hr h=>?_)) fun vs H Q E ⟨a,b,h1,h4⟩=>⟨a,b,h1,fun H' S=>⟨S,h4⟩⟩
 .obtain ⟨a,b,rfl,_⟩:=h
  rfl
 .obtain ⟨a,b,rfl,q⟩:=h
  refine ⟨_,(bG (Gq (bR Qu (by rfl) T.Tq boot_sorted (bw (iH (bw (bR qT (by rfl) T.Ji boot_abs (bw (pv 0) bD)) (bw (bR qT (by rfl) T.Ji boot_abs (bw (pv 1) bD)) bD))) bD)) (X4 (n:=2) rfl (cu (cF (i:=2) Eo.nd rfl (Or.inl rfl)) (cu (cF (i:=3) Eo.nd rfl (Or.inl rfl)) fK))))
   (bG (IV PassesOwn.never (cN Nj (pv 2) bC (cH _))
    (bI (ZR (i:=2) (j:=3) rfl Eo.nd rfl rfl (by decide) rfl rfl (bw (bL j8 (pv 3) (pv 2)) (bw (pv 2) bD)) rfl)))
   (bI (bU (pv 3))))),?_⟩
  walk_at "rd"
  refine ⟨dG,fun p hp=>⟨[(a.natAbs:Int),(b.natAbs:Int)],?_,(by simp),fun ms p1 hp1 hm hs=>?_⟩⟩
  .rw [Fp,Fp]; rfl
  have S:Same H (upd (upd H p (HO.lst [V.int (if a < 0 then -a else a),V.int (if b < 0 then -b else b)])) p1 (HO.lst (ms.map V.int))):=(Same.upd hp).trans (Same.upd hp1)
  generalize upd (upd H p (HO.lst [V.int (if a < 0 then -a else a),V.int (if b < 0 then -b else b)])) p1 (HO.lst (ms.map V.int)) = H1 at S
  have hk:∃ l k:Nat,ms = [(l:Int),(k:Int)]/\Nat.gcd l k = Int.gcd a b:=by
   rcases Q8 hm with rfl | rfl
   .exact ⟨_,_,rfl,rfl⟩
   .exact ⟨_,_,rfl,Nat.gcd_comm _ _⟩
  obtain ⟨l,k,rfl,hg⟩:=hk
  walk_at "rd"
  refine JD (fun σ H2=>∃ l k:Nat,σ = [some (.int a),some (.int b),some (.int l),some (.int k)]/\H2 = H1/\Nat.gcd l k = Int.gcd a b)
   (fun σ _=>match σ with | [_,_,some (.int l),_]=>l.natAbs | _=>0) ⟨l,k,rfl,rfl,hg⟩ ?_ ?_
  .rintro σ H2 ⟨l,k,rfl,rfl,hg⟩
   walk_at "rd"
   by_cases hl:l = 0
   .subst hl
    simp only [Int.natCast_zero,Int.lt_irrefl,decide_false,Bool.false_eq_true,if_false]
    rw [show k = Int.gcd a b by rw [<- hg,Nat.gcd_zero_left]]
    exact q _ S
   .have hl':(0:Int) < l:=by omega
    rw [if_pos (decide_eq_true hl')]
    refine ⟨by omega,⟨k % l,uL _ _,l,rfl,?_⟩,?_⟩
    .rw [<- Nat.gcd_rec]; exact hg
    .rw [uL]
     show (k % l) < l
     exact Nat.mod_lt _ (by omega)
  .intro σ H2 Q1 Q2 hq
   walk_at "rd"
   rintro ⟨v,h1,i,h2,h3⟩
   exact ⟨v,h1,i,h2,hq _ _ h3⟩
theorem Gw {a b:Int} (h:b ≠ 0):(0:Int) < (Int.gcd a b:Nat):=by
 have:=Int.gcd_pos_of_ne_zero_right a h
 omega
theorem Kz {a b:Int} (h:b ≠ 0) (hb:Bd b):Bd (Int.gcd a b:Nat):=by
 unfold Bd at *
 refine Nat.lt_of_le_of_lt ?_ hb
 rw [Int.natAbs_natCast]
 exact Nat.le_of_dvd (by omega) (Int.gcd_dvd_natAbs_right a b)
noncomputable def fY:Sp:=fun vs H Q _=>∃ (a b:Int),vs = [.int a,.int b]/\Q (.int (Int.gcd a b:Nat)) H
noncomputable def aeZ (a b:Int) (H1:Hp) (σ:L2.St) (H:Hp):Prop:=∃ (l k:Nat) (z:Option V),σ = [some (.int a),some (.int b),some (.int l),some (.int k),z]/\H = H1/\Nat.gcd l k = Int.gcd a b
theorem Lj (F:Fun K i_ i_ w6 f fd) (T:Txt K mg D):cj P w K mg base CX0 1 f fd jf fY:=by
 refine F.ok j4 (fun vs H Q E h=>?_) (fun cdv A outer s H vs Q E hr h=>?_)
 .obtain ⟨a,b,rfl,_⟩:=h
  rfl
 .obtain ⟨a,b,rfl,q⟩:=h
  refine ⟨_,(bG (bQ (i:=2) j4.nd rfl (Or.inl rfl) (bR qT (by rfl) T.Ji boot_abs (bw (pv 0) bD)))
   (bG (bQ (i:=3) j4.nd rfl (Or.inl rfl) (bR qT (by rfl) T.Ji boot_abs (bw (pv 1) bD)))
   (bG (IV PassesOwn.never (cN Ob (pv 3) bC (cH _))
    (bG (bQ (i:=4) j4.nd rfl (Or.inl rfl) (bL j8 (pv 2) (pv 3)))
    (bG (bQ (i:=2) j4.nd rfl (Or.inl rfl) (pv 3))
    (bI (bQ (i:=3) j4.nd rfl (Or.inl rfl) (pv 4))))))
   (bI (bU (pv 2)))))),?_⟩
  walk_at "rd"
  rw [Fp,Fp]
  refine JD (aeZ a b H) (fun σ _=>match σ with | [_,_,_,some (.int k),_]=>k.natAbs | _=>0) ⟨a.natAbs,b.natAbs,none,rfl,rfl,rfl⟩ ?_ ?_
  .rintro σ H2 ⟨l,k,z,rfl,rfl,hg⟩
   walk_at "rd"
   by_cases hl:k = 0
   .subst hl
    rw [if_neg (by simp)]
    rw [show l = Int.gcd a b by rw [<- hg,Nat.gcd_zero_right]]
    exact q
   .have hl':¬ ((k:Int) = 0):=by omega
    rw [if_pos (by simpa using hl)]
    refine ⟨by omega,⟨k,l % k,some (.int ((l % k:Nat):Int)),?_,rfl,?_⟩,?_⟩
    .rw [uL]
    .rw [Nat.gcd_comm,<- Nat.gcd_rec,Nat.gcd_comm]; exact hg
    .rw [uL]
     show (l % k) < k
     exact Nat.mod_lt _ (by omega)
  .intro σ H2 Q1 Q2 hq
   walk_at "rd"
   rintro ⟨v,h1,h2,h3⟩
   exact ⟨v,h1,h2,hq _ _ h3⟩
structure Low (t b x y:Int):Prop where
 pos:0 < y
 gcd:Int.gcd x y = 1
 eq:x * b = t * y
 lx:x.natAbs <= t.natAbs
 ly:y.natAbs <= b.natAbs
theorem zf {c q:Int} (h:c ≠ 0):Int.fdiv (c * q) c = q:=by
 rw [Int.fdiv_eq_ediv_of_dvd (Int.dvd_mul_right c q),Int.mul_ediv_cancel_left _ h]
theorem Az {c q:Int} (h:c ≠ 0):q.natAbs <= (c * q).natAbs:=by
 rw [Int.natAbs_mul]
 exact Nat.le_mul_of_pos_left _ (by omega)
theorem Vk {t b c:Int} (hb:b ≠ 0) (hc:c ≠ 0) (hg:c.natAbs = Int.gcd t b) (hs:0 < c * b):Low t b (Int.fdiv t c) (Int.fdiv b c):=by
 have d1:c ∣ t:=Int.natAbs_dvd.mp (by rw [hg]; exact Int.gcd_dvd_left t b)
 have d2:c ∣ b:=Int.natAbs_dvd.mp (by rw [hg]; exact Int.gcd_dvd_right t b)
 obtain ⟨x,rfl⟩:=d1
 obtain ⟨y,rfl⟩:=d2
 rw [zf hc,zf hc]
 refine ⟨?_,?_,?_,Az hc,Az hc⟩
 .rw [<- Int.mul_assoc] at hs
  have hp:0 < c * c:=by
   rcases Int.lt_or_lt_of_ne hc with z | z
   .exact Int.mul_pos_of_neg_of_neg z z
   .exact Int.mul_pos z z
  exact Int.pos_of_mul_pos_right hs hp
 .rw [Int.gcd_mul_left] at hg
  have hp:0 < c.natAbs:=by omega
  exact Nat.eq_of_mul_eq_mul_left hp (by rw [Nat.mul_one]; exact hg.symm)
 .rw [Int.mul_left_comm,Int.mul_assoc]
noncomputable def gH:Sp:=fun vs H Q _=>∃ (t b:Int),vs = [.int t,.int b]/\b ≠ 0/\Bd b/\∀ p x y,Low t b x y->H p = none->Q (.ref p) (upd H p (.tup [.int x,.int y]))
theorem SQ {i:Int} (h:Bd i):Bd (-i):=by unfold Bd at *; rw [Int.natAbs_neg]; exact h
theorem Ui (F:Fun K iR iR Eh f fd) (T:Txt K mg D) (dZ:OkF P w K mg base 1 gW fZ kW) (fU:OkF P w K mg base 1 i_ jf fY):cj P w K mg base CX0 2 f fd iV gH:=by
 refine F.ok Ar (fun vs H Q E h=>?_) (fun cdv A outer s H vs Q E hr h=>?_)
 .obtain ⟨t,b,rfl,_⟩:=h
  rfl
 .obtain ⟨t,b,rfl,hb,hbd,q⟩:=h
  refine ⟨_,(bG (cW (PW.pt (pw_or (dM (dz (bK dZ (hr.mono (by decide)) (by rfl) (bw (pv 0) bD)) (fun _=>rfl))) (pw_or1 (dM (dz (bK dZ (hr.mono (by decide)) (by rfl) (bw (pv 1) bD)) (fun _=>rfl))))))
    (bI n_)
    cB)
   (bG (cW (cN mF (pv 1) bC (cH _))
    (bI n_)
    cB)
   (bG (bQ (i:=2) Ar.nd rfl (Or.inl rfl) (bK fU (hr.mono (by decide)) (by rfl) (bw (pv 0) (bw (pv 1) bD))))
   (bG (cW (cN zO (pv 1) bC (cH _))
    (bI (bQ (i:=2) Ar.nd rfl (Or.inl rfl) (N8 Ga (pv 2))))
    cB)
   (bI (bU (c7 (bw (bL jt (pv 0) (pv 2)) (bw (bL jt (pv 1) (pv 2)) bD))))))))),?_⟩
  unfold kW fY
  walk_at "rd"
  have g0:=Gw (a:=t) hb
  have g1:=Kz (a:=t) hb hbd
  rw [if_neg (by simpa using hb)]
  refine Xo (fun hn=>?_) fun hn=>?_
  .rw [decide_eq_true_eq] at hn
   refine ⟨by omega,SQ g1,by omega,SQ g1,dG,fun p hp=>q p _ _ (Vk hb (by omega) (by omega) ?_) hp⟩
   exact Int.mul_pos_of_neg_of_neg (by omega) hn
  .rw [decide_eq_true_eq] at hn
   refine ⟨by omega,g1,by omega,g1,dG,fun p hp=>q p _ _ (Vk hb (by omega) (by omega) ?_) hp⟩
   exact Int.mul_pos g0 (by omega)
noncomputable def oG:Sp:=fun vs H Q _=>∃ (p q:Addr) (x y u v:Int),vs = [.ref p,.ref q]/\SqT K H p [.int x,.int y]/\SqT K H q [.int u,.int v]/\Bd x/\Bd y/\Bd u/\Bd v/\Q (.bl (decide (x * v < u * y))) H
theorem Rt (F:Fun K oK oK GC f fd):cj P w K mg base CX0 1 f fd oM (oG (K:=K)):=by
 refine F.ok Ur (fun vs H Q E h=>?_) (fun cdv A outer s H vs Q E hr h=>?_)
 .obtain ⟨p,q,x,y,u,v,rfl,_⟩:=h
  rfl
 .obtain ⟨p,q,x,y,u,v,rfl,hp,hq,bx,b_y,bu,bv,k⟩:=h
  refine ⟨_,(bI (bU (kE zO (bL cC (bM d7 (pv 0) bC (fun _ _=>rfl)) (bM d7 (pv 1) bC (fun _ _=>rfl))) (bL cC (bM d7 (pv 1) bC (fun _ _=>rfl)) (bM d7 (pv 0) bC (fun _ _=>rfl))) (cH _)))),?_⟩
  walk_at "rd"
  exact ⟨_,hp,_,cV,_,hq,_,cG,_,rfl,_,rfl,bx,bv,_,hq,_,cV,_,hp,_,cG,_,rfl,_,rfl,bu,b_y,k⟩
noncomputable def o9 (g:Int->Int->Int):Sp:=fun vs H Q _=>∃ (p q:Addr) (x y u v:Int),vs = [.ref p,.ref q]/\SqT K H p [.int x,.int y]/\SqT K H q [.int u,.int v]/\Bd x/\Bd y/\Bd u/\Bd v/\0 < y/\0 < v/\Bd (y * v) /\
 ∀ r z o,Low (g (x * v) (u * y)) (y * v) z o->H r = none->Q (.ref r) (upd H r (.tup [.int z,.int o]))
theorem VN (F:Fun K sI sI Ko f fd) (d8:OkF P w K mg base 2 iR iV gH):cj P w K mg base CX0 3 f fd sS (o9 (K:=K) fun a b=>a + b):=by
 refine F.ok Wy (fun vs H Q E h=>?_) (fun cdv A outer s H vs Q E hr h=>?_)
 .obtain ⟨p,q,x,y,u,v,rfl,_⟩:=h
  rfl
 .obtain ⟨p,q,x,y,u,v,rfl,hp,hq,bx,b_y,bu,bv,y0,v0,byv,k⟩:=h
  refine ⟨_,(bI (bU (bK d8 (hr.mono (by decide)) (by rfl) (bw (bL cT (bL cC (bM d7 (pv 0) bC (fun _ _=>rfl)) (bM d7 (pv 1) bC (fun _ _=>rfl))) (bL cC (bM d7 (pv 1) bC (fun _ _=>rfl)) (bM d7 (pv 0) bC (fun _ _=>rfl)))) (bw (bL cC (bM d7 (pv 0) bC (fun _ _=>rfl)) (bM d7 (pv 1) bC (fun _ _=>rfl))) bD))))),?_⟩
  unfold gH
  walk_at "rd"
  exact ⟨_,hp,_,cV,_,hq,_,cG,_,rfl,_,rfl,bx,bv,_,hq,_,cV,_,hp,_,cG,_,rfl,_,rfl,bu,b_y,_,hp,_,cG,_,hq,_,cG,_,rfl,_,rfl,b_y,bv,Int.ne_of_gt (Int.mul_pos y0 v0),byv,fun r z o l hr=>k r z o l hr⟩
theorem Ra (F:Fun K rP rP Hr f fd) (d8:OkF P w K mg base 2 iR iV gH):cj P w K mg base CX0 3 f fd rF (o9 (K:=K) fun a b=>a - b):=by
 refine F.ok Uo (fun vs H Q E h=>?_) (fun cdv A outer s H vs Q E hr h=>?_)
 .obtain ⟨p,q,x,y,u,v,rfl,_⟩:=h
  rfl
 .obtain ⟨p,q,x,y,u,v,rfl,hp,hq,bx,b_y,bu,bv,y0,v0,byv,k⟩:=h
  refine ⟨_,(bI (bU (bK d8 (hr.mono (by decide)) (by rfl) (bw (bL wz (bL cC (bM d7 (pv 0) bC (fun _ _=>rfl)) (bM d7 (pv 1) bC (fun _ _=>rfl))) (bL cC (bM d7 (pv 1) bC (fun _ _=>rfl)) (bM d7 (pv 0) bC (fun _ _=>rfl)))) (bw (bL cC (bM d7 (pv 0) bC (fun _ _=>rfl)) (bM d7 (pv 1) bC (fun _ _=>rfl))) bD))))),?_⟩
  unfold gH
  walk_at "rd"
  exact ⟨_,hp,_,cV,_,hq,_,cG,_,rfl,_,rfl,bx,bv,_,hq,_,cV,_,hp,_,cG,_,rfl,_,rfl,bu,b_y,_,hp,_,cG,_,hq,_,cG,_,rfl,_,rfl,b_y,bv,Int.ne_of_gt (Int.mul_pos y0 v0),byv,fun r z o l hr=>k r z o l hr⟩
noncomputable def tX (c:Nat):Bool:=decide (c ∈ (Str.ofString "abcdefghijklmnopqrstuvwxyz").cps.toList)
noncomputable def jj (l:List Nat):Bool:=decide (1 <= l.length) && decide (l.length <= 8) && l.all tX
theorem Wg (c:Nat):((!decide ([c] < [97])) && !decide ([122] < [c])) = tX c:=by
 have e:(Str.ofString "abcdefghijklmnopqrstuvwxyz").cps.toList = (List.range 26).map (97 + ·):=by decide +kernel
 have m:c ∈ (List.range 26).map (97 + ·) ↔ 97 <= c/\c <= 122:=by
  rw [List.mem_map]
  constructor
  .rintro ⟨i,h,rfl⟩
   have:=List.mem_range.mp h
   exact ⟨Nat.le_add_right ..,by omega⟩
  .exact fun h=>⟨c - 97,List.mem_range.mpr (by omega),by omega⟩
 have h1:([c] < [97]) ↔ c < 97:=by rw [List.cons_lt_cons_iff]; simp
 have h2:([122] < [c]) ↔ 122 < c:=by rw [List.cons_lt_cons_iff]; simp
 unfold tX
 rw [e,decide_eq_decide.mpr m,decide_eq_decide.mpr h1,decide_eq_decide.mpr h2]
 by_cases a:c < 97
 .rw [decide_eq_true a,decide_eq_false (p:=97 <= c/\c <= 122) (by omega)]; rfl
 .by_cases b:122 < c
  .rw [decide_eq_true b,decide_eq_false (p:=97 <= c/\c <= 122) (by omega)]; exact Bool.and_false _
  .rw [decide_eq_false a,decide_eq_false b,decide_eq_true ⟨by omega,by omega⟩]; rfl
noncomputable def qe:Sp:=fun vs H Q _=>∃ v,vs = [v]/\((∃ x:Str,v = .str x/\x.length <= 1000/\Q (.bl (jj x.cps.toList)) H)\/∃ t,tyS H v = some t/\t ≠ "str" /\ Q (.bl false) H)
theorem Km (F:Fun K jc jc sG f fd) (T:Txt K mg D):cj P w K mg base CX0 1 f fd jg qe:=by
 refine cj.clean (sp:=fun vs H Q _=>∃ v,vs = [v]/\((∃ x:Str,v = .str x/\x.length <= 1000/\∀ H',Same H H'->Q (.bl (jj x.cps.toList)) H')\/∃ t,tyS H v = some t/\t ≠ "str" /\ ∀ H',Same H H'->Q (.bl false) H'))
  (F.ok K9 (fun vs H Q E h=>?_) (fun cdv A outer s H vs Q E hr h=>?_)) fun vs H Q E ⟨v,h1,h2⟩=>⟨v,h1,h2.imp (fun ⟨x,a,b,c⟩=>⟨x,a,b,fun H' S=>⟨S,c⟩⟩) fun ⟨t,a,b,c⟩=>⟨t,a,b,fun H' S=>⟨S,c⟩⟩⟩
 .obtain ⟨v,rfl,_⟩:=h
  rfl
 .obtain ⟨v,rfl,h⟩:=h
  refine ⟨_,(bG (cW (PW.pt (pw_or (dM (dz (bR iJ (by rfl) T.b_ boot_isinstance (bw (pv 0) (bw (jM (v:=.ty "str") (by rfl) T.aaS boot_str rfl) bD))) (fun _=>rfl))) (pw_or1 (dM (Ie M9 M9 bC (bR Ed (by rfl) T.m5 PySem.boot_len (bw (pv 0) bD)) (RX (by rfl) T.zR))))))
    (bI (bU lG))
    cB)
   (bI (bU (bR (wO rfl) (by rfl) T.U_ boot_all (bw (jl (bH sG) wZ wZ ["sign"] (aak ((pv 0)).mono) (dU (i:=0)) cU (R5 Sq Sq mC (pv 0) mC)) bD))))),?_⟩
  rcases h with ⟨x,rfl,hx,q⟩ | ⟨t,ht,hne,q⟩
  .have hz:x.length <= sizeLine:=aK hx (by decide)
   have hl:x.cps.toList.length = x.length:=Array.length_toList
   have ea:Str.ofString "a" = ⟨#[97]⟩:=by decide +kernel
   have ez:Str.ofString "z" = ⟨#[122]⟩:=by decide +kernel
   walk_at "rd"
   refine ⟨hz,?_⟩
   by_cases h1:1 <= x.length
   .rw [if_pos (decide_eq_true (by omega))]
    by_cases h2:x.length <= 8
    .rw [if_neg (by rw [decide_eq_true (by omega)]; decide)]
     refine HD tX x (fun R h=>⟨_,rfl,h⟩) hz (fun c Hc R h=>?_) fun L hL=>⟨L,rfl,_,bB,?_⟩
     .simp only [pR,Ke,OD,SX,tOp,tUn,rU,Oa,I_,X3,tSl,Aa,tC,Od,rI0,rI,WT,Tf,X6,xM,wX,tCB,Ba,Bc,Wj,tOr,Us,MN,Mj,ZF,Xk,G5,W7,cL,Yh,Oi,N_,Oe,NP,Nv,Xu,Mg,Fv,Ky,vL,Er,Qg,Tv,rEq,rNe,Hq,zV,Mf,xG,Lk,Dz,FP,Ux,Ug,Zn,aac,Ends.unset,Xz,Ze,En,Vz,Np,Xc,VR,Ms,R4,Td,YQ,tSM,JX,GJ,Gm,Sv,Yg,Nq,G9,Ym,yM,G4,Nf,Rx,rJoin,Vf,Ub,tB,Jx,V7,T_,yK,M5,Ma,V1,Y5,Va,NZ,Fw,Tr,J_,QW,Aq,WD,Yq,yL,V.str.injEq,L2.start,List.replicate_succ,List.replicate_zero,Nat.reduceSub,Nat.reduceAdd,List.map_cons,List.map_nil,List.length_cons,List.length_nil,List.cons_append,List.nil_append,List.append_nil,List.getElem?_cons_zero,List.getElem?_cons_succ,List.set_cons_zero,List.set_cons_succ,List.set_nil,Option.some.injEq,exists_eq_left',exists_eq_left,exists_and_left,exists_and_right,exists_eq_right,exists_eq,exists_eq',and_assoc,V.int.injEq,V.ref.injEq,V.bl.injEq,V.ty.injEq,List.cons.injEq,HO.tup.injEq,HO.lst.injEq,and_true,true_and,reduceCtorEq,cV,cG,bB,decide_true,decide_false,Bool.not_true,Bool.not_false,if_true,if_false,ite_true,ite_false,Bool.false_eq_true,List.mem_cons,String.reduceEq,or_true,true_or,or_false,false_or,beq_self_eq_true,Bool.or_true,Bool.true_or,Bool.or_false,Bool.false_or,Bool.and_true,Bool.and_false,Bool.true_and,Bool.false_and,String.reduceBEq,Int.reduceToNat,Int.reducePow,Int.reduceMul,Int.reduceSub,Int.reduceAdd,Int.reduceNeg,Int.reduceLE,Int.reduceLT,Int.reduceEq,ne_eq,not_false_eq_true,not_true_eq_false,Int.cast_ofNat_Int,ea,ez]
      have:=Wg c
      rw [<- this] at h
      cases hd:(!decide ([c] < [97])) with
      | false=>rw [hd] at h; exact h
      | true=>rw [hd] at h; exact h
     .have ew:jj x.cps.toList = (x.cps.toList.map tX).all id:=by
       unfold jj
       rw [hl,decide_eq_true h1,decide_eq_true h2,List.all_map]; rfl
      rw [<- ew]
      exact q _ (Same.upd hL)
    .rw [if_pos (by rw [decide_eq_false (by omega)]; rfl)]
     have ew:jj x.cps.toList = false:=by
      unfold jj
      rw [hl,decide_eq_false h2,Bool.and_false]; rfl
     rw [ew] at q
     exact q _ (Same.refl _)
   .rw [if_neg (by rw [decide_eq_true_eq]; omega)]
    have ew:jj x.cps.toList = false:=by
     unfold jj
     rw [hl,decide_eq_false h1]; rfl
    rw [ew] at q
    exact q _ (Same.refl _)
  .simp only [pR,Ke,OD,SX,tOp,tUn,rU,Oa,I_,X3,tSl,Aa,tC,Od,rI0,rI,WT,Tf,X6,xM,wX,tCB,Ba,Bc,Wj,tOr,Us,MN,Mj,ZF,Xk,G5,W7,cL,Yh,Oi,N_,Oe,NP,Nv,Xu,Mg,Fv,Ky,vL,Er,Qg,Tv,rEq,rNe,Hq,zV,Mf,xG,Lk,Dz,FP,Ux,Ug,Zn,aac,Ends.unset,Xz,Ze,En,Vz,Np,Xc,VR,Ms,R4,Td,YQ,tSM,JX,GJ,Gm,Sv,Yg,Nq,G9,Ym,yM,G4,Nf,Rx,rJoin,Vf,Ub,tB,Jx,V7,T_,yK,M5,Ma,V1,Y5,Va,NZ,Fw,Tr,J_,QW,Aq,WD,Yq,yL,V.str.injEq,L2.start,List.replicate_succ,List.replicate_zero,Nat.reduceSub,Nat.reduceAdd,List.map_cons,List.map_nil,List.length_cons,List.length_nil,List.cons_append,List.nil_append,List.append_nil,List.getElem?_cons_zero,List.getElem?_cons_succ,List.set_cons_zero,List.set_cons_succ,List.set_nil,Option.some.injEq,exists_eq_left',exists_eq_left,exists_and_left,exists_and_right,exists_eq_right,exists_eq,exists_eq',and_assoc,V.int.injEq,V.ref.injEq,V.bl.injEq,V.ty.injEq,List.cons.injEq,HO.tup.injEq,HO.lst.injEq,and_true,true_and,reduceCtorEq,cV,cG,bB,decide_true,decide_false,Bool.not_true,Bool.not_false,if_true,if_false,ite_true,ite_false,Bool.false_eq_true,List.mem_cons,String.reduceEq,or_true,true_or,or_false,false_or,beq_self_eq_true,Bool.or_true,Bool.true_or,Bool.or_false,Bool.false_or,Bool.and_true,Bool.and_false,Bool.true_and,Bool.false_and,String.reduceBEq,Int.reduceToNat,Int.reducePow,Int.reduceMul,Int.reduceSub,Int.reduceAdd,Int.reduceNeg,Int.reduceLE,Int.reduceLT,Int.reduceEq,ne_eq,not_false_eq_true,not_true_eq_false,Int.cast_ofNat_Int,ht]
   rw [beq_eq_false_iff_ne.mpr hne]
   exact q _ (Same.refl _)
structure Fk (K:Frag) (H:Hp) (p:Addr) (x y:Int):Prop where
 at_:SqT K H p [.int x,.int y]
 pos:0 < y
 gcd:Int.gcd x y = 1
theorem Fk.same {K:Frag} {H H':Hp} {p:Addr} {x y:Int} (h:Fk K H p x y) (S:Same H H'):Fk K H' p x y:=⟨S.tup h.at_,h.pos,h.gcd⟩
noncomputable def fH:Sp:=fun vs H Q _=>∃ p x y,vs = [.ref p]/\Fk K H p x y/\Q (.bl true) H
theorem HY (F:Fun K gk gk uh f fd) (T:Txt K mg D) (dZ:OkF P w K mg base 1 gW fZ kW) (fU:OkF P w K mg base 1 i_ jf fY):cj P w K mg base CX0 2 f fd gG (fH (K:=K)):=by
 refine F.ok ql (fun vs H Q E h=>?_) (fun cdv A outer s H vs Q E hr h=>?_)
 .obtain ⟨p,x,y,rfl,_⟩:=h
  rfl
 .obtain ⟨p,x,y,rfl,hf,q⟩:=h
  have hp:=hf.at_
  refine ⟨_,(bG (cW (PW.pt (pw_or (dM (dz (bR (iJ.or Ih) (by rfl) T.b_ boot_isinstance (bw (pv 0) (bw (jM (v:=.ty "tuple") (by rfl) T.N7 boot_tuple rfl) bD))) (fun _=>rfl))) (pw_or1 (cN Ob (bR Qq (by rfl) T.m5 PySem.boot_len (bw (pv 0) bD)) bC (cH _)))))
    (bI (bU lG))
    cB)
   (bG (bQ (i:=1) ql.nd rfl (Or.inl rfl) (bM d7 (pv 0) bC (fun _ _=>rfl)))
   (bG (bQ (i:=2) ql.nd rfl (Or.inl rfl) (bM d7 (pv 0) bC (fun _ _=>rfl)))
   (bG (cW (PW.pt (pw_or (dM (dz (bK dZ (hr.mono (by decide)) (by rfl) (bw (pv 1) bD)) (fun _=>rfl))) (pw_or1 (dM (dz (bK dZ (hr.mono (by decide)) (by rfl) (bw (pv 2) bD)) (fun _=>rfl))))))
    (bI (bU lG))
    cB)
   (bI (bU (yS (kE Ys (pv 2) bC (cH _)) (Ak (kE mF (bK fU (hr.mono (by decide)) (by rfl) (bw (pv 1) (bw (pv 2) bD))) bC (cH _)))))))))),?_⟩
  unfold kW fY
  walk_at "rd"
  refine .inr ⟨⟨_,hp⟩,_,hp,?_⟩
  rw [if_neg (by simp)]
  refine ⟨_,hp,_,cV,_,hp,_,cG,_,vL,?_⟩
  rw [if_neg (by decide)]
  refine ⟨_,vL,?_⟩
  rw [if_neg (by decide)]
  have hy:=hf.pos
  refine ⟨y,rfl,?_⟩
  rw [if_pos (decide_eq_true (by omega))]
  refine ⟨x,rfl,y,rfl,?_⟩
  rw [hf.gcd]
  exact q
noncomputable def fM:Sp:=fun vs H Q _=>∃ (n:Str) (p:Addr) (x y:Int),vs = [.str n,.ref p]/\n.length <= 1000/\jj n.cps.toList = true/\Fk K H p x y/\Q .non H
theorem Bt (F:Fun K fQ fQ oV f fd) (T:Txt K mg D) (h_:OkF P w K mg base 1 jc jg qe) (fJ:OkF P w K mg base 2 gk gG (fH (K:=K))):cj P w K mg base (CXO P w) 3 f fd fP (fM (K:=K)):=by
 refine F.okX BL (fun vs H Q E h=>?_) (fun cdv A outer s H vs Q E hr h=>?_)
 .obtain ⟨n,p,x,y,rfl,_⟩:=h
  rfl
 .obtain ⟨n,p,x,y,rfl,hn,hw,hf,q⟩:=h
  refine ⟨_,(bG (cW (dM (dz (bK h_ (hr.mono (by decide)) (by rfl) (bw (pv 0) bD)) (fun _=>rfl)))
    (bI (pX rfl (by rfl) T.Bl T.Ju qQ (bw mC bD)))
    cB)
   (bI (cW (dM (dz (bK fJ (hr.mono (by decide)) (by rfl) (bw (pv 1) bD)) (fun _=>rfl)))
    (bI (pX rfl (by rfl) T.zA T.K6 qQ (bw mC bD)))
    cB))),?_⟩
  unfold qe fH
  walk_at "rd"
  rw [hw]
  exact .inl ⟨hn,⟨x,y,hf⟩,q⟩
noncomputable def iD (D:Adr):Sp:=fun vs H Q _=>∃ (s dx C:Addr) (n:Str) (p:Addr) (x y:Int),vs = [.ref s,.str n,.ref p]/\H s = some (.ins C dx [])/\Fam D C/\n.length <= 1000/\jj n.cps.toList = true/\Fk K H p x y /\
 ∀ l,upd H s (.ins C dx [("name",.str n),("pay",.ref p)]) l = none->Q .non (upd (upd H l (.lst [])) s (.ins C dx [("name",.str n),("pay",.ref p),("leads",.ref l)]))
theorem Es (F:Fun K uF uY rN f fd) (T:Txt K mg D) (fV:OkX P w K mg base 3 fQ fP (fM (K:=K))):cj P w K mg base (CXO P w) 4 f fd gZ (iD (K:=K) D):=by
 refine F.okX Ea (fun vs H Q E h=>?_) (fun cdv A outer s H vs Q E hr h=>?_)
 .obtain ⟨s,dx,C,n,p,x,y,rfl,_⟩:=h
  rfl
 .obtain ⟨o,dx,C,n,p,x,y,rfl,ho,hC,hn,hw,hf,q⟩:=h
  refine ⟨_,(bG (cY (fL fV (hr.mono (by decide)) (by rfl) eF (bw (pv 1) (bw (pv 2) bD))))
   (bG (qN (pv 0) (pv 1) rfl)
   (bG (qN (pv 0) (pv 2) rfl)
   (bI (qN (pv 0) (iH bD) rfl))))),?_⟩
  unfold fM
  walk_at "rd"
  have cl:=T.cl C hC
  refine ⟨hn,hw,⟨x,y,hf⟩,C,dx,[],ho,cl,T.yP C hC,(by decide),C,dx,_,rfl,cl,T.Uw C hC,(by show 1 < 1000; decide),aZ _,fun l hl=>?_⟩
  rw [m6] at hl ⊢
  have ne:o ≠ l:=bA bB hl
  refine ⟨C,dx,_,(bF ne).trans bB,cl,T.zP C hC,(by show 2 < 1000; decide),?_⟩
  have e:upd (upd (upd H o (.ins C dx (jm "pay" (.ref p) (jm "name" (.str n) [])))) l (.lst [])) o (.ins C dx (jm "leads" (.ref l) (jm "pay" (.ref p) (jm "name" (.str n) [])))) = upd (upd H l (.lst [])) o (.ins C dx [("name",.str n),("pay",.ref p),("leads",.ref l)]):=by
   funext b
   by_cases h1:b = o
   .subst h1; rw [bB,bB]; rfl
   .rw [bF h1,bF h1]
    by_cases h2:b = l
    .subst h2; rw [bB,bB]
    .rw [bF h2,bF h2,bF h1]
  rw [e]
  exact q l hl
noncomputable def iw:Sp:=fun vs H Q _=>∃ n:Str,vs = [.str n]/\n.length <= 1000/\jj n.cps.toList = true/\Q .non H
theorem tZ (F:Fun K dh dh jO f fd) (T:Txt K mg D) (h_:OkF P w K mg base 1 jc jg qe):cj P w K mg base (CXO P w) 2 f fd dj iw:=by
 refine F.okX uq (fun vs H Q E h=>?_) (fun cdv A outer s H vs Q E hr h=>?_)
 .obtain ⟨n,rfl,_⟩:=h
  rfl
 .obtain ⟨n,rfl,hn,hw,q⟩:=h
  refine ⟨_,(bI (cW (dM (dz (bK h_ (hr.mono (by decide)) (by rfl) (bw (pv 0) bD)) (fun _=>rfl)))
    (bI (pX rfl (by rfl) T.Bl T.Ju qQ (bw mC bD)))
    cB)),?_⟩
  unfold qe
  walk_at "rd"
  rw [hw]
  exact .inl ⟨hn,q⟩
structure Ck (K:Frag) (H:Hp) (p:Addr) (x y:Int):Prop where
 fk:Fk K H p x y
 lo:0 <= x
 hi:x <= y
 by_:Bd y
noncomputable def lY:Sp:=fun vs H Q _=>∃ p x y,vs = [.ref p]/\Ck K H p x y/\Q .non H
theorem yc (F:Fun K d9 d9 mR f fd) (T:Txt K mg D) (fJ:OkF P w K mg base 2 gk gG (fH (K:=K))) (nj:OkF P w K mg base 1 oK oM (oG (K:=K))):cj P w K mg base (CXO P w) 3 f fd d_ (lY (K:=K)):=by
 refine F.okX yq (fun vs H Q E h=>?_) (fun cdv A outer s H vs Q E hr h=>?_)
 .obtain ⟨p,x,y,rfl,_⟩:=h
  rfl
 .obtain ⟨p,x,y,rfl,hc,q⟩:=h
  refine ⟨_,(bI (cW (PW.pt (pw_or (dM (dz (bK fJ (hr.mono (by decide)) (by rfl) (bw (pv 0) bD)) (fun _=>rfl))) (pw_or (dz (bK nj (hr.mono (by decide)) (by rfl) (bw (pv 0) (bw (jN (by rfl) T.uT) bD))) (fun _=>rfl)) (pw_or1 (dz (bK nj (hr.mono (by decide)) (by rfl) (bw (jN (by rfl) T.JW) (bw (pv 0) bD))) (fun _=>rfl))))))
    (bI (pX rfl (by rfl) T.ux T.zy qQ (bw mC bD)))
    cB)),?_⟩
  unfold fH oG
  walk_at "rd"
  have hy:=hc.fk.pos
  have lo:=hc.lo
  have hi:=hc.hi
  have by_:=hc.by_
  have bx:Bd x:=Nat.lt_of_le_of_lt (by omega:x.natAbs <= y.natAbs) by_
  have b0:Bd 0:=Nat.two_pow_pos 8000
  have b1:Bd 1:=Nat.one_lt_two_pow (by decide)
  refine ⟨⟨x,y,hc.fk⟩,x,y,hc.fk.at_,0,1,T.sE H,bx,by_,b0,b1,?_⟩
  rw [if_neg (by simp; omega)]
  refine ⟨1,1,T.zJ H,x,y,hc.fk.at_,b1,b1,bx,by_,?_⟩
  rw [if_neg (by simp; omega)]
  exact q
noncomputable def lM (D:Adr):Sp:=fun vs H Q _=>∃ (s dx:Addr) (n m:Str) (p:Addr) (x y:Int),vs = [.ref s,.str n,.ref p,.str m]/\H s = some (.ins D.Sure dx [])/\n.length <= 1000/\jj n.cps.toList = true/\m.length <= 1000/\jj m.cps.toList = true/\Fk K H p x y /\
 ∀ t l H',H l = none->(∀ b o,b ≠ s->H b = some o->H' b = some o)->H' t = some (.tup [.str m,.ref D.ONE])->H' l = some (.lst [.ref t])->H' s = some (.ins D.Sure dx [("name",.str n),("pay",.ref p),("leads",.ref l)])->Q .non H'
theorem FW (F:Fun K vD uV qX f fd) (T:Txt K mg D) (g_:OkI P w K mg base (CXO P w) 4 D.Door_init gZ (iD (K:=K) D)) (jh:OkX P w K mg base 2 dh dj iw):cj P w K mg base (CXO P w) 5 f fd jy (lM (K:=K) D):=by
 refine F.okX Fi (fun vs H Q E h=>?_) (fun cdv A outer s H vs Q E hr h=>?_)
 .obtain ⟨s,dx,n,m,p,x,y,rfl,_⟩:=h
  rfl
 .obtain ⟨o,dx,n,m,p,x,y,rfl,ho,hn,hw,hm,hv,hf,q⟩:=h
  refine ⟨_,(bG (cY (vo T.vO g_ (hr.mono (by decide)) (by rfl) T.Rv eF (bw (pv 0) (bw (pv 1) (bw (pv 2) bD)))))
   (bG (cY (fL jh (hr.mono (by decide)) (by rfl) eF (bw (pv 3) bD)))
   (bI (qN (pv 0) (iH (bw (c7 (bw (pv 3) (bw (jN (by rfl) T.JW) bD))) bD)) rfl)))),?_⟩
  unfold iD iw
  walk_at "rd"
  refine ⟨dx,D.Sure,ho,(by simp [Fam]),hn,hw,⟨x,y,hf⟩,fun l hl=>⟨hm,hv,(by decide),fun t ht=>⟨(by decide),fun r hq=>?_⟩⟩⟩
  have ol:o ≠ l:=bA bB hl
  have ot:o ≠ t:=bA bB ht
  have lt:l ≠ t:=bA ((bF ol.symm).trans bB) ht
  have tr:t ≠ r:=bA bB hq
  have or_:o ≠ r:=bA ((bF ot).trans bB) hq
  refine ⟨D.Sure,dx,_,(bF or_).trans ((bF ot).trans bB),T.IW,T.tQ,(by show 3 < 1000; decide),?_⟩
  rw [bF ol.symm] at hl
  rw [bF ot.symm,bF lt.symm] at ht
  rw [bF tr.symm,bF or_.symm] at hq
  refine q t r _ ?_ (fun b u hb hu=>?_) ?_ ?_ bB
  .cases z:H r with
   | none=>rfl
   | some o' =>
    have bl:r ≠ l:=bA z hl
    rw [bF bl,z] at hq
    cases hq
  .have bl:b ≠ l:=bA hu hl
   have bt:b ≠ t:=bA hu ht
   have br:b ≠ r:=by
    intro e; subst e; rw [bF bl,hu] at hq; cases hq
   rw [bF hb,bF br,bF bt,bF hb,bF bl]; exact hu
  .rw [bF ot.symm,bF tr]; exact bB
  .rw [bF or_.symm]; exact bB
theorem Bd.sm {i:Int} (h:i.natAbs < 18446744073709551616):Bd i:=aQ h (aK (by decide:18446744073709551616 <= 2 ^ 64) (Nat.pow_le_pow_right (by decide) (by decide)))
noncomputable def dX:Sp:=fun vs H Q _=>∃ (c:Int) (n:Nat),vs = [.int c,.int n]/\n <= 100/\∀ (l:Addr) (xs:List Int) H',Same H H'->H l = none->H' l = some (.lst (xs.map V.int))->xs.length = n->(∀ x ∈ xs,0 <= x/\x < 2000000000)->Q (.ref l) H'
noncomputable def jS (c:Int) (n:Nat) (p:Addr) (H:Hp) (k:Nat) (σ:L2.St) (H':Hp):Prop:=∃ (xs:List Int) (m d:Int) (v:Option V),σ = [some (.int c),some (.int n),some (.ref p),some (.int m),some (.int d),v]/\(0 <= m/\m < 1999999973)/\0 <= d/\xs.length = k/\(∀ x ∈ xs,0 <= x/\x < 2000000000)/\Same H H'/\H' p = some (.lst (xs.map V.int))
theorem Pj (F:Fun K fD fD Ax f fd) (T:Txt K mg D):cj P w K mg base CX0 1 f fd fu dX:=by
 refine F.ok ji (fun vs H Q E h=>?_) (fun cdv A outer s H vs Q E hr h=>?_)
 .obtain ⟨c,n,rfl,_⟩:=h
  rfl
 .obtain ⟨c,n,rfl,hn,q⟩:=h
  refine ⟨_,(bG (bQ (i:=2) ji.nd rfl (Or.inl rfl) (iH bD))
   (bG (bQ (i:=3) ji.nd rfl (Or.inl rfl) (bL cQ (bL Lg (bL cT (bL cQ (pv 0) bC) bC) bC) bC))
   (bG (bQ (i:=4) ji.nd rfl (Or.inl rfl) bC)
   (bG (cW (PW.pt (pw_or (cN zO (pv 0) bC (cH _)) (pw_or1 (cN Ys (pv 0) (bL Hu bC bC) (cH _)))))
    (bI (bQ (i:=4) ji.nd rfl (Or.inl rfl) (bR qT (by rfl) T.Ji boot_abs (bw (pv 0) bD))))
    cB)
   (bG (jU PassesOwn.never rfl (jk (by rfl) T.mW (bw (pv 1) bD).mono) (cF (i:=5) ji.nd rfl (Or.inl rfl))
    (bG (bQ (i:=3) ji.nd rfl (Or.inl rfl) (bL cQ (bL cT (bL cT (bL cC (pv 3) (bL cT (bL cQ (pv 3) bC) bC)) (bL cC bC (pv 5))) bC) bC))
    (bG (cY (wB (pv 2) (bw (bM bN (iH (bw (pv 3) (bw (bL cQ (pv 4) bC) bD))) (n8 P0 (by rfl) T.RQ boot_int (bw (kE Nj (pv 4) bC (cH _)) bD)) (fun _ _=>rfl)) bD)))
    (bI (bQ (i:=4) ji.nd rfl (Or.inl rfl) (bL jt (pv 4) bC))))))
   (bI (bU (pv 2)))))))),?_⟩
  refine Dd fun R0 hR0=>?_
  walk_at "rd"
  refine ⟨aZ _,fun p hp=>⟨.inr (by constructor <;> decide),?_⟩⟩
  have m0:0 <= (c % 1999999973 + 31) * 765432101 % 1999999973/\(c % 1999999973 + 31) * 765432101 % 1999999973 < 1999999973:=⟨Int.emod_nonneg _ (by decide),Int.emod_lt_of_pos _ (by decide)⟩
  generalize (c % 1999999973 + 31) * 765432101 % 1999999973 = m at m0 ⊢
  have a0:0 <= (if c < 0 then -c else c):=by split <;> omega
  subst hR0
  refine cA fun R hR=>?_
  have loop:∀ d0:Int,0 <= d0->R { nx:=fun _ H'=>Q .non H',rt:=Q } [some (.int c),some (.int n),some (.ref p),some (.int m),some (.int d0),none] (upd H p (.lst [])):=by
   intro d0 a0
   subst hR
   have go:∀ d:Int,0 <= d->jS c n p H 0 [some (.int c),some (.int n),some (.ref p),some (.int m),some (.int d),none] (upd H p (.lst [])):=fun d hd=>⟨[],m,d,none,rfl,m0,hd,rfl,(by simp),Same.upd hp,bB⟩
   have fin:∀ (σ':L2.St) (H':Hp),jS c n p H n σ' H'->∃ v,σ'[2]? = some (some v)/\Q v H':=by
    rintro σ' H' ⟨xs,m,d,v,rfl,_,_,h1,h2,h3,h4⟩
    exact ⟨_,rfl,q p xs H' h3 hp h4 h1 h2⟩
   refine wJ ?_
   walk_at "rd"
   refine ⟨n,rfl,Nat.lt_of_le_of_lt hn (by decide),jS c n p H,go _ a0,?_,fin⟩
   rintro k σ' H' hk ⟨xs,m,d,v,rfl,hm,hd,h1,h2,h3,h4⟩
   walk_at "rd"
   have b1:Bd m:=Bd.sm (by omega)
   have b2:Bd (m % 65521 + 40487):=Bd.sm (by omega)
   have b3:Bd (k:Int):=Bd.sm (by omega)
   have nx:0 <= (m * (m % 65521 + 40487) + 7 * k + 5) % 1999999973/\(m * (m % 65521 + 40487) + 7 * k + 5) % 1999999973 < 1999999973:=⟨Int.emod_nonneg _ (by decide),Int.emod_lt_of_pos _ (by decide)⟩
   generalize (m * (m % 65521 + 40487) + 7 * (k:Int) + 5) % 1999999973 = z at nx ⊢
   refine ⟨b1,b2,Bd.sm (by decide),b3,⟨_,h4⟩,(by decide),fun r hq=>.inr ?_⟩
   have pr:p ≠ r:=bA h4 hq
   have dd:0 <= d.fdiv 1000000:=by rw [Int.fdiv_eq_ediv_of_nonneg _ (by decide)]; omega
   have fin:∀ x:Int,0 <= x/\x < 2000000000->jS c n p H (k + 1) [some (.int c),some (.int n),some (.ref p),some (.int z),some (.int (d.fdiv 1000000)),some (.int k)] (upd (upd H' r (.lst [.int z,.int (d % 1000000)])) p (.lst (xs.map V.int ++ [.int x]))):=by
    intro x hx
    refine ⟨xs ++ [x],z,_,_,rfl,nx,dd,by simp [h1],?_,?_,?_⟩
    .intro y hy
     rcases List.mem_append.mp hy with hy | hy
     .exact h2 y hy
     .rw [List.mem_singleton.mp hy]; exact hx
    .intro b o hb
     have bp:b ≠ p:=bA hb hp
     have br:b ≠ r:=bA (h3 b o hb) hq
     rw [bF bp,bF br]; exact h3 b o hb
    .rw [bf]; exact bB
   by_cases h0:0 < d
   .rw [if_pos (decide_eq_true h0)]
    exact ⟨_,cG,_,(bF pr).trans h4,by rw [ak,h1]; exact aQ hk (aK hn (by decide)),Bd.sm (by decide),fin _ (by omega)⟩
   .rw [if_neg (by simp; omega)]
    exact ⟨_,cV,_,(bF pr).trans h4,by rw [ak,h1]; exact aQ hk (aK hn (by decide)),Bd.sm (by decide),fin _ (by omega)⟩
  clear hR
  walk_at "rd"
  refine Xo (fun _=>loop _ a0) fun _=>⟨Wh (by decide) (by decide),Xo (fun _=>loop _ a0) fun _=>loop 0 (by decide)⟩
noncomputable def aag (H:Hp) (D:Adr) (s:Addr) (n:Str) (p l:Addr):Prop:=∃ C dx,Fam D C/\H s = some (.ins C dx [("name",.str n),("pay",.ref p),("leads",.ref l)])
noncomputable def lH (D:Adr):Sp:=fun vs H Q _=>∃ (s:Addr) (n:Str) (p l:Addr) (xs:List V),vs = [.ref s]/\aag H D s n p l/\H l = some (.lst xs)/\xs.length <= 100/\∀ r,H r = none->Q (.ref r) (upd H r (.lst xs))
theorem Gz (F:Fun K uO uP rA f fd) (T:Txt K mg D):cj P w K mg base CX0 1 f fd jq (lH D):=by
 refine F.ok Gi (fun vs H Q E h=>?_) (fun cdv A outer s H vs Q E hr h=>?_)
 .obtain ⟨s,n,p,l,xs,rfl,_⟩:=h
  rfl
 .obtain ⟨o,n,p,l,xs,rfl,⟨C,dx,hC,ho⟩,hl,hz,q⟩:=h
  refine ⟨_,(bI (bU (n8 uf (by rfl) T.zj boot_list (bw (pJ (pv 0) rfl) bD)))),?_⟩
  walk_at "rd"
  exact ⟨C,dx,_,ho,T.cl C hC,T.zP C hC,_,rfl,l,rfl,xs,hl,q⟩
structure PJ (H:Hp) (xs:List V) (ws:List (Str × Addr)):Prop where
 len:xs.length = ws.length
 at_:∀ (k:Nat) (g:Str × Addr),ws[k]? = some g->∃ t,xs[k]? = some (.ref t)/\H t = some (.tup [.str g.1,.ref g.2])
theorem PJ.same {H H':Hp} {xs:List V} {ws:List (Str × Addr)} (h:PJ H xs ws) (S:Same H H'):PJ H' xs ws:=⟨h.len,fun k g e=>let ⟨t,a,b⟩:=h.at_ k g e; ⟨t,a,S _ _ b⟩⟩
noncomputable def cell (ns:List Int) (k:Int):Int:=ns.getD k.toNat 0
noncomputable def wu (K:Frag) (a:Addr) (ns:List Int):Sp:=fun vs H Q _=>∃ (k:Int),vs = [.ref a,.int k]/\SqL K H a (ns.map V.int)/\ns.length <= 63/\0 <= k/\Q (.int (cell ns k)) H
theorem Yd (F:Fun K sX sX Kh f fd) (a:Addr) (ns:List Int):cj P w K mg base CX0 1 f fd sU (wu K a ns):=by
 refine cj.clean (sp:=fun vs H Q _=>∃ (k:Int),vs = [.ref a,.int k]/\SqL K H a (ns.map V.int)/\ns.length <= 63/\0 <= k/\∀ H',Same H H'->Q (.int (cell ns k)) H')
  (F.ok V_ (fun vs H Q E h=>?_) (fun cdv A outer s H vs Q E hr h=>?_)) fun vs H Q E ⟨k,h1,h2,h3,h4,h5⟩=>⟨k,h1,h2,h3,h4,fun H' S=>⟨S,h5⟩⟩
 .obtain ⟨k,rfl,_⟩:=h
  rfl
 .obtain ⟨k,rfl,hs,hl,hk,q⟩:=h
  refine ⟨_,(bI (bU (bM bN (bL LK (kZ sJ (pv 0) (iB (pv 1)) (iB (bL cT (pv 1) bC))) (iH (bw bC bD))) bC (fun _ _=>rfl)))),?_⟩
  walk_at "rd"
  refine ⟨_,hs,fun p hp=>⟨aaJ,fun p1 hp1=>?_⟩⟩
  have n1:p ≠ p1:=bA bB hp1
  refine ⟨_,(bF n1).trans bB,?_,fun p2 hp2=>⟨_,?_,q _ ?_⟩⟩
  .refine aai ?_
   have:=xW (ns.map V.int) (some k) (some (k + 1))
   rw [ak] at this
   omega
  .have:=Wv ns k.toNat
   rw [Int.toNat_of_nonneg hk] at this
   exact this
  .exact ((Same.upd hp).trans (Same.upd hp1)).trans (Same.upd hp2)
structure Fq (f:Int × Int):Prop where
 pos:0 < f.2
 gcd:Int.gcd f.1 f.2 = 1
 sa:f.1.natAbs <= 10 ^ 40
 sb:f.2.natAbs <= 10 ^ 40
theorem Fq.ba {f:Int × Int} (h:Fq f):Bd f.1:=Nat.lt_of_le_of_lt h.sa (by decide +kernel)
theorem Fq.bb {f:Int × Int} (h:Fq f):Bd f.2:=Nat.lt_of_le_of_lt h.sb (by decide +kernel)
noncomputable def Jj (fs:List (Int × Int)):List Nat:=fs.map fun f=>f.2.natAbs
noncomputable def lvB (fs:List (Int × Int)):Nat:=Lv.O7 (Jj fs)
noncomputable def lvT (fs:List (Int × Int)):List Int:=fs.map fun f=>f.1 * ((lvB fs:Nat) / f.2)
theorem oY {B:Nat} : ∀ (bs:List Nat) (a:Nat),0 < a->(∀ b ∈ bs,0 < b/\b <= B)->bs.foldl Nat.lcm a <= a * B ^ bs.length
  | [],a,_,_=>by simp
  | b :: bs,a,ha,hb=>by
    have h1:=hb b aM
    have h2:=oY bs (Nat.lcm a b) (Nat.lcm_pos ha h1.1) fun c hc=>hb c (aG _ hc)
    rw [List.foldl_cons,List.length_cons,Nat.pow_succ]
    refine aK h2 ?_
    have h3:Nat.lcm a b <= a * B:=aK (Nat.le_of_dvd (Nat.mul_pos ha h1.1) (Nat.lcm_dvd_mul a b)) (Nat.mul_le_mul_left a h1.2)
    calc Nat.lcm a b * B ^ bs.length <= a * B * B ^ bs.length:=Nat.mul_le_mul_right _ h3
      _ = a * (B ^ bs.length * B):=by rw [Nat.mul_assoc,Nat.mul_comm B]
theorem R9 {fs:List (Int × Int)} (h:∀ f ∈ fs,Fq f):∀ b ∈ Jj fs,0 < b:=fun b hb=>by
 obtain ⟨f,hf,rfl⟩:=List.mem_map.mp hb
 have:=(h f hf).pos
 omega
theorem sY {fs:List (Int × Int)} (h:∀ f ∈ fs,Fq f):0 < lvB fs:=Lv.UG (R9 h)
theorem TY {fs:List (Int × Int)} (h:∀ f ∈ fs,Fq f) (hz:fs.length <= 41):lvB fs <= (10 ^ 40) ^ 41:=by
 have h1:=oY (B:=10 ^ 40) (Jj fs) 1 (by decide) fun b hb=>by
  obtain ⟨f,hf,rfl⟩:=List.mem_map.mp hb
  have:=(h f hf).pos
  exact ⟨by omega,(h f hf).sb⟩
 rw [Nat.one_mul] at h1
 refine aK h1 (Nat.pow_le_pow_right (by decide) ?_)
 unfold Jj
 rw [ak]
 exact hz
theorem Lh {fs:List (Int × Int)} (h:∀ f ∈ fs,Fq f) (hz:fs.length <= 41):Bd (lvB fs:Nat):=by
 unfold Bd
 rw [Int.natAbs_natCast]
 exact Nat.lt_of_le_of_lt (TY h hz) (by decide +kernel)
theorem Ig {fs:List (Int × Int)} (h:∀ f ∈ fs,Fq f) (k:Nat):∀ f ∈ fs.take k,Fq f:=fun f hf=>h f (List.mem_of_mem_take hf)
theorem cD {α:Type} {l:List α} {k:Nat} {x:α} (h:l[k]? = some x):l.take (k + 1) = l.take k ++ [x]:=by
 rw [List.take_succ,h]; rfl
theorem R6 {fs:List (Int × Int)} {k:Nat} {f:Int × Int} (h:fs[k]? = some f):lvB (fs.take (k + 1)) = Nat.lcm (lvB (fs.take k)) f.2.natAbs:=by
 unfold lvB Lv.O7 Jj
 rw [cD h,bf,List.foldl_append]; rfl
theorem V3 {n:Nat} {b:Int} (hb:0 < b) (hn:0 < n):Int.fdiv (n:Int) (Int.gcd (n:Int) b:Nat) * b = (Nat.lcm n b.natAbs:Nat):=by
 obtain ⟨m,rfl⟩ : ∃ m:Nat,b = m:=⟨b.toNat,by omega⟩
 have hg:0 < Nat.gcd n m:=Nat.gcd_pos_of_pos_left m hn
 rw [show Int.gcd (n:Int) (m:Int) = Nat.gcd n m from rfl,Int.natAbs_natCast,mO _ (by omega),<- Int.natCast_ediv,<- Int.natCast_mul]
 congr 1
 unfold Nat.lcm
 exact Nat.div_mul_right_comm (Nat.gcd_dvd_left n m) m
theorem Fx {fs:List (Int × Int)} {f:Int × Int} (hf:f ∈ fs) (hq:Fq f):f.2 ∣ (lvB fs:Nat):=by
 have h1:f.2.natAbs ∣ lvB fs:=Lv.TV (List.mem_map.mpr ⟨f,hf,rfl⟩)
 have:=Int.natCast_dvd_natCast.mpr h1
 rwa [Int.natAbs_of_nonneg (Int.le_of_lt hq.pos)] at this
inductive FLK (K:Frag) (H:Hp):List V->List (Int × Int)->Prop
 | nil:FLK K H [] []
 | cons {p:Addr} {f:Int × Int} {xs:List V} {fs:List (Int × Int)} : SqT K H p [.int f.1,.int f.2]->FLK K H xs fs->FLK K H (.ref p :: xs) (f :: fs)
theorem Ka {H:Hp} : ∀ {xs:List V} {fs:List (Int × Int)},FL H xs fs->FLK K H xs fs
 | _,_,.nil=>.nil
 | _,_,.cons e t=>.cons (.of e) (Ka t)
theorem FLK.imp {H H':Hp} (h:∀ p a b,SqT K H p [.int a,.int b]->SqT K H' p [.int a,.int b]):∀ {xs:List V} {fs:List (Int × Int)},FLK K H xs fs->FLK K H' xs fs
 | _,_,.nil=>.nil
 | _,_,.cons e t=>.cons (h _ _ _ e) (FLK.imp h t)
theorem FLK.same {H H':Hp} (S:Same H H') {xs:List V} {fs:List (Int × Int)} (h:FLK K H xs fs):FLK K H' xs fs:=h.imp fun _ _ _ e=>S.tup e
theorem FLK.length {H:Hp} : ∀ {xs:List V} {fs:List (Int × Int)},FLK K H xs fs->xs.length = fs.length
 | _,_,.nil=>rfl
 | _,_,.cons _ t=>by rw [List.length_cons,List.length_cons,FLK.length t]
theorem FLK.get {H:Hp} : ∀ {xs:List V} {fs:List (Int × Int)} {k:Nat} {x:V},FLK K H xs fs->xs[k]? = some x->∃ p f,x = .ref p/\fs[k]? = some f/\SqT K H p [.int f.1,.int f.2]
 | _,_,_,_,.nil,h=>by simp at h
 | _,_,0,_,.cons (p:=p) (f:=f) e t,h=>by
  simp at h
  exact ⟨p,f,h.symm,rfl,e⟩
 | _,_,k + 1,_,.cons e t,h=>by
  obtain ⟨p,f,h1,h2,h3⟩:=FLK.get (k:=k) t (by simpa using h)
  exact ⟨p,f,h1,by simpa using h2,h3⟩
theorem FLK.append {H:Hp} : ∀ {xs ys:List V} {fs gs:List (Int × Int)},FLK K H xs fs->FLK K H ys gs->FLK K H (xs ++ ys) (fs ++ gs)
 | _,_,_,_,.nil,h=>h
 | _,_,_,_,.cons e t,h=>.cons e (FLK.append t h)
noncomputable def oF (K:Frag):Sp:=fun vs H Q _=>∃ (l:Addr) (xs:List V) (fs:List (Int × Int)),vs = [.ref l]/\H l = some (.lst xs)/\FLK K H xs fs/\(∀ f ∈ fs,Fq f)/\fs.length <= 41 /\
 ∀ D p,H D = none->upd H D (.lst ((lvT fs).map V.int)) p = none->Q (.ref p) (upd (upd H D (.lst ((lvT fs).map V.int))) p (.tup [.ref D,.int (lvB fs:Nat)]))
noncomputable def lJ (l:Addr) (fs:List (Int × Int)) (H1:Hp) (k:Nat) (σ:L2.St) (H:Hp):Prop:=∃ z,σ = [some (.ref l),some (.int (lvB (fs.take k):Nat)),z]/\H = H1
noncomputable def lK (fs:List (Int × Int)) (D:Addr) (H1:Hp) (k:Nat) (ys:List V) (H:Hp):Prop:=ys = ((lvT fs).take k).map V.int/\H = upd H1 D (.lst ys)
theorem Cz (F:Fun K k_ k_ yD f fd) (fU:OkF P w K mg base 1 i_ jf fY):cj P w K mg base CX0 2 f fd kY (oF K):=by
 refine F.ok uQ (fun vs H Q E h=>?_) (fun cdv A outer s H vs Q E hr h=>?_)
 .obtain ⟨l,xs,fs,rfl,_⟩:=h
  rfl
 .obtain ⟨l,xs,fs,rfl,hl,hf,hq,hz,q⟩:=h
  refine ⟨_,(bG (bQ (i:=1) uQ.nd rfl (Or.inr rfl) bC)
   (bG (jU PassesOwn.never rfl (cX ((pv 0)).mono) (cF (i:=2) uQ.nd rfl (Or.inl rfl))
    (bI (bQ (i:=1) uQ.nd rfl (Or.inr rfl) (bL cC (bL jt (pv 1) (bK fU (hr.mono (by decide)) (by rfl) (bw (pv 1) (bw (bM (show IxR _ (Jx K) from d7) (pv 2) bC (fun _ _=>rfl)) bD)))) (bM (show IxR _ (Jx K) from d7) (pv 2) bC (fun _ _=>rfl))))))
   (bI (bU (c7 (bw (jl (bH yD) Mw ["fractions", "bottom", "?one"] ["one"] (cX ((pv 0)).mono) (dU (i:=0)) cU (bL cC (bM (show IxR _ (Jx K) from d7) (pv 0) bC (fun _ _=>rfl)) (bL jt (pv 2) (bM (show IxR _ (Jx K) from d7) (pv 0) bC (fun _ _=>rfl))))) (bw (pv 1) bD))))))),?_⟩
  unfold fY
  walk_at "rd"
  have hx:xs.length <= 41:=by rw [hf.length]; exact hz
  refine gK ⟨_,rfl,l,xs,rfl,hl,lJ l fs H,⟨none,rfl,rfl⟩,?_,?_⟩
  .rintro k x σ' H' hk ⟨z,rfl,rfl⟩ _
   obtain ⟨p,g,rfl,hg,hp⟩:=hf.get hk
   have hm:=aA hg
   have b0:=sY (Ig hq k)
   have b1:=Lh (Ig hq k) (by rw [aY]; omega)
   have g0:=Gw (a:=((lvB (fs.take k):Nat):Int)) (b:=g.2) (Int.ne_of_gt (hq g hm).pos)
   have g1:=Kz (a:=((lvB (fs.take k):Nat):Int)) (b:=g.2) (Int.ne_of_gt (hq g hm).pos) (hq g hm).bb
   walk_at "rd"
   refine ⟨_,hp,_,cG,_,rfl,by omega,g1,_,hp,_,cG,_,rfl,?_,(hq g hm).bb,hl,some (.ref p),?_,rfl⟩
   .rw [mO _ g0]
    exact b1.div g0
   .rw [V3 (hq g hm).pos b0,<- R6 hg]
  .rintro σ' H' ⟨z,rfl,rfl⟩ _
   walk_at "rd"
   have e0:fs.take xs.length = fs:=by rw [hf.length]; exact aN
   rw [e0]
   refine dB ⟨_,rfl,l,xs,rfl,hl,aK hx (by decide),fun D hD=>⟨lK fs D H',⟨rfl,rfl⟩,?_,?_⟩⟩
   .rintro k x ys Hc hk ⟨rfl,rfl⟩ _ ha
    obtain ⟨p,g,rfl,hg,hp⟩:=hf.get hk
    have hm:=aA hg
    have hpD:SqT K (upd H' D (.lst (((lvT fs).take k).map V.int))) p [.int g.1,.int g.2]:=(Same.upd hD).tup hp
    walk_at "rd"
    refine ⟨_,hpD,_,cV,_,hpD,_,cG,_,rfl,Int.ne_of_gt (hq g hm).pos,(hq g hm).bb,_,rfl,(hq g hm).ba,?_,ha,?_,m6⟩
    .rw [mO _ (hq g hm).pos]
     exact (Lh hq hz).div (hq g hm).pos
    .rw [mO _ (hq g hm).pos]
     have e1:(lvT fs)[k]? = some (g.1 * ((lvB fs:Nat) / g.2)):=by
      unfold lvT
      rw [aq,hg]; rfl
     rw [cD e1,bf]; rfl
   .rintro ys Hc ⟨rfl,rfl⟩ _
    have e2:(lvT fs).take xs.length = lvT fs:=by
     refine aJ ?_
     unfold lvT
     rw [ak,hf.length]
     exact aD _
    rw [e2]
    exact ⟨dG,fun p hp=>q D p hD hp⟩
noncomputable def vh:Sp:=fun vs H Q _=>∃ (l:Addr) (xs:List V) (fs:List (Int × Int)),vs = [.ref l]/\H l = some (.lst xs)/\FL H xs fs/\(∀ f ∈ fs,Fq f)/\fs.length <= 41 /\
 ∀ D p,H D = none->upd H D (.lst ((lvT fs).map V.int)) p = none->Q (.ref p) (upd (upd H D (.lst ((lvT fs).map V.int))) p (.tup [.ref D,.int (lvB fs:Nat)]))
theorem Ul {vs:List V} {H:Hp} {Q:VK} {E:XK} (h:vh vs H Q E):oF K vs H Q E:=let ⟨l,xs,fs,a,b,c,d⟩:=h; ⟨l,xs,fs,a,b,Ka c,d⟩
noncomputable def vV:Sp:=fun vs H Q _=>∃ (l:Addr) (xs:List V) (fs:List (Int × Int)),vs = [.ref l]/\H l = some (.lst xs)/\FL H xs fs/\(∀ f ∈ fs,Fq f)/\fs.length <= 41 /\
 ∀ p x y,Low (lvT fs).sum (lvB fs:Nat) x y->H p = none->Q (.ref p) (upd H p (.tup [.int x,.int y]))
theorem RV (F:Fun K rT rT DW f fd) (T:Txt K mg D) (oO:OkF P w K mg base 2 k_ kY vh) (d8:OkF P w K mg base 2 iR iV gH):cj P w K mg base CX0 3 f fd qK vV:=by
 refine cj.cleanP (sp:=fun vs H Q _=>∃ (l:Addr) (xs:List V) (fs:List (Int × Int)),vs = [.ref l]/\H l = some (.lst xs)/\FL H xs fs/\(∀ f ∈ fs,Fq f)/\fs.length <= 41 /\
   ∀ p x y H',Low (lvT fs).sum (lvB fs:Nat) x y->Same H H'->H p = none->H' p = some (.tup [.int x,.int y])->Q (.ref p) H')
  (F.ok Jl (fun vs H Q E h=>?_) (fun cdv A outer s H vs Q E hr h=>?_)) fun vs H Q E ⟨l,xs,fs,h1,h2,h3,h4,h5,h6⟩=>⟨l,xs,fs,h1,h2,h3,h4,h5,fun p x y H' l S e1 e2=>⟨S,p,_,e2,e1,h6 p x y l e1⟩⟩
 .obtain ⟨l,xs,fs,rfl,_⟩:=h
  rfl
 .obtain ⟨l,xs,fs,rfl,hl,hf,hq,hz,q⟩:=h
  refine ⟨_,(bG (bQ (i:=1) Jl.nd rfl (Or.inl rfl) (bK oO (hr.mono (by decide)) (by rfl) (bw (pv 0) bD)))
   (bI (bU (bK d8 (hr.mono (by decide)) (by rfl) (bw (bR (w5 rfl) (by rfl) T.Rq boot_sum (bw (bM bV (pv 1) bC (fun _ _=>rfl)) bD)) (bw (bM bV (pv 1) bC (fun _ _=>rfl)) bD)))))),?_⟩
  unfold vh gH
  walk_at "rd"
  refine ⟨xs,hl,fs,hf,hq,hz,fun D p hD hp=>⟨lvT fs,(bF (bA bB hp)).trans bB,?_,Lh hq hz,fun p1 x y lw hp1=>?_⟩⟩
  .have:=sY hq
   omega
  .have S:=(Same.upd hD (o:=.lst ((lvT fs).map V.int))).trans (Same.upd hp (o:=.tup [.ref D,.int (lvB fs:Nat)]))
   exact q p1 x y _ lw (S.trans (Same.upd hp1)) (S.free hp1) bB
structure Pairs (H:Hp) (xs:List V) (ps:List (Str × Int × Int)):Prop where
 len:xs.length = ps.length
 at_:∀ (k:Nat) (g:Str × Int × Int),ps[k]? = some g->∃ t c:Addr,xs[k]? = some (.ref t)/\H t = some (.tup [.str g.1,.ref c])/\H c = some (.tup [.int g.2.1,.int g.2.2])
structure QT (g:Str × Int × Int):Prop where
 len:g.1.length <= 1000
 wd:jj g.1.cps.toList = true
 pos:0 < g.2.2
 gcd:Int.gcd g.2.1 g.2.2 = 1
 lo:0 <= g.2.1
 hi:g.2.1 <= g.2.2
 fq:Fq g.2
noncomputable def jL:Sp:=fun vs H Q _=>∃ (l:Addr) (xs:List V) (ps:List (Str × Int × Int)),vs = [.ref l]/\H l = some (.lst xs)/\Pairs H xs ps/\(∀ g ∈ ps,QT g)/\ps.length <= 41/\(∀ x y,Low (lvT (ps.map (·.2))).sum (lvB (ps.map (·.2)):Nat) x y->x = 1/\y = 1)/\∀ H',Same H H'->Q .non H'
noncomputable def jP (l:Addr) (H:Hp) (_:Nat) (σ:L2.St) (H':Hp):Prop:=∃ u v,σ = [some (.ref l),u,v]/\H' = H
noncomputable def jQ (D1:Addr) (ps:List (Str × Int × Int)) (H:Hp) (k:Nat) (ys:List V) (Hc:Hp):Prop:=FL H ys ((ps.map (·.2)).take k)/\Hc = upd H D1 (.lst ys)
theorem Bk (F:Fun K gj gj j7 f fd) (T:Txt K mg D) (jh:OkX P w K mg base 2 dh dj iw) (lA:OkX P w K mg base 3 d9 d_ (lY (K:=K))) (Ry:OkX P w K mg base 3 rT qK vV):cj P w K mg base (CXO P w) 4 f fd gB jL:=by
 refine F.okX mj (fun vs H Q E h=>?_) (fun cdv A outer s H vs Q E hr h=>?_)
 .obtain ⟨l,xs,ps,rfl,_⟩:=h
  rfl
 .obtain ⟨l,xs,ps,rfl,hl,hp,hg,hz,h1,q⟩:=h
  refine ⟨_,(bG (jU PassesOwn.leaving rfl (cX ((pv 0)).mono) (fX (n:=2) rfl (cu (cF (i:=1) mj.nd rfl (Or.inl rfl)) (cu (cF (i:=2) mj.nd rfl (Or.inl rfl)) fK)))
    (bG (cY (fL jh (hr.mono (by decide)) (by rfl) eF (bw (pv 1) bD)))
    (bI (cY (fL lA (hr.mono (by decide)) (by rfl) eF (bw (pv 2) bD))))))
   (bI (cW (cN (M8 (K:=K) rfl hr.units) (fL Ry (hr.mono (by decide)) (by rfl) eF (bw (jl (bH j7) nM nM ["pair"] (cX ((pv 0)).mono) (dU (i:=0)) cU (bM bV (pv 0) bC (fun _ _=>rfl))) bD)) (jN (by rfl) T.JW) (cH _))
    (bI (pX rfl (by rfl) T.ux T.zy qQ (bw mC bD)))
    cB))),?_⟩
  unfold iw lY vV
  walk_at "rd"
  refine gK ?_
  walk_at "rd"
  refine ⟨xs,hl,jP l H,⟨none,none,rfl,rfl⟩,?_,?_⟩
  .rintro k x σ' H' hk ⟨u,v,rfl,rfl⟩ _
   have lk:k < ps.length:=by rw [<- hp.len]; exact (ao.mp hk).1
   have e:ps[k]? = some ps[k]:=aj lk
   have ok:=hg _ (aR lk)
   obtain ⟨t,c,a,b,d⟩:=hp.at_ k _ e
   rw [hk] at a
   cases a
   exact ⟨t,rfl,_,b,rfl,_,_,rfl,_,_,rfl,rfl,_,rfl,_,rfl,ok.len,ok.wd,_,rfl,c,rfl,⟨_,_,⟨.of d,ok.pos,ok.gcd⟩,ok.lo,ok.hi,ok.fq.bb⟩,hl,_,_,rfl,rfl⟩
  .rintro σ' H' ⟨u,v,rfl,rfl⟩ _
   refine dB ?_
   walk_at "rd"
   refine ⟨xs,hl,by rw [hp.len]; exact aK hz (by decide),fun D1 hD=>⟨jQ D1 ps H',⟨.nil,rfl⟩,?_,?_⟩⟩
   .rintro k x ys Hc hk ⟨hf,rfl⟩ hy _
    have lk:k < ps.length:=by rw [<- hp.len]; exact (ao.mp hk).1
    have e:ps[k]? = some ps[k]:=aj lk
    obtain ⟨t,c,a,b,d⟩:=hp.at_ k _ e
    rw [hk] at a
    cases a
    walk_at "rd"
    refine ⟨_,(bF (bA b hD)).trans b,_,cG,(bF (bA hl hD)).trans hl,?_,m6⟩
    rw [List.take_succ,aq,e]
    exact hf.append (.one d)
   .rintro ys Hc ⟨hf,rfl⟩ hy
    have hk:(ps.map (·.2)).take xs.length = ps.map (·.2):=by rw [hp.len,<- ak (f:=fun g:Str × Int × Int=>g.2),aN]
    rw [hk] at hf
    refine ⟨ys,bB,_,hf.same (Same.upd hD),?_,by rw [ak]; exact hz,fun p x y lo hn=>?_⟩
    .intro g hm
     obtain ⟨g',hm',rfl⟩:=List.mem_map.mp hm
     exact (hg g' hm').fq
    .obtain ⟨rfl,rfl⟩:=h1 x y lo
     refine ⟨_,.tup (.of bB) (cI.ints K _ [1,1]),_,.tup (T.zJ _) (cI.ints K _ [1,1]),rfl,rfl,?_⟩
     rw [if_neg (by decide)]
     exact q _ ((Same.upd hD).trans (Same.upd hn))
inductive DA (H:Hp) (S:Int):List (Key × V)->List (Str × Int)->Prop
 | nil:DA H S [] []
 | cons {n:Str} {W:Int} {c:Addr} {kvs:List (Key × V)} {acc:List (Str × Int)} (h:H c = some (.tup [.int (Ac.lw W S).1,.int (Ac.lw W S).2])) (t:DA H S kvs acc):DA H S ((.inr n,.ref c) :: kvs) ((n,W) :: acc)
theorem DA.imp {H H':Hp} {S:Int} (h:∀ c x y,H c = some (.tup [.int x,.int y])->H' c = some (.tup [.int x,.int y])):∀ {kvs:List (Key × V)} {acc:List (Str × Int)},DA H S kvs acc->DA H' S kvs acc
 | _,_,.nil=>.nil
 | _,_,.cons a t=>.cons (h _ _ _ a) (t.imp h)
theorem DA.len {H:Hp} {S:Int} : ∀ {kvs:List (Key × V)} {acc:List (Str × Int)},DA H S kvs acc->kvs.length = acc.length
 | _,_,.nil=>rfl
 | _,_,.cons _ t=>congrArg (· + 1) t.len
theorem DA.keys {H:Hp} {S:Int} : ∀ {kvs:List (Key × V)} {acc:List (Str × Int)},DA H S kvs acc->kvs.map (·.1) = (acc.map (·.1)).map Sum.inr
 | _,_,.nil=>rfl
 | _,_,.cons _ t=>by rw [List.map_cons,List.map_cons,List.map_cons,t.keys]
theorem DA.val {H:Hp} {S:Int} (r:Str):∀ {kvs:List (Key × V)} {acc:List (Str × Int)},DA H S kvs acc->(mV kvs (.inr r) = none/\Ac.look acc r = 0)\/∃ c,mV kvs (.inr r) = some (.ref c)/\H c = some (.tup [.int (Ac.lw (Ac.look acc r) S).1,.int (Ac.lw (Ac.look acc r) S).2])
 | _,_,.nil=>.inl ⟨rfl,rfl⟩
 | _,_,.cons (n:=n) (W:=W) (c:=c) (kvs:=kvs) (acc:=acc) h t=>by
  by_cases e:n = r
  .subst e
   refine .inr ⟨c,zp rfl,?_⟩
   have:Ac.look ((n,W) :: acc) n = W:=by simp [Ac.look]
   rw [this]; exact h
  .have e1:mV ((Sum.inr n,V.ref c) :: kvs) (Sum.inr r:Key) = mV kvs (.inr r):=Ad fun z=>e (Sum.inr.inj z)
   have e2:Ac.look ((n,W) :: acc) r = Ac.look acc r:=by simp [Ac.look,List.find?_cons,e]
   rw [e1,e2]
   exact t.val r
theorem DA.any {H:Hp} {S:Int} (r:Str):∀ {kvs:List (Key × V)} {acc:List (Str × Int)},DA H S kvs acc->(kvs.any fun kv=>decide (kv.1 = (.inr r:Key))) = acc.any fun g=>decide (g.1 = r)
 | _,_,.nil=>rfl
 | _,_,.cons (n:=n) _ t=>by
  rw [List.any_cons,List.any_cons,t.any r]
  congr 1
  by_cases e:n = r
  .subst e; rw [decide_eq_true rfl,decide_eq_true rfl]
  .rw [decide_eq_false e,decide_eq_false fun z=>e (Sum.inr.inj z)]
theorem DA.sets {H:Hp} {S y:Int} {c:Addr} {r:Str} (hc:H c = some (.tup [.int (Ac.lw y S).1,.int (Ac.lw y S).2])):∀ {kvs:List (Key × V)} {acc:List (Str × Int)},DA H S kvs acc->DA H S (kvs.map fun kv=>if kv.1 = (.inr r:Key) then (kv.1,.ref c) else kv) (acc.map fun g=>if g.1 = r then (g.1,y) else g)
 | _,_,.nil=>.nil
 | _,_,.cons (n:=n) (W:=W) (c:=c') h t=>by
  rw [List.map_cons,List.map_cons]
  by_cases e:n = r
  .subst e
   rw [if_pos rfl,if_pos rfl]
   exact .cons hc (t.sets hc)
  .rw [if_neg e,if_neg fun z=>e (Sum.inr.inj z)]
   exact .cons h (t.sets hc)
theorem DA.snoc {H:Hp} {S y:Int} {c:Addr} {r:Str} (hc:H c = some (.tup [.int (Ac.lw y S).1,.int (Ac.lw y S).2])):∀ {kvs:List (Key × V)} {acc:List (Str × Int)},DA H S kvs acc->DA H S (kvs ++ [(.inr r,.ref c)]) (acc ++ [(r,y)])
 | _,_,.nil=>.cons hc .nil
 | _,_,.cons h t=>.cons h (t.snoc hc)
theorem DA.put {H:Hp} {S y:Int} {c:Addr} {r:Str} {kvs:List (Key × V)} {acc:List (Str × Int)} (hc:H c = some (.tup [.int (Ac.lw y S).1,.int (Ac.lw y S).2])) (h:DA H S kvs acc):DA H S (putK kvs (.inr r) (.ref c)) (Ac.put acc r y):=by
 unfold putK Ac.put
 rw [h.any r]
 split
 .exact h.sets hc
 .exact h.snoc hc
theorem DA.get {H:Hp} {S:Int} : ∀ {kvs:List (Key × V)} {acc:List (Str × Int)} {i:Nat} {k:Key} {v:V},DA H S kvs acc->kvs[i]? = some (k,v)->∃ n W c,acc[i]? = some (n,W)/\k = .inr n/\v = .ref c/\H c = some (.tup [.int (Ac.lw W S).1,.int (Ac.lw W S).2])
 | _,_,_,_,_,.nil,e=>by simp at e
 | _,_,0,_,_,.cons h _,e=>by
  rw [List.getElem?_cons_zero] at e
  cases e
  exact ⟨_,_,_,rfl,rfl,rfl,h⟩
 | _,_,i + 1,_,_,.cons _ t,e=>t.get (by rw [List.getElem?_cons_succ] at e; exact e)
theorem M7:∀ {kvs:List (Key × V)} {i:Nat} {k:Key} {v:V},(kvs.map (·.1)).Nodup->kvs[i]? = some (k,v)->mV kvs k = some v
 | [],_,_,_,_,e=>by simp at e
 | p :: kvs,0,k,v,_,e=>by
  rw [List.getElem?_cons_zero] at e
  cases e
  exact zp rfl
 | p :: kvs,i + 1,k,v,hn,e=>by
  rw [List.getElem?_cons_succ] at e
  rw [List.map_cons,List.nodup_cons] at hn
  rw [Ad fun z=>hn.1 (by rw [z]; exact List.mem_map.mpr ⟨(k,v),aA e,rfl⟩)]
  exact M7 hn.2 e
inductive WF (K:Frag) (H:Hp):List V->List (Str × Int × Int)->List (Str × Addr)->Prop
 | nil:WF K H [] [] []
 | cons {t c:Addr} {n:Str} {x y:Int} {xs:List V} {gs:List (Str × Int × Int)} {ws:List (Str × Addr)} (h1:H t = some (.tup [.str n,.ref c])) (h2:SqT K H c [.int x,.int y]) (r:WF K H xs gs ws):WF K H (.ref t :: xs) ((n,x,y) :: gs) ((n,c) :: ws)
theorem WF.imp {H H':Hp} (h:∀ t ys,H t = some (.tup ys)->H' t = some (.tup ys)) (h':∀ c xs,SqT K H c xs->SqT K H' c xs):∀ {xs:List V} {gs:List (Str × Int × Int)} {ws:List (Str × Addr)},WF K H xs gs ws->WF K H' xs gs ws
 | _,_,_,.nil=>.nil
 | _,_,_,.cons a b r=>.cons (h _ _ a) (h' _ _ b) (r.imp h h')
theorem WF.same {H H':Hp} (S:Same H H') {xs:List V} {gs:List (Str × Int × Int)} {ws:List (Str × Addr)} (h:WF K H xs gs ws):WF K H' xs gs ws:=h.imp (fun t ys e=>S _ _ e) fun c xs e=>S.tup e
theorem WF.updL {H:Hp} {l:Addr} {ys zs:List V} (hl:H l = some (.lst ys)) {xs:List V} {gs:List (Str × Int × Int)} {ws:List (Str × Addr)} (h:WF K H xs gs ws):WF K (upd H l (.lst zs)) xs gs ws :=
 h.imp (fun t us e=>(bF (eV e hl (by intro z; cases z))).trans e) fun c xs e=>e.updO hl (by intro ys z; cases z) (by intro ob ys z; cases z)
theorem WF.len {H:Hp} : ∀ {xs:List V} {gs:List (Str × Int × Int)} {ws:List (Str × Addr)},WF K H xs gs ws->xs.length = gs.length
 | _,_,_,.nil=>rfl
 | _,_,_,.cons _ _ r=>congrArg (· + 1) r.len
theorem WF.snoc {H:Hp} {t c:Addr} {n:Str} {x y:Int} (h1:H t = some (.tup [.str n,.ref c])) (h2:SqT K H c [.int x,.int y]):∀ {xs:List V} {gs:List (Str × Int × Int)} {ws:List (Str × Addr)},WF K H xs gs ws->WF K H (xs ++ [.ref t]) (gs ++ [(n,x,y)]) (ws ++ [(n,c)])
 | _,_,_,.nil=>.cons h1 h2 .nil
 | _,_,_,.cons a b r=>.cons a b (r.snoc h1 h2)
theorem WF.ways {H:Hp} : ∀ {xs:List V} {gs:List (Str × Int × Int)} {ws:List (Str × Addr)},WF K H xs gs ws->PJ H xs ws
 | _,_,_,.nil=>⟨rfl,fun k g e=>by simp at e⟩
 | _,_,_,.cons a b r=>⟨congrArg (· + 1) r.ways.len,fun k g e=>by
  cases k with
  | zero =>
   rw [List.getElem?_cons_zero] at e
   cases e
   exact ⟨_,rfl,a⟩
  | succ k =>
   rw [List.getElem?_cons_succ] at e ⊢
   exact r.ways.at_ k g e⟩
noncomputable def Nh (S:Int) (acc:List (Str × Int)):List (Str × Int × Int):=(acc.filter fun g=>decide (0 < g.2)).map fun g=>(g.1,Ac.lw g.2 S)
theorem z6 {S:Int} {acc:List (Str × Int)} {i:Nat} {n:Str} {W:Int} (h:acc[i]? = some (n,W)):Nh S (acc.take (i + 1)) = Nh S (acc.take i) ++ if 0 < W then [(n,Ac.lw W S)] else []:=by
 unfold Nh
 rw [List.take_succ,h,List.filter_append,bf]
 congr 1
 show List.map _ (List.filter _ [(n,W)]) = _
 by_cases e:0 < W
 .rw [if_pos e,List.filter_cons,if_pos (decide_eq_true e)]; rfl
 .rw [if_neg e,List.filter_cons,if_neg (by simpa using e)]; rfl
structure PW (H:Hp) (xs:List V) (gs:List (Str × Int)) (S:Int):Prop where
 len:xs.length = gs.length
 at_:∀ (k:Nat) (g:Str × Int),gs[k]? = some g->∃ t c:Addr,xs[k]? = some (.ref t)/\H t = some (.tup [.str g.1,.ref c])/\H c = some (.tup [.int (Ac.lw g.2 S).1,.int (Ac.lw g.2 S).2])
theorem PW.imp {H H':Hp} (h':∀ t ys,H t = some (.tup ys)->H' t = some (.tup ys)) {xs:List V} {gs:List (Str × Int)} {S:Int} (h:PW H xs gs S):PW H' xs gs S:=⟨h.len,fun k g e=>let ⟨t,c,a,b,d⟩:=h.at_ k g e; ⟨t,c,a,h' _ _ b,h' _ _ d⟩⟩
theorem PW.same {H H':Hp} {xs:List V} {gs:List (Str × Int)} {S:Int} (h:PW H xs gs S) (T:Same H H'):PW H' xs gs S:=h.imp fun _ _ e=>T _ _ e
theorem PW.pairs {H:Hp} {xs:List V} {gs:List (Str × Int)} {S:Int} (h:PW H xs gs S):Pairs H xs (gs.map fun g=>(g.1,Ac.lw g.2 S)):=⟨by rw [h.len,ak],fun k g e=>by
 rw [aq] at e
 cases e0:gs[k]? with
 | none=>rw [e0] at e; cases e
 | some g0 =>
  rw [e0] at e
  cases e
  exact h.at_ k g0 e0⟩
structure Wt (gs:List (Str × Int)) (S:Int):Prop where
 pos:0 < S
 le:S <= 10 ^ 20
 len:gs.length <= 8
 wd:∀ g ∈ gs,g.1.length <= 1000/\jj g.1.cps.toList = true
 lo:∀ g ∈ gs,0 <= g.2
 sum:(gs.map (·.2)).sum = S
theorem Qj {i:Int} (h:i.natAbs <= 10 ^ 20):Bd i:=Nat.lt_of_le_of_lt h (by decide +kernel)
theorem Ng {gs:List (Str × Int)} : (∀ g ∈ gs,0 <= g.2)->0 <= (gs.map (·.2)).sum/\∀ g ∈ gs,g.2 <= (gs.map (·.2)).sum:=by
 induction gs with
 | nil=>intro _; exact ⟨by simp,by simp⟩
 | cons a gs ih =>
  intro h
  obtain ⟨h1,h2⟩:=ih fun g hg=>h g (aG _ hg)
  have h0:=h a aM
  rw [List.map_cons,List.sum_cons]
  refine ⟨by omega,fun g hg=>?_⟩
  rcases List.mem_cons.mp hg with rfl | hg
  .omega
  .have:=h2 g hg
   omega
theorem Wt.hi {gs:List (Str × Int)} {S:Int} (h:Wt gs S) {g:Str × Int} (hg:g ∈ gs):g.2 <= S:=by
 rw [<- h.sum]; exact (Ng h.lo).2 g hg
theorem Wt.pair {gs:List (Str × Int)} {S:Int} (h:Wt gs S) {g:Str × Int} (hg:g ∈ gs):QT (g.1,Ac.lw g.2 S):=by
 have p:=h.pos
 have l:=h.le
 have lo:=h.lo g hg
 have hi:=h.hi hg
 have p2:=Ac.jd (t:=g.2) p
 have g1:=Ac.ur (t:=g.2) p
 exact ⟨(h.wd g hg).1,(h.wd g hg).2,p2,g1,Ac.Yr p lo,Ac.YG p hi,p2,g1,aK (Ac.zW _ _) (aK (by omega:g.2.natAbs <= 10 ^ 20) (by decide)),aK (Ac.xJ _ _) (aK (by omega:S.natAbs <= 10 ^ 20) (by decide))⟩
theorem WR (a b c d:Int):PyData.eqv (.tuple (List.map PyData.int [a,b])) (.tuple (List.map PyData.int [c,d])) = (decide (a = c) && decide (b = d)):=by
 simp [PyData.eqv,PyData.eqvAll]
 rfl
noncomputable def rZ (K:Frag):Sp:=fun vs H Q _=>∃ (l:Addr) (xs:List V) (gs:List (Str × Int)) (S:Int),vs = [.ref l]/\H l = some (.lst xs)/\PW H xs gs S/\Wt gs S /\
 ∀ H' r ys ws,Same H H'->H r = none->H' r = some (.lst ys)->WF K H' ys (Ac.ways gs S) ws->Q (.ref r) H'
noncomputable def jJ (l d:Addr) (gs:List (Str × Int)) (S:Int) (H:Hp) (k:Nat) (σ:L2.St) (H':Hp):Prop:=∃ u v kvs,σ = [some (.ref l),some (.ref d),u,v]/\Same H H'/\H' d = some (.dK kvs)/\DA H' S kvs (Ac.gM (gs.take k))
noncomputable def jC (K:Frag) (acc:List (Str × Int)) (S:Int) (d D1:Addr) (u:HO) (H:Hp) (i:Nat) (ys:List V) (Hc:Hp):Prop:=Same (upd H d u) Hc/\Hc D1 = some (.lst ys)/\∃ ws,WF K Hc ys (Nh S (acc.take i)) ws
theorem zQ (F:Fun K gP gP kj f fd) (T:Txt K mg D) (Wk:OkX P w K mg base 3 sI sS (o9 (K:=K) (· + ·))):cj P w K mg base (CXO P w) 4 f fd gJ (rZ K):=by
 refine F.okX jD (fun vs H Q E h=>?_) (fun cdv A outer s H vs Q E hr h=>?_)
 .obtain ⟨l,xs,gs,S,rfl,_⟩:=h
  rfl
 .obtain ⟨l,xs,gs,S,rfl,hl,hp,W,q⟩:=h
  have p0:=W.pos
  have sle:=W.le
  refine ⟨_,(bG (bQ (i:=1) jD.nd rfl (Or.inr rfl) zq)
   (bG (jU PassesOwn.leaving rfl (cX ((pv 0)).mono) (fX (n:=2) rfl (cu (cF (i:=2) jD.nd rfl (Or.inl rfl)) (cu (cF (i:=3) jD.nd rfl (Or.inl rfl)) fK)))
    (bI (E_ (sZ hr) (pv 1) (pv 2) (fL Wk (hr.mono (by decide)) (by rfl) eF (bw (Q9 (sZ hr) (pv 1) (pv 2) (jN (by rfl) T.uT) (by first | exact ⟨rfl,rfl,rfl,rfl,rfl⟩ | constructor <;> rfl)) (bw (pv 3) bD))) rfl)))
   (bI (bU (jl (bH kj) tU ["pairs", "chances", "?room", "chance"] ["room"] (Xx ((pv 1)).mono) (dU (i:=0)) (Xv (cN (M8 (K:=K) rfl hr.units) (Fe (sZ hr) (pv 2) (pv 0) (fun _ _=>rfl)) (jN (by rfl) T.uT) (cH _))) (c7 (bw (pv 0) (bw (Fe (sZ hr) (pv 2) (pv 0) (fun _ _=>rfl)) bD)))))))),?_⟩
  unfold o9
  walk_at "rd"
  refine fun d hd=>gK ?_
  walk_at "rd"
  have ld:l ≠ d:=bA hl hd
  refine ⟨xs,(bF ld).trans hl,jJ l d gs S H,⟨none,none,[],rfl,Same.upd hd,bB,.nil⟩,?_,?_⟩
  .rintro k x σ' H' hk ⟨u,v,kvs,rfl,S1,h1,da⟩ _
   have lk:k < gs.length:=by rw [<- hp.len]; exact (ao.mp hk).1
   have e:gs[k]? = some gs[k]:=aj lk
   have hm:=aR lk
   obtain ⟨t,c,a,b,cc⟩:=hp.at_ k _ e
   rw [hk] at a
   cases a
   generalize gs[k] = g at *
   obtain ⟨n,x⟩:=g
   have wx:=W.hi hm
   have wl:=W.lo _ hm
   have al:=Ac.rK (gs.take k) fun g hg=>W.lo g (List.mem_of_mem_take hg)
   have st:((gs.take k).map (·.2)).sum <= S:=by
    have e1:gs.map (·.2) = (gs.take k).map (·.2) ++ (gs.drop k).map (·.2):=by rw [<- bf,List.take_append_drop]
    have e2:=(Ng (gs:=gs.drop k) fun g hg=>W.lo g (List.mem_of_mem_drop hg)).1
    have e3:=W.sum
    rw [e1,List.sum_append] at e3
    omega
   have look:0 <= Ac.look (Ac.gM (gs.take k)) n/\(Ac.look (Ac.gM (gs.take k)) n).natAbs <= 10 ^ 20:=by
    rcases Ac.JL (Ac.gM (gs.take k)) n with e0 | ⟨g,hg,e0⟩
    .rw [e0]; exact ⟨Int.le_refl _,by decide⟩
    .rw [e0]
     have:=al.2.2 g hg
     omega
   obtain ⟨cq,hq,sq⟩ : ∃ cq,(mV kvs (.inr n)).getD (.ref D.NOUGHT) = .ref cq/\SqT K H' cq [.int (Ac.lw (Ac.look (Ac.gM (gs.take k)) n) S).1,.int (Ac.lw (Ac.look (Ac.gM (gs.take k)) n) S).2]:=by
    rcases da.val n with ⟨e1,e2⟩ | ⟨c',e1,e2⟩
    .rw [e1,e2,((Ac.sW p0).mpr rfl).1,((Ac.sW p0).mpr rfl).2]
     exact ⟨_,rfl,T.sE H'⟩
    .rw [e1]
     exact ⟨c',rfl,.of e2⟩
   walk_at "rd"
   have q1:=Ac.jd (t:=Ac.look (Ac.gM (gs.take k)) n) p0
   have q2:=Ac.jd (t:=x) p0
   have d1:=aK (Ac.zW (Ac.look (Ac.gM (gs.take k)) n) S) look.2
   have d2:=aK (Ac.xJ (Ac.look (Ac.gM (gs.take k)) n) S) (by omega:S.natAbs <= 10 ^ 20)
   have d3:=aK (Ac.zW x S) (by have:x <= S:=wx; have:0 <= x:=wl; omega:x.natAbs <= 10 ^ 20)
   have d4:=aK (Ac.xJ x S) (by omega:S.natAbs <= 10 ^ 20)
   have d5:Bd ((Ac.lw (Ac.look (Ac.gM (gs.take k)) n) S).2 * (Ac.lw x S).2):=by
    refine Nat.lt_of_le_of_lt (m:=10 ^ 20 * 10 ^ 20) ?_ (by decide +kernel)
    rw [Int.natAbs_mul]
    exact Nat.mul_le_mul d2 d4
   have hlen:kvs.length < sizeLine:=by
    have h9:9 < sizeLine:=by decide
    have:=al.2.1
    have:=W.len
    rw [da.len]
    rw [aY] at *
    omega
   refine ⟨_,S1 _ _ b,rfl,_,_,rfl,_,_,rfl,rfl,.inl ⟨kvs,.inl h1⟩,_,qm.k (k:=.inr n) h1,cq,hq,c,rfl,_,_,sq,_,_,.of (S1 _ _ cc),Qj d1,Qj d2,Qj d3,Qj d4,q1,q2,d5,fun r z o lo hr=>?_⟩
   have rd:d ≠ r:=bA h1 hr
   refine ⟨_,Kg.k (k:=.inr n) ((bF rd).trans h1) hlen,(bF ld).trans ((bF (bA ‹H' l = some (HO.lst xs)› hr)).trans ‹H' l = some (HO.lst xs)›),_,_,_,rfl,?_,bB,?_⟩
   .intro b' o' e'
    rw [bF (bA e' hd),bF (bA (S1 _ _ e') hr)]
    exact S1 _ _ e'
   .obtain ⟨ez,eo⟩:=Ac.ZJ p0 lo.pos lo.gcd lo.eq
    rw [cD e,Ac.wV]
    refine DA.put ?_ (da.imp fun c' x' y' e'=>?_)
    .rw [bF rd.symm,<- ez,<- eo]; exact bB
    .rw [bF (eV e' h1 (by intro z; cases z)),bF (bA e' hr)]; exact e'
  .rintro σ' H' ⟨u,v,kvs,rfl,S1,h1,da⟩ _
   refine Im ?_
   have e8:gs.take xs.length = gs:=by rw [hp.len,aN]
   rw [e8] at da
   have al:=Ac.rK gs W.lo
   have nd:(kvs.map (·.1)).Nodup:=by
    rw [da.keys]
    exact al.1.map (f:=Sum.inr) (S:=(· ≠ ·)) fun a b h z=>h (Sum.inr.inj z)
   have hlen:kvs.length <= sizeLine:=by
    have h9:9 < sizeLine:=by decide
    have:=al.2.1
    have:=W.len
    rw [da.len]
    omega
   walk_at "rd"
   refine ⟨kvs,h1,hlen,fun o D1 hD1=>⟨jC K (Ac.gM gs) S d D1 (.frz o (.dK kvs)) H',⟨Same.upd hD1,bB,[],.nil⟩,?_,?_⟩⟩
   .rintro i k y ys Hc hi ⟨S2,hD,ws,wf⟩ hy hfr pre hpre
    obtain ⟨u0,rfl⟩:=List.length_eq_one_iff.mp hpre
    obtain ⟨nm,X,c,ea,rfl,rfl,hc⟩:=da.get hi
    have vv:=M7 nd hi
    have hcd:c ≠ d:=eV hc h1 (by intro z; cases z)
    have hcc:Hc c = some (.tup [.int (Ac.lw X S).1,.int (Ac.lw X S).2]):=S2 _ _ ((bF hcd).trans hc)
    walk_at "rd"
    have dg:qm Hc d (kV (.inr nm)) (some (.ref c)):=.inl ⟨kvs,.inr nm,.inr ⟨o,hfr⟩,rfl,vv.symm⟩
    refine ⟨[some (.str nm)],rfl,rfl,_,dg,_,.tup (.of hcc) (cI.ints K _ [_,_]),_,.tup (T.sE _) (cI.ints K _ [0,1]),rfl,rfl,?_⟩
    have X0:=(al.2.2 _ (aA ea)).1
    by_cases hX:X = 0
    .subst hX
     obtain ⟨e1,e2⟩:=(Ac.sW (b:=S) p0).mpr rfl
     rw [show PyData.eqv (.tuple (List.map PyData.int [(Ac.lw 0 S).1,(Ac.lw 0 S).2])) (.tuple (List.map PyData.int [0,1])) = true by rw [e1,e2]; rfl]
     refine ⟨hfr,S2,hD,ws,?_⟩
     rw [z6 ea,if_neg (by decide),List.append_nil]
     exact wf
    .have e0:PyData.eqv (.tuple (List.map PyData.int [(Ac.lw X S).1,(Ac.lw X S).2])) (.tuple (List.map PyData.int [0,1])) = false:=by
      rw [WR]
      simp only [Bool.and_eq_false_iff,decide_eq_false_iff_not]
      by_cases h1:(Ac.lw X S).1 = 0
      .exact .inr fun h2=>hX ((Ac.sW p0).mp ⟨h1,h2⟩)
      .exact .inl h1
     rw [e0]
     refine ⟨_,dg,dG,fun p hp=>?_⟩
     have pD:D1 ≠ p:=bA hD hp
     have pd:d ≠ p:=bA hfr hp
     refine ⟨(bF pD).trans hD,(bF pd).trans hfr,?_,bB,ws ++ [(nm,c)],?_⟩
     .intro b' o' e'
      rw [bF (bA e' hD1),bF (bA (S2 _ _ e') hp)]
      exact S2 _ _ e'
     .rw [z6 ea,if_pos (by omega)]
      exact WF.updL ((bF pD).trans hD) ((wf.same (Same.upd hp)).snoc bB (.of ((bF (bA hcc hp)).trans hcc)))
   .rintro ys Hc ⟨S2,hD,ws,wf⟩ _
    rw [da.len,aN] at wf
    refine q _ D1 ys ws ?_ ?_ hD wf
    .intro b o' e'
     exact S2 _ _ ((bF (bA e' hd)).trans (S1 _ _ e'))
    .cases z:H D1 with
     | none=>rfl
     | some o' =>
      have:=(bF (H:=H') (o:=.frz o (.dK kvs)) (bA z hd)).trans (S1 _ _ z)
      rw [this] at hD1
      cases hD1
theorem Rk {gs:List (Str × Int)} {S:Int} (W:Wt gs S):∀ (hs:List (Str × Int)) (L:Int),(∀ g ∈ hs,g ∈ gs/\(Ac.lw g.2 S).2 ∣ L)->((hs.map fun g=>(Ac.lw g.2 S).1 * (L / (Ac.lw g.2 S).2)).sum) * S = (hs.map (·.2)).sum * L
 | [],L,_=>by simp
 | g :: hs,L,h=>by
  have ih:=Rk W hs L fun g hg=>h g (aG _ hg)
  obtain ⟨hm,q,hq⟩:=h g aM
  have p:=Ac.jd (t:=g.2) W.pos
  have e:=Ac.xV (t:=g.2) W.pos
  rw [List.map_cons,List.sum_cons,List.map_cons,List.sum_cons,Int.add_mul,Int.add_mul,ih]
  congr 1
  generalize (Ac.lw g.2 S).1 = a at *
  generalize (Ac.lw g.2 S).2 = b at *
  rw [hq,Int.mul_ediv_cancel_left _ (Int.ne_of_gt p),Int.mul_right_comm,e,Int.mul_assoc]
theorem Rm {gs:List (Str × Int)} {S:Int} (W:Wt gs S):∀ x y,Low (lvT ((gs.map fun g=>(g.1,Ac.lw g.2 S)).map (·.2))).sum (lvB ((gs.map fun g=>(g.1,Ac.lw g.2 S)).map (·.2)):Nat) x y->x = 1/\y = 1:=by
 intro x y lo
 have hq:∀ f ∈ ((gs.map fun g=>(g.1,Ac.lw g.2 S)).map (·.2)),Fq f:=by
  intro f hf
  obtain ⟨u,hu,rfl⟩:=List.mem_map.mp hf
  obtain ⟨g,hg,rfl⟩:=List.mem_map.mp hu
  exact (W.pair hg).fq
 have e0:(gs.map fun g=>(g.1,Ac.lw g.2 S)).map (·.2) = gs.map fun g=>Ac.lw g.2 S:=by rw [List.map_map]; rfl
 have bp:=sY hq
 have top:=Rk W gs (lvB ((gs.map fun g=>(g.1,Ac.lw g.2 S)).map (·.2)):Nat) fun g hg=>⟨hg,Fx (f:=Ac.lw g.2 S) (List.mem_map.mpr ⟨(g.1,Ac.lw g.2 S),List.mem_map.mpr ⟨g,hg,rfl⟩,rfl⟩) (W.pair hg).fq⟩
 have e1:(lvT ((gs.map fun g=>(g.1,Ac.lw g.2 S)).map (·.2))).sum = (gs.map fun g=>(Ac.lw g.2 S).1 * ((lvB ((gs.map fun g=>(g.1,Ac.lw g.2 S)).map (·.2)):Nat) / (Ac.lw g.2 S).2)).sum:=by
  unfold lvT
  rw [List.map_map,List.map_map]; rfl
 rw [<- e1,W.sum,Int.mul_comm S] at top
 have e2:=Int.eq_of_mul_eq_mul_right (Int.ne_of_gt W.pos) top
 rw [e2] at lo
 have h:=lo.eq
 rw [Int.mul_comm _ y] at h
 have e3:x = y:=Int.eq_of_mul_eq_mul_right (by omega) h
 subst e3
 have g:=lo.gcd
 have p:=lo.pos
 rw [Int.gcd_self] at g
 omega
noncomputable def Keep (s:Addr) (H H':Hp):Prop:=∀ b o,b ≠ s->H b = some o->H' b = some o
theorem Keep.tup {s C dx:Addr} {fs:List (Str × V)} {H H':Hp} (h:Keep s H H') (hs:H s = some (.ins C dx fs)):∀ t ys,H t = some (.tup ys)->H' t = some (.tup ys):=fun t ys e=>h t _ (eV e hs (by intro z; cases z)) e
theorem Keep.lst {s C dx:Addr} {fs:List (Str × V)} {H H':Hp} (h:Keep s H H') (hs:H s = some (.ins C dx fs)) {t:Addr} {ys:List V} (e:H t = some (.lst ys)):H' t = some (.lst ys):=h t _ (eV e hs (by intro z; cases z)) e
theorem Keep.free {s r:Addr} {o:HO} {H H':Hp} (h:Keep s H H') (hr:H' r = none) (hs:H' s = some o):H r = none:=by
 cases z:H r with
 | none=>rfl
 | some u =>
  have:=h r u (bA hs hr).symm z
  rw [hr] at this
  cases this
theorem WF.updI {H:Hp} {o C dx:Addr} {fs:List (Str × V)} {u:HO} (ho:H o = some (.ins C dx fs)) {xs:List V} {gs:List (Str × Int × Int)} {ws:List (Str × Addr)} (h:WF K H xs gs ws):WF K (upd H o u) xs gs ws :=
 h.imp (fun t us e=>(bF (eV e ho (by intro z; cases z))).trans e) fun c xs e=>e.updO ho (by intro ys z; cases z) (by intro ob ys z; cases z)
theorem PW.snoc {H:Hp} {xs:List V} {gs:List (Str × Int)} {S:Int} (h:PW H xs gs S) {t c:Addr} {g:Str × Int} (h1:H t = some (.tup [.str g.1,.ref c])) (h2:H c = some (.tup [.int (Ac.lw g.2 S).1,.int (Ac.lw g.2 S).2])):PW H (xs ++ [.ref t]) (gs ++ [g]) S:=by
 refine ⟨by rw [au,au,h.len]; rfl,fun k u e=>?_⟩
 by_cases hk:k < gs.length
 .rw [aC hk] at e
  rw [aC (by rw [h.len]; exact hk)]
  exact h.at_ k u e
 .rw [aB (by omega)] at e
  rw [aB (by rw [h.len]; omega),h.len]
  have e0:k - gs.length = 0:=by
   cases e1:k - gs.length with
   | zero=>rfl
   | succ m=>rw [e1] at e; simp at e
  rw [e0,List.getElem?_cons_zero] at e
  cases e
  rw [e0]
  exact ⟨t,c,rfl,h1,h2⟩
structure N6 (K:Frag) (H:Hp) (s C:Addr) (n:Str) (p:Addr) (ds:List (Str × Int × Int)) (ld:Addr) (ys:List V) (ws:List (Str × Addr)):Prop where
 at_:∃ dx,H s = some (.ins C dx [("name",.str n),("pay",.ref p),("leads",.ref ld)])
 hl:H ld = some (.lst ys)
 wf:WF K H ys ds ws
noncomputable def dW (K:Frag) (D:Adr):Sp:=fun vs H Q _=>∃ (s dx C:Addr) (n:Str) (p l:Addr) (x y:Int) (xs:List V) (gs:List (Str × Int)) (S:Int),vs = [.ref s,.str n,.ref p,.ref l]/\H s = some (.ins C dx [])/\Fam D C/\n.length <= 1000/\jj n.cps.toList = true/\Fk K H p x y /\
 H l = some (.lst xs)/\PW H xs gs S/\Wt gs S/\∀ H' ld ys ws,H ld = none->Keep s H H'->N6 K H' s C n p (Ac.ways gs S) ld ys ws->Q .non H'
theorem Bq (F:Fun K tL tD pL f fd) (T:Txt K mg D) (g_:OkI P w K mg base (CXO P w) 4 D.Door_init gZ (iD (K:=K) D)) (z_:OkX P w K mg base 4 gj gB jL)
  (Ai:OkX P w K mg base 4 gP gJ (rZ K)):cj P w K mg base (CXO P w) 5 f fd eU (dW K D):=by
 refine F.okX Cv (fun vs H Q E h=>?_) (fun cdv A outer s H vs Q E hr h=>?_)
 .obtain ⟨s,dx,C,n,p,l,x,y,xs,gs,S,rfl,_⟩:=h
  rfl
 .obtain ⟨o,dx,C,n,p,l,x,y,xs,gs,S,rfl,ho,hC,hn,hw,hf,hl,hp,W,q⟩:=h
  refine ⟨_,(bG (cY (vo T.vO g_ (hr.mono (by decide)) (by rfl) T.Rv eF (bw (pv 0) (bw (pv 1) (bw (pv 2) bD)))))
   (bG (cY (fL z_ (hr.mono (by decide)) (by rfl) eF (bw (pv 3) bD)))
   (bI (qN (pv 0) (fL Ai (hr.mono (by decide)) (by rfl) eF (bw (pv 3) bD)) rfl)))),?_⟩
  unfold iD jL rZ
  walk_at "rd"
  refine ⟨dx,C,ho,hC,hn,hw,⟨x,y,hf⟩,fun l0 h0=>?_⟩
  have ol:o ≠ l0:=bA bB h0
  rw [bF ol.symm] at h0
  have k1:Keep o H (upd (upd H l0 (.lst [])) o (.ins C dx [("name",.str n),("pay",.ref p),("leads",.ref l0)])):=fun b u hb e=>(bF hb).trans ((bF (bA e h0)).trans e)
  have o1:upd (upd H l0 (.lst [])) o (.ins C dx [("name",.str n),("pay",.ref p),("leads",.ref l0)]) o = some (.ins C dx [("name",.str n),("pay",.ref p),("leads",.ref l0)]):=bB
  generalize upd (upd H l0 (.lst [])) o (.ins C dx [("name",.str n),("pay",.ref p),("leads",.ref l0)]) = H1 at k1 o1 ⊢
  refine ⟨xs,k1.lst ho hl,_,(hp.imp (k1.tup ho)).pairs,?_,?_,Rm W,fun H2 S2=>?_⟩
  .intro g hg
   obtain ⟨u,hu,rfl⟩:=List.mem_map.mp hg
   exact W.pair hu
  .rw [ak]
   exact aK W.len (by decide)
  .refine ⟨xs,S2 _ _ (k1.lst ho hl),gs,S,(hp.imp (k1.tup ho)).same S2,W,fun H3 r ys ws S3 hr3 hr hwf=>?_⟩
   have o3:=S3 _ _ (S2 _ _ o1)
   refine ⟨C,dx,_,o3,T.cl C hC,T.zP C hC,(by show 3 < 1000; decide),?_⟩
   refine q _ r ys ws (k1.free (S2.free hr3) o1) (fun b u hb e=>(bF hb).trans (S3 _ _ (S2 _ _ (k1 b u hb e)))) ⟨⟨dx,bB⟩,(bF (eV hr o3 (by intro z; cases z))).trans hr,hwf.updI o3⟩
noncomputable def lO (K:Frag) (D:Adr):Sp:=fun vs H Q _=>∃ (s dx:Addr) (n r1 r2:Str) (p c:Addr) (x y w S:Int),vs = [.ref s,.str n,.ref p,.ref c,.str r1,.str r2]/\H s = some (.ins D.Toss dx [])/\n.length <= 1000/\jj n.cps.toList = true/\Fk K H p x y /\
 H c = some (.tup [.int (Ac.lw w S).1,.int (Ac.lw w S).2])/\Wt [(r1,w),(r2,S - w)] S/\∀ H' ld ys ws,H ld = none->Keep s H H'->N6 K H' s D.Toss n p (Ac.ways [(r1,w),(r2,S - w)] S) ld ys ws->Q .non H'
theorem Ep (F:Fun K uy uK rW f fd) (T:Txt K mg D) (fV:OkX P w K mg base 3 fQ fP (fM (K:=K))) (lA:OkX P w K mg base 3 d9 d_ (lY (K:=K))) (Tz:OkX P w K mg base 3 rP rF (o9 (K:=K) (· - ·)))
  (dD:OkI P w K mg base (CXO P w) 5 D.Mixed_init eU (dW K D)):cj P w K mg base (CXO P w) 6 f fd jR (lO K D):=by
 refine F.okX Gn (fun vs H Q E h=>?_) (fun cdv A outer s H vs Q E hr h=>?_)
 .obtain ⟨s,dx,n,r1,r2,p,c,x,y,w,S,rfl,_⟩:=h
  rfl
 .obtain ⟨o,dx,n,r1,r2,p,c,x,y,w,S,rfl,ho,hn,hw,hf,hc,W,q⟩:=h
  refine ⟨_,(bG (cY (fL fV (hr.mono (by decide)) (by rfl) eF (bw (pv 1) (bw (pv 2) bD))))
   (bG (cY (fL lA (hr.mono (by decide)) (by rfl) eF (bw (pv 3) bD)))
   (bI (cY (vo T.tH dD (hr.mono (by decide)) (by rfl) T.Ej eF (bw (pv 0) (bw (pv 1) (bw (pv 2) (bw (iH (bw (c7 (bw (pv 4) (bw (pv 3) bD))) (bw (c7 (bw (pv 5) (bw (fL Tz (hr.mono (by decide)) (by rfl) eF (bw (jN (by rfl) T.JW) (bw (pv 3) bD))) bD))) bD))) bD))))))))),?_⟩
  unfold fM lY o9 dW
  walk_at "rd"
  have p0:=W.pos
  have sle:=W.le
  have w0:0 <= w:=W.lo (r1,w) (by simp)
  have w1:w <= S:=W.hi (g:=(r1,w)) (by simp)
  have q2:=Ac.jd (t:=w) p0
  have b3:=Qj (aK (Ac.zW w S) (by omega:w.natAbs <= 10 ^ 20))
  have b4:=Qj (aK (Ac.xJ w S) (by omega:S.natAbs <= 10 ^ 20))
  have b1:Bd 1:=Bd.sm (by decide)
  refine ⟨hn,hw,⟨x,y,hf⟩,⟨_,_,⟨.of hc,q2,Ac.ur p0⟩,Ac.Yr p0 w0,Ac.YG p0 w1,b4⟩,dG,fun p1 h1=>⟨1,1,T.zJ _,_,_,.of (Same.upd h1 _ _ hc),b1,b1,b3,b4,by decide,q2,by rw [Int.one_mul]; exact b4,fun r z o1 lo hr=>⟨dG,fun p2 h2=>⟨dG,fun p3 h3=>?_⟩⟩⟩⟩
  have T2:Same (upd H p1 (.tup [.str r1,.ref c])) (upd (upd H p1 (.tup [.str r1,.ref c])) r (.tup [.int z,.int o1])):=Same.upd hr
  have T3:Same (upd (upd H p1 (.tup [.str r1,.ref c])) r (.tup [.int z,.int o1])) (upd (upd (upd H p1 (.tup [.str r1,.ref c])) r (.tup [.int z,.int o1])) p2 (.tup [.str r2,.ref r])):=Same.upd h2
  have T4:Same (upd (upd (upd H p1 (.tup [.str r1,.ref c])) r (.tup [.int z,.int o1])) p2 (.tup [.str r2,.ref r])) (upd (upd (upd (upd H p1 (.tup [.str r1,.ref c])) r (.tup [.int z,.int o1])) p2 (.tup [.str r2,.ref r])) p3 (.lst [.ref p1,.ref p2])):=Same.upd h3
  have TS:Same H (upd (upd (upd (upd H p1 (.tup [.str r1,.ref c])) r (.tup [.int z,.int o1])) p2 (.tup [.str r2,.ref r])) p3 (.lst [.ref p1,.ref p2])):=(Same.upd h1).trans (T2.trans (T3.trans T4))
  have e1:=T4 _ _ (T3 _ _ (T2 p1 _ bB))
  have e2:=T4 _ _ (T3 r _ bB)
  have e3:=T4 p2 _ bB
  obtain ⟨ez,eo⟩:=Ac.GR p0 lo.pos lo.gcd lo.eq
  generalize upd (upd (upd (upd H p1 (.tup [.str r1,.ref c])) r (.tup [.int z,.int o1])) p2 (.tup [.str r2,.ref r])) p3 (.lst [.ref p1,.ref p2]) = Hn at TS e1 e2 e3 ⊢
  refine ⟨dx,D.Toss,TS _ _ ho,(by simp [Fam]),hn,hw,⟨x,y,hf.same TS⟩,[(r1,w),(r2,S - w)],S,⟨rfl,fun k g e=>?_⟩,W,fun H' ld ys ws f k d=>q H' ld ys ws (TS.free f) (fun b u hb e=>k b u hb (TS b u e)) d⟩
  match k,e with
  | 0,e =>
   cases e
   exact ⟨p1,c,rfl,e1,TS _ _ hc⟩
  | 1,e =>
   cases e
   exact ⟨p2,r,rfl,e3,by rw [<- ez,<- eo]; exact e2⟩
  | k + 2,e=>cases e
noncomputable def jE (D1:Addr) (rs:List Str) (H:Hp) (k:Nat) (ys:List V) (Hc:Hp):Prop:=PW Hc ys ((rs.map fun r=>(r,(1:Int))).take k) rs.length/\Same H Hc/\Hc D1 = some (.lst ys)
noncomputable def lQ (K:Frag) (D:Adr):Sp:=fun vs H Q _=>∃ (s dx:Addr) (n:Str) (p l:Addr) (x y:Int) (rs:List Str),vs = [.ref s,.str n,.ref p,.ref l]/\H s = some (.ins D.Even dx [])/\n.length <= 1000/\jj n.cps.toList = true/\Fk K H p x y /\
 H l = some (.lst (rs.map V.str))/\Wt (rs.map fun r=>(r,(1:Int))) rs.length/\∀ H' ld ys ws,H ld = none->Keep s H H'->N6 K H' s D.Even n p (Ac.ways (rs.map fun r=>(r,(1:Int))) rs.length) ld ys ws->Q .non H'
theorem Gx (F:Fun K uX wg mZ f fd) (T:Txt K mg D) (dD:OkI P w K mg base (CXO P w) 5 D.Mixed_init eU (dW K D)):cj P w K mg base (CXO P w) 6 f fd jA (lQ K D):=by
 refine F.okX Gg (fun vs H Q E h=>?_) (fun cdv A outer s H vs Q E hr h=>?_)
 .obtain ⟨s,dx,n,p,l,x,y,rs,rfl,_⟩:=h
  rfl
 .obtain ⟨o,dx,n,p,l,x,y,rs,rfl,ho,hn,hw,hf,hl,W,q⟩:=h
  refine ⟨_,(bI (cY (vo T.tH dD (hr.mono (by decide)) (by rfl) T.Ej eF (bw (pv 0) (bw (pv 1) (bw (pv 2) (bw (jl (bH mZ) rO rO ["room"] (cX ((pv 3)).mono) (dU (i:=0)) cU (c7 (bw (pv 0) (bw (c7 (bw bC (bw (bR iC (by rfl) T.m5 PySem.boot_len (bw (pv 4) bD)) bD))) bD)))) bD))))))),?_⟩
  unfold dW
  walk_at "rd"
  refine dB ?_
  walk_at "rd"
  have l8:=W.len
  rw [ak] at l8
  have p0:=W.pos
  have z9:9 < sizeLine:=by decide
  refine ⟨_,hl,by rw [ak]; omega,fun D1 hD=>⟨jE D1 rs H,⟨⟨rfl,fun k g e=>by simp at e⟩,Same.upd hD,bB⟩,?_,?_⟩⟩
  .rintro k x1 ys Hc hk ⟨pw,S1,hD1⟩ hy hlc
   rw [aq] at hk
   cases er:rs[k]? with
   | none=>rw [er] at hk; cases hk
   | some r =>
    rw [er] at hk
    cases hk
    refine ⟨_,hlc,dG,fun p1 hp1=>⟨dG,fun p2 hp2=>?_⟩⟩
    have T1:Same Hc (upd (upd Hc p1 (.tup [.int 1,.int (rs.map V.str).length])) p2 (.tup [.str r,.ref p1])):=(Same.upd hp1).trans (Same.upd hp2)
    have e1:upd (upd Hc p1 (.tup [.int 1,.int (rs.map V.str).length])) p2 (.tup [.str r,.ref p1]) p1 = some (.tup [.int 1,.int (rs.map V.str).length]):=Same.upd hp2 p1 _ bB
    have e2:upd (upd Hc p1 (.tup [.int 1,.int (rs.map V.str).length])) p2 (.tup [.str r,.ref p1]) p2 = some (.tup [.str r,.ref p1]):=bB
    generalize upd (upd Hc p1 (.tup [.int 1,.int (rs.map V.str).length])) p2 (.tup [.str r,.ref p1]) = Hn at T1 e1 e2 ⊢
    have nD:∀ t us,Hn t = some (.tup us)->upd Hn D1 (.lst (ys ++ [.ref p2])) t = some (.tup us):=fun t us e=>(bF (eV e (T1 _ _ hD1) (by intro z; cases z))).trans e
    refine ⟨T1 _ _ hD1,T1 _ _ hlc,?_,?_,bB⟩
    .rw [List.take_succ,aq,er]
     refine ((pw.same T1).imp nD).snoc (c:=p1) (nD _ _ e2) ?_
     obtain ⟨h1,h2⟩:=Ac.Z_ p0
     show _ = some (HO.tup [.int (Ac.lw 1 (rs.length:Int)).1,.int (Ac.lw 1 (rs.length:Int)).2])
     rw [h1,h2,nD _ _ e1,ak]
    .intro b u e
     rw [bF (bA e hD)]
     exact T1 _ _ (S1 _ _ e)
  .rintro ys Hc ⟨pw,S1,hD1⟩ hy
   have ek:(rs.map fun r=>(r,(1:Int))).take (rs.map V.str).length = rs.map fun r=>(r,(1:Int)):=aJ (by rw [ak,ak]; exact aD _)
   rw [ek] at pw
   exact ⟨dx,D.Even,S1 _ _ ho,(by simp [Fam]),hn,hw,⟨x,y,hf.same S1⟩,ys,hD1,_,_,pw,W,fun H' ld ys ws f k d=>q H' ld ys ws (S1.free f) (fun b u hb e=>k b u hb (S1 b u e)) d⟩
noncomputable def Lt (x:Str):Prop:=x.cps.toList.all tX = true
theorem Mu (x y:Str):(x ++ y).cps.toList = x.cps.toList ++ y.cps.toList:=by
 show (x.cps ++ y.cps).toList = _
 rw [Array.toList_append]
theorem Xn (x y:Str):(x ++ y).length = x.length + y.length:=by
 show (x.cps ++ y.cps).size = _
 rw [Array.size_append]; rfl
theorem SN {α:Type} {xs:List α} {i:Int} (h0:0 <= i) (h1:i < xs.length):∃ v,atI xs i = some v/\v ∈ xs:=by
 obtain ⟨n,rfl⟩:=Int.eq_ofNat_of_zero_le h0
 have hn:n < xs.length:=by omega
 exact ⟨xs[n],bY (aj hn),aR hn⟩
theorem Lt.one {i:Int} (h0:0 <= i) (h1:i < 26):∃ c,atI (Str.ofString "abcdefghijklmnopqrstuvwxyz").cps.toList i = some c/\Lt ⟨#[c]⟩:=by
 have l1:(Str.ofString "abcdefghijklmnopqrstuvwxyz").cps.toList.length = 26:=by decide +kernel
 obtain ⟨v,e,e2⟩:=SN (xs:=(Str.ofString "abcdefghijklmnopqrstuvwxyz").cps.toList) h0 (by rw [l1]; exact h1)
 refine ⟨v,e,?_⟩
 unfold Lt tX
 simp only [List.all_cons,List.all_nil,Bool.and_true,decide_eq_true_eq]
 exact e2
structure Wd (x:Str):Prop where
 lt:Lt x
 lo:1 <= x.length
 hi:x.length <= 8
theorem Wd.word {x:Str} (h:Wd x):jj x.cps.toList = true:=by
 have l:=h.lt
 have lo:=h.lo
 have hi:=h.hi
 have hl:x.cps.toList.length = x.length:=Array.length_toList
 unfold Lt at l
 unfold jj
 rw [l,hl,decide_eq_true lo,decide_eq_true hi]; rfl
theorem Lt.fold:∀ (ys:List Str) (acc:Array Nat),acc.toList.all tX = true->(∀ y ∈ ys,Lt y)->(ys.foldl (fun acc p=>acc ++ (Str.ofString "").cps ++ p.cps) acc).toList.all tX = true
 | [],acc,h,_=>h
 | y :: ys,acc,h,hy=>by
  rw [List.foldl_cons]
  refine Lt.fold ys _ ?_ fun z hz=>hy z (aG _ hz)
  have e0:(Str.ofString "").cps = #[]:=by decide +kernel
  have hy0:y.cps.toList.all tX = true:=hy y aM
  rw [e0,Array.append_empty,Array.toList_append,List.all_append,h,hy0]; rfl
theorem Lt.glued {ys:List Str} (h:∀ y ∈ ys,Lt y):Lt (Txt.join (Str.ofString "") ys):=by
 show ((ys.drop 1).foldl (fun acc p=>acc ++ (Str.ofString "").cps ++ p.cps) (ys.headD Str.empty).cps).toList.all tX = true
 refine Lt.fold _ _ ?_ fun y hy=>h y (List.mem_of_mem_drop hy)
 cases ys with
 | nil=>rfl
 | cons y ys=>exact h y aM
noncomputable def tG (ns:List Str) (o:Nat):List (Key × V):=(ns.zipIdx o).map fun g=>(.inr g.1,.int (g.2:Nat))
noncomputable abbrev wG (ns:List Str):List (Key × V):=tG ns 0
theorem yZ {ns:List Str} {o:Nat} : (tG ns o).length = ns.length:=by unfold tG; rw [ak,List.length_zipIdx]
theorem xg {n:Str} {ns:List Str} {o:Nat} : tG (n :: ns) o = (.inr n,.int (o:Nat)) :: tG ns (o + 1):=by unfold tG; rw [List.zipIdx_cons]; rfl
theorem Om {n:Str} : ∀ {ns:List Str} {o:Nat},n ∉ ns->mV (tG ns o) (.inr n) = none
 | [],_,_=>rfl
 | a :: ns,o,h=>by
  rw [xg]
  have ne:¬ (Sum.inr a:Key) = .inr n:=fun z=>h (by injection z with z; rw [z]; exact aM)
  unfold mV
  rw [List.find?_cons,decide_eq_false ne]
  exact Om fun m=>h (aG _ m)
theorem I9 {n:Str} : ∀ {ns:List Str} {o k:Nat},ns.Nodup->ns[k]? = some n->mV (tG ns o) (.inr n) = some (.int ((o + k:Nat):Int))
 | [],_,_,_,h=>by simp at h
 | a :: ns,o,0,_,h=>by
  rw [List.getElem?_cons_zero] at h
  cases h
  rw [xg]
  unfold mV
  rw [List.find?_cons,decide_eq_true rfl]; rfl
 | a :: ns,o,k + 1,nd,h=>by
  rw [List.getElem?_cons_succ] at h
  obtain ⟨na,nd'⟩:=List.nodup_cons.mp nd
  have ne:¬ (Sum.inr a:Key) = .inr n:=fun z=>na (by injection z with z; rw [z]; exact aA h)
  have ih:=I9 (o:=o + 1) nd' h
  rw [xg]
  unfold mV at ih ⊢
  rw [List.find?_cons,decide_eq_false ne]
  rw [show o + (k + 1) = o + 1 + k by omega]
  exact ih
theorem RG {n:Str} {ns:List Str} (h:n ∉ ns):putK (wG ns) (.inr n) (.int (ns.length:Nat)) = wG (ns ++ [n]):=by
 have a:((wG ns).any fun kv=>decide (kv.1 = .inr n)) = false:=by
  rw [List.any_eq_false]
  intro kv hk
  unfold wG tG at hk
  obtain ⟨g,hg,rfl⟩:=List.mem_map.mp hk
  have:g.1 ∈ ns:=by
   have:=List.mem_map_of_mem (f:=Prod.fst) hg
   rwa [List.zipIdx_map_fst] at this  
  intro z
  have z:(Sum.inr g.1:Key) = .inr n:=of_decide_eq_true z
  injection z with z
  exact h (z ▸ this)
 unfold putK
 rw [a,if_neg (by decide)]
 unfold wG tG
 rw [List.zipIdx_append,bf,Nat.zero_add]; rfl
structure Nu (H:Hp) (xs:List V) (ns:List Str):Prop where
 len:xs.length = ns.length
 at_:∀ (k:Nat) (n:Str),ns[k]? = some n->∃ t v,xs[k]? = some (.ref t)/\H t = some (.tup [.str n,v])
theorem Ay {α:Type} {l:List α} {k:Nat} {a:α} (nd:l.Nodup) (e:l[k]? = some a):a ∉ l.take k:=by
 obtain ⟨lk,rfl⟩:=ao.mp e
 rw [<- List.take_append_drop k l,List.nodup_append] at nd
 intro z
 refine nd.2.2 _ z _ ?_ rfl
 rw [List.drop_eq_getElem_cons lk]
 exact aM
noncomputable def jx:Sp:=fun vs H Q _=>∃ (p:Addr) (x y:Int),vs = [.ref p]/\Fk K H p x y/\0 <= x/\x < y/\Bd x/\Bd y/\Q .non H
theorem zc (F:Fun K gw gw nQ f fd) (T:Txt K mg D) (fJ:OkF P w K mg base 2 gk gG (fH (K:=K))) (nj:OkF P w K mg base 1 oK oM (oG (K:=K))):cj P w K mg base CX0 3 f fd gR (jx (K:=K)):=by
 refine F.ok yW (fun vs H Q E h=>?_) (fun cdv A outer s H vs Q E hr h=>?_)
 .obtain ⟨p,x,y,rfl,_⟩:=h
  rfl
 .obtain ⟨p,x,y,rfl,fk,x0,xy,bx,b_y,q⟩:=h
  refine ⟨_,(bI (cW (PW.pt (pw_or (dM (dz (bK fJ (hr.mono (by decide)) (by rfl) (bw (pv 0) bD)) (fun _=>rfl))) (pw_or (dz (bK nj (hr.mono (by decide)) (by rfl) (bw (pv 0) (bw (jN (by rfl) T.uT) bD))) (fun _=>rfl)) (pw_or1 (dM (dz (bK nj (hr.mono (by decide)) (by rfl) (bw (pv 0) (bw (jN (by rfl) T.JW) bD))) (fun _=>rfl)))))))
    (bI n_)
    cB)),?_⟩
  unfold fH oG
  walk_at "rd"
  have hy:=fk.pos
  have b0:Bd 0:=Nat.two_pow_pos 8000
  have b1:Bd 1:=Nat.one_lt_two_pow (by decide)
  refine ⟨⟨x,y,fk⟩,x,y,fk.at_,0,1,T.sE H,bx,b_y,b0,b1,?_⟩
  rw [if_neg (by simp; omega)]
  refine ⟨x,y,fk.at_,1,1,T.zJ H,bx,b_y,b1,b1,?_⟩
  rw [if_neg (by simp; omega)]
  exact q
noncomputable def kJ:Sp:=fun vs H Q _=>∃ (l:Addr) (xs:List V) (rs:List Str),vs = [.ref l]/\H l = some (.lst xs)/\Nu H xs rs/\rs.Nodup/\(∀ g ∈ rs,Wd g)/\rs.length <= 20 /\
 ∀ d H',Same H H'->H d = none->H' d = some (.dK (wG rs))->Q (.ref d) H'
noncomputable def nJ (l d:Addr) (rs:List Str) (H:Hp) (k:Nat) (σ:L2.St) (H':Hp):Prop:=∃ u v,σ = [some (.ref l),some (.ref d),u,v]/\Same H H'/\H' d = some (.dK (wG (rs.take k)))
theorem Ci (F:Fun K iI iI pH f fd) (T:Txt K mg D) (h_:OkF P w K mg base 1 jc jg qe):cj P w K mg base CX0 2 f fd iM kJ:=by
 refine F.ok j9 (fun vs H Q E h=>?_) (fun cdv A outer s H vs Q E hr h=>?_)
 .obtain ⟨l,xs,rs,rfl,_⟩:=h
  rfl
 .obtain ⟨l,xs,rs,rfl,hl,ra,nd,wd,n20,q⟩:=h
  refine ⟨_,(bG (bQ (i:=1) j9.nd rfl (Or.inl rfl) zq)
   (bG (jU PassesOwn.never rfl (cX ((pv 0)).mono) (cF (i:=2) j9.nd rfl (Or.inl rfl))
    (bG (bQ (i:=3) j9.nd rfl (Or.inl rfl) (bM bV (pv 2) bC (fun _ _=>rfl)))
    (bG (cW (PW.pt (pw_or (dM (dz (bK h_ (hr.mono (by decide)) (by rfl) (bw (pv 3) bD)) (fun _=>rfl))) (pw_or1 (Lp (Tn (sZ hr) (pv 3) (pv 1))))))
     (bI n_)
     cB)
    (bI (E_ (sZ hr) (pv 1) (pv 3) (bR CQ (by rfl) T.m5 PySem.boot_len (bw (pv 1) bD)) rfl)))))
   (bI (bU (pv 1))))),?_⟩
  unfold qe
  walk_at "rd"
  refine fun d hd=>gK ?_
  walk_at "rd"
  have ld:l ≠ d:=bA hl hd
  refine ⟨xs,(bF ld).trans hl,nJ l d rs H,⟨none,none,rfl,Same.upd hd,bB⟩,?_,?_⟩
  .rintro k x σ' H' hk ⟨u,v,rfl,S1,h1⟩ hl'
   have lk:k < rs.length:=by rw [<- ra.len]; exact (ao.mp hk).1
   have e:rs[k]? = some rs[k]:=aj lk
   have hm:=aR lk
   obtain ⟨t,dv,a,b⟩:=ra.at_ k _ e
   rw [hk] at a
   cases a
   have hw:=wd _ hm
   have no:rs[k] ∉ rs.take k:=by exact Ay nd e
   generalize rs[k] = n at *
   walk_at "rd"
   have l9:=hw.hi
   refine ⟨_,S1 _ _ b,_,cV,.inl ⟨n,rfl,aK l9 (by decide),?_⟩⟩
   rw [if_neg (by rw [hw.word]; decide)]
   refine ⟨_,qm.k (k:=.inr n) h1,?_⟩
   rw [Om no,if_neg (by decide)]
   have hlen:(wG (rs.take k)).length < sizeLine:=by
    have h9:21 < sizeLine:=by decide
    rw [yZ,aY]
    omega
   refine ⟨d,_,rfl,h1,_,Kg.k (k:=.inr n) h1 hlen,(bF ld).trans hl',_,_,rfl,fun b' o' e'=>(bF (bA e' hd)).trans (S1 _ _ e'),?_⟩
   rw [bB,yZ,RG no,cD e]
  .rintro σ' H' ⟨u,v,rfl,S1,h1⟩ _
   rw [ra.len,aN] at h1
   walk_at "rd"
   exact q d H' S1 hd h1
structure NWs (ns:List Str) (H:Hp) (zs:List V) (ws:List (Str × Addr)):Prop where
 len:zs.length = ws.length
 at_:∀ (k:Nat) (g:Str × Addr),ws[k]? = some g->∃ t i,zs[k]? = some (.ref t)/\ns[i]? = some g.1/\H t = some (.tup [.int (i:Nat),.ref g.2])
theorem NWs.imp {ns:List Str} {H H':Hp} {zs:List V} {ws:List (Str × Addr)} (h':∀ t ys,H t = some (.tup ys)->H' t = some (.tup ys)) (h:NWs ns H zs ws):NWs ns H' zs ws:=⟨h.len,fun k g e=>let ⟨t,i,a,b,c⟩:=h.at_ k g e; ⟨t,i,a,b,h' _ _ c⟩⟩
theorem NWs.snoc {ns:List Str} {H:Hp} {zs:List V} {ws:List (Str × Addr)} {t:Addr} {i:Nat} {g:Str × Addr} (h:NWs ns H zs ws) (hi:ns[i]? = some g.1) (ht:H t = some (.tup [.int (i:Nat),.ref g.2])):NWs ns H (zs ++ [.ref t]) (ws ++ [g]):=by
 refine ⟨by rw [au,au,h.len]; rfl,fun k g' e=>?_⟩
 by_cases hk:k < ws.length
 .rw [aC hk] at e
  obtain ⟨t',i',a,b,c⟩:=h.at_ k g' e
  exact ⟨t',i',by rw [aC (by rw [h.len]; exact hk)]; exact a,b,c⟩
 .rw [aB (by omega)] at e
  have e0:k - ws.length = 0:=by
   have:=(ao.mp e).1
   simp at this; omega
  rw [e0] at e
  cases e
  refine ⟨t,i,?_,hi,ht⟩
  rw [aB (by rw [h.len]; omega),h.len,e0]; rfl
noncomputable def iz (D:Adr):Sp:=fun vs H Q _=>∃ (s n C dx p l:Addr) (nm:Str) (xs:List V) (ws:List (Str × Addr)) (ns:List Str),vs = [.ref s,.ref n]/\dR D C/\H s = some (.ins C dx [("name",.str nm),("pay",.ref p),("leads",.ref l)])/\H l = some (.lst xs)/\PJ H xs ws/\ws.length <= 100/\H n = some (.dK (wG ns))/\ns.Nodup/\(∀ g ∈ ws,g.1 ∈ ns) /\
 ∀ r H' zs,Same H H'->H r = none->H' r = some (.lst zs)->NWs ns H' zs ws->Q (.ref r) H'
noncomputable def nwJ (s n r:Addr) (ns:List Str) (ws:List (Str × Addr)) (H:Hp) (k:Nat) (σ:L2.St) (H':Hp):Prop:=∃ u v zs,σ = [some (.ref s),some (.ref n),some (.ref r),u,v]/\Same H H'/\H' r = some (.lst zs)/\NWs ns H' zs (ws.take k)
theorem xu (F:Fun K eY eY lu f fd) (T:Txt K mg D) (rR:OkI P w K mg base CX0 1 D.Door_ways jq (lH D)):cj P w K mg base CX0 2 f fd fG (iz D):=by
 refine F.ok iy (fun vs H Q E h=>?_) (fun cdv A outer s H vs Q E hr h=>?_)
 .obtain ⟨d,n,C,dx,p,l,nm,xs,ws,ns,rfl,_⟩:=h
  rfl
 .obtain ⟨d,n,C,dx,p,l,nm,xs,ws,ns,rfl,hC,hs,hl,hw,n100,hn,nd,hin,q⟩:=h
  refine ⟨_,(bG (bQ (i:=2) iy.nd rfl (Or.inl rfl) (iH bD))
   (bG (jU PassesOwn.never rfl (cX ((PE.any fun C (hC:dR D C)=>(Dg (pv 0) (T.cl C hC.fam) (T.Gp C hC) rR (hr.mono (by decide))))).mono) (fX (n:=2) rfl (cu (cF (i:=3) iy.nd rfl (Or.inl rfl)) (cu (cF (i:=4) iy.nd rfl (Or.inl rfl)) fK)))
    (bG (cW (Lp (Ow (sZ hr) (pv 3) (pv 1)))
     (bI n_)
     cB)
    (bI (cY (wB (pv 2) (bw (c7 (bw (Fe (sZ hr) (pv 1) (pv 3) (fun _ _=>rfl)) (bw (pv 4) bD))) bD))))))
   (bI (bU (pv 2))))),?_⟩
  unfold lH
  walk_at "rd"
  refine ⟨by decide,fun r hrn=>gK ?_⟩
  walk_at "rd"
  have sr:∀ {b o},H b = some o->(upd H r (.lst [])) b = some o:=fun {b o} e=>(bF (bA e hrn)).trans e
  refine ⟨C,hC,dx,_,sr hs,rfl,nm,p,l,⟨C,dx,hC.fam,sr hs⟩,xs,sr hl,by rw [hw.len]; exact n100,fun r2 hr2=>⟨nwJ d n r ns ws H,?_,?_,?_⟩⟩
  .have rr:r ≠ r2:=bA bB hr2
   refine ⟨none,none,[],rfl,fun b o e=>(bF (bA (sr e) hr2)).trans (sr e),(bF rr).trans bB,rfl,fun k g e=>by simp at e⟩
  .rintro k x σ' H' hk ⟨u,v,zs,rfl,S1,h1,nw⟩ hx
   have lk:k < ws.length:=by rw [<- hw.len]; exact (ao.mp hk).1
   have e:ws[k]? = some ws[k]:=aj lk
   have hm:=hin _ (aR lk)
   obtain ⟨t,a,b⟩:=hw.at_ k _ e
   rw [hk] at a
   cases a
   generalize ws[k] = g at *
   obtain ⟨m,c⟩:=g
   obtain ⟨i,hi⟩:=aU hm
   walk_at "rd"
   have rr:r ≠ r2:=bA bB hr2
   have vl:mV (wG ns) (.inr m) = some (.int ((0 + i:Nat):Int)):=I9 nd hi
   have dg:qm H' n (kV (.inr m)) (some (.int ((0 + i:Nat):Int))):=vl ▸ qm.k (k:=.inr m) (S1 _ _ hn)
   refine ⟨_,S1 _ _ b,rfl,_,_,rfl,_,_,rfl,rfl,_,dg,?_⟩
   rw [if_neg (by simp)]
   refine ⟨⟨_,h1⟩,_,dg,dG,fun p hp=>?_⟩
   have rp:r ≠ p:=bA h1 hp
   have zl:zs.length < sizeLine:=by
    have h9:101 < sizeLine:=by decide
    rw [nw.len,aY]
    omega
   refine ⟨zs,(bF rp).trans h1,zl,(bF rr.symm).trans ((bF (bA hx hp)).trans hx),_,_,_,rfl,fun b' o' e'=>(bF (bA e' hrn)).trans ((bF (bA (S1 _ _ e') hp)).trans (S1 _ _ e')),bB,?_⟩
   rw [cD e]
   refine (nw.imp fun t ys e'=>?_).snoc hi ?_
   .rw [bF (eV e' h1 (by intro z; cases z)),bF (bA e' hp)]; exact e'
   .rw [bF rp.symm,bB,Nat.zero_add]
  .rintro σ' H' ⟨u,v,zs,rfl,S1,h1,nw⟩ hx
   rw [hw.len,aN] at nw
   walk_at "rd"
   exact q r H' zs S1 hrn h1 nw
noncomputable def del (as:List Addr) (H:Hp):Hp:=fun b=>if b ∈ as then none else H b
theorem eZ {as:List Addr} {H:Hp} {b:Addr} {o:HO} (h:b ∉ as) (e:H b = some o):del as H b = some o:=by unfold del; rw [if_neg h]; exact e
theorem mK {as:List Addr} {H:Hp} {b:Addr} {o:HO} (e:del as H b = some o):b ∉ as/\H b = some o:=by
 unfold del at e
 split at e
 .cases e
 .exact ⟨by assumption,e⟩
theorem mL {as:List Addr} {H:Hp} : Same (del as H) H:=fun b o e=>(mK e).2
theorem qp {as:List Addr} {H H':Hp} (h:∀ b o,b ∉ as->H b = some o->H' b = some o):Same (del as H) (del as H'):=fun b o e=>let ⟨a,c⟩:=mK e; eZ a (h b o a c)
structure Dr where
 nm:Str
 p:Addr
 ws:List (Str × Addr)
noncomputable def U8 (D:Adr) (H:Hp) (s:Addr) (g:Dr):Prop:=∃ C dx l xs,dR D C/\H s = some (.ins C dx [("name",.str g.nm),("pay",.ref g.p),("leads",.ref l)])/\H l = some (.lst xs)/\PJ H xs g.ws/\g.ws.length <= 100
theorem U8.same {H H':Hp} {s:Addr} {g:Dr} (S:Same H H') (h:U8 D H s g):U8 D H' s g:=let ⟨C,dx,l,xs,a,b,c,d,e⟩:=h; ⟨C,dx,l,xs,a,S _ _ b,S _ _ c,d.same S,e⟩
structure tu (D:Adr) (H:Hp) (xs:List V) (gs:List Dr):Prop where
 len:xs.length = gs.length
 at_:∀ (k:Nat) (g:Dr),gs[k]? = some g->∃ s,xs[k]? = some (.ref s)/\U8 D H s g
theorem tu.same {H H':Hp} {xs:List V} {gs:List Dr} (S:Same H H') (h:tu D H xs gs):tu D H' xs gs:=⟨h.len,fun k g e=>let ⟨s,a,b⟩:=h.at_ k g e; ⟨s,a,b.same S⟩⟩
structure mY (ns:List Str) (H:Hp) (zs:List V) (gs:List Dr):Prop where
 len:zs.length = gs.length
 at_:∀ (k:Nat) (g:Dr),gs[k]? = some g->∃ t r ys,zs[k]? = some (.ref t)/\H t = some (.tup [.str g.nm,.ref g.p,.ref r])/\H r = some (.lst ys)/\NWs ns H ys g.ws
theorem mY.same {ns:List Str} {H H':Hp} {zs:List V} {gs:List Dr} (S:Same H H') (h:mY ns H zs gs):mY ns H' zs gs:=⟨h.len,fun k g e=>let ⟨t,r,ys,a,b,c,d⟩:=h.at_ k g e; ⟨t,r,ys,a,S _ _ b,S _ _ c,d.imp fun _ _ z=>S _ _ z⟩⟩
theorem mY.snoc {ns:List Str} {H:Hp} {zs ys:List V} {gs:List Dr} {t r:Addr} {g:Dr} (h:mY ns H zs gs) (ht:H t = some (.tup [.str g.nm,.ref g.p,.ref r])) (hr:H r = some (.lst ys)) (hn:NWs ns H ys g.ws):mY ns H (zs ++ [.ref t]) (gs ++ [g]):=by
 refine ⟨by rw [au,au,h.len]; rfl,fun k g' e=>?_⟩
 by_cases hk:k < gs.length
 .rw [aC hk] at e
  obtain ⟨t',r',ys',a,b⟩:=h.at_ k g' e
  exact ⟨t',r',ys',by rw [aC (by rw [h.len]; exact hk)]; exact a,b⟩
 .rw [aB (by omega)] at e
  have e0:k - gs.length = 0:=by
   have:=(ao.mp e).1
   simp at this; omega
  rw [e0] at e
  cases e
  refine ⟨t,r,ys,?_,ht,hr,hn⟩
  rw [aB (by rw [h.len]; omega),h.len,e0]; rfl
noncomputable def Ag (ns:List Str):List (Key × V):=ns.map fun n=>(.inr n,.bl true)
theorem W9 {n:Str} {ns:List Str} (h:n ∉ ns):mV (Ag ns) (.inr n) = none:=by
 unfold mV
 rw [List.find?_eq_none.mpr]
 .rfl
 .intro kv hk z
  unfold Ag at hk
  obtain ⟨m,hm,rfl⟩:=List.mem_map.mp hk
  have z:(Sum.inr m:Key) = .inr n:=of_decide_eq_true z
  injection z with z
  exact h (z ▸ hm)
theorem TF {n:Str} {ns:List Str} (h:n ∉ ns):putK (Ag ns) (.inr n) (.bl true) = Ag (ns ++ [n]):=by
 have a:((Ag ns).any fun kv=>decide (kv.1 = .inr n)) = false:=by
  rw [List.any_eq_false]
  intro kv hk z
  unfold Ag at hk
  obtain ⟨m,hm,rfl⟩:=List.mem_map.mp hk
  have z:(Sum.inr m:Key) = .inr n:=of_decide_eq_true z
  injection z with z
  exact h (z ▸ hm)
 unfold putK
 rw [a,if_neg (by decide)]
 unfold Ag
 rw [bf]; rfl
noncomputable def Nz (H:Hp) (as:List Addr):Prop:=∀ a ∈ as,∃ u,H a = some u/\∀ ys,u ≠ .tup ys
noncomputable def lR (D:Adr):Sp:=fun vs H Q _=>∃ (l n:Addr) (xs:List V) (gs:List Dr) (ns:List Str),vs = [.ref l,.ref n]/\H l = some (.lst xs)/\tu D H xs gs/\gs.length <= 100/\(gs.map (·.nm)).Nodup/\H n = some (.dK (wG ns))/\ns.Nodup/\(∀ g ∈ gs,∀ z ∈ g.ws,z.1 ∈ ns) /\
 ∀ r H' zs,Same H H'->H r = none->H' r = some (.lst zs)->(∀ as,Nz H as->mY ns (del as H') zs gs)->Q (.ref r) H'
noncomputable def oJ (l n d r:Addr) (ns:List Str) (gs:List Dr) (H:Hp) (k:Nat) (σ:L2.St) (H':Hp):Prop:=∃ u zs,σ = [some (.ref l),some (.ref n),some (.ref d),some (.ref r),u]/\Same H H'/\H' d = some (.dK (Ag ((gs.take k).map (·.nm))))/\H' r = some (.lst zs)/\∀ as,Nz H as->mY ns (del (d :: r :: as) H') zs (gs.take k)
theorem Eu (F:Fun K jw jw qj f fd) (T:Txt K mg D) (lB:OkF P w K mg base 2 eY fG (iz D)):cj P w K mg base CX0 3 f fd jB (lR D):=by
 refine F.ok lW (fun vs H Q E h=>?_) (fun cdv A outer s H vs Q E hr h=>?_)
 .obtain ⟨l,n,xs,gs,ns,rfl,_⟩:=h
  rfl
 .obtain ⟨l,n,xs,gs,ns,rfl,hl,dr,n100,ndg,hn,nd,hin,q⟩:=h
  refine ⟨_,(bG (bQ (i:=2) lW.nd rfl (Or.inl rfl) zq)
   (bG (bQ (i:=3) lW.nd rfl (Or.inl rfl) (iH bD))
   (bG (jU PassesOwn.never rfl (cX ((pv 0)).mono) (cF (i:=4) lW.nd rfl (Or.inl rfl))
    (bG (cW (Lp (Tn (sZ hr) (pJ (pv 4) rfl) (pv 2)))
     (bI n_)
     cB)
    (bG (E_ (sZ hr) (pv 2) (pJ (pv 4) rfl) lG rfl)
    (bI (cY (wB (pv 3) (bw (c7 (bw (pJ (pv 4) rfl) (bw (pJ (pv 4) rfl) (bw (bK lB (hr.mono (by decide)) (by rfl) (bw (pv 4) (bw (pv 1) bD))) bD)))) bD)))))))
   (bI (bU (pv 3)))))),?_⟩
  unfold iz
  walk_at "rd"
  refine fun d hd=>⟨by decide,fun r hrn=>gK ?_⟩
  walk_at "rd"
  have dr0:d ≠ r:=bA bB hrn
  have hrn':H r = none:=(bF dr0.symm).symm.trans hrn
  have st:Same H (upd (upd H d (.dK [])) r (.lst [])):=fun b o e=>(bF (bA e hrn')).trans ((bF (bA e hd)).trans e)
  refine ⟨xs,st _ _ hl,oJ l n d r ns gs H,⟨none,[],rfl,st,(bF dr0).trans bB,bB,fun as _=>⟨rfl,fun k g e=>by simp at e⟩⟩,?_,?_⟩
  .rintro k x σ' H' hk ⟨u,zs,rfl,S1,h1,h2,of_⟩ hx
   have lk:k < gs.length:=by rw [<- dr.len]; exact (ao.mp hk).1
   have e:gs[k]? = some gs[k]:=aj lk
   have hm:=hin _ (aR lk)
   obtain ⟨t,a,b⟩:=dr.at_ k _ e
   rw [hk] at a
   cases a
   have no:gs[k].nm ∉ (gs.take k).map (·.nm):=by
    rw [List.map_take]
    exact Ay ndg (by rw [aq,e]; rfl)
   generalize gs[k] = g at *
   obtain ⟨C,dx,ll,ys,hC,hs,hll,hw,w100⟩:=b.same S1
   walk_at "rd"
   refine ⟨C,dx,_,hs,T.cl C hC.fam,T.yP C hC.fam,_,rfl,_,qm.k (k:=.inr g.nm) h1,?_⟩
   rw [W9 no,if_neg (by decide)]
   have hlen:(Ag ((gs.take k).map (·.nm))).length < sizeLine:=by
    have h9:101 < sizeLine:=by decide
    unfold Ag
    rw [ak,ak,aY]
    omega
   have up:∀ {b o},b ≠ d->H' b = some o->upd H' d (.dK (putK (Ag ((gs.take k).map (·.nm))) (.inr g.nm) (.bl true))) b = some o:=fun {b o} h e=>(bF h).trans e
   have td:t ≠ d:=eV hs h1 (by intro z; cases z)
   have ld:ll ≠ d:=eV hll h1 (by intro z; cases z)
   have nd_:n ≠ d:=bA hn hd
   refine ⟨C,dx,_,hs,T.cl C hC.fam,T.yP C hC.fam,_,rfl,_,Kg.k (k:=.inr g.nm) h1 hlen,⟨zs,up dr0.symm h2⟩,C,dx,_,up td hs,T.cl C hC.fam,T.yP C hC.fam,_,rfl,C,dx,_,up td hs,T.cl C hC.fam,T.Uw C hC.fam,_,rfl,C,hC,dx,g.p,ll,⟨g.nm,up td hs⟩,ys,up ld hll,g.ws,⟨hw.len,fun k g e=>let ⟨t,a,b⟩:=hw.at_ k g e; ⟨t,a,up (eV b h1 (by intro z; cases z)) b⟩⟩,w100,ns,up nd_ (S1 _ _ hn),nd,hm,?_⟩
   intro r3 H3 z3 S3 f3 e3 w3
   refine ⟨by decide,fun p hp=>?_⟩
   have lr:l ≠ r:=bA hl hrn'
   have ld0:l ≠ d:=bA hl hd
   have a1:=S3 _ _ (up dr0.symm h2)
   have a2:=S3 d _ bB
   have rp:r ≠ p:=bA a1 hp
   have dp:d ≠ p:=bA a2 hp
   have a3:=S3 _ _ (up ld0 hx)
   have zl:zs.length < sizeLine:=by
    have h9:101 < sizeLine:=by decide
    rw [(of_ [] (by intro a ha; cases ha)).len,aY]
    omega
   have r3p:r3 ≠ p:=bA e3 hp
   refine ⟨zs,(bF rp).trans a1,zl,(bF lr).trans ((bF (bA a3 hp)).trans a3),_,_,rfl,fun b o e'=>?_,?_,bB,?_⟩
   .have c:=S3 _ _ (up (bA e' hd) (S1 _ _ e'))
    rw [bF (bA e' hrn'),bF (bA c hp)]
    exact c
   .rw [bF dr0,bF dp,a2,TF no,cD e,bf]; rfl
   .intro as has
    have r3n:r3 ∉ d :: r :: as:=by
     simp only [List.mem_cons,not_or]
     refine ⟨fun z=>(by rw [z,bB] at f3; cases f3),fun z=>(by rw [z,up dr0.symm h2] at f3; cases f3),fun z=>?_⟩
     obtain ⟨u,hu,_⟩:=has _ z
     rw [up (bA hu hd) (S1 _ _ hu)] at f3
     cases f3
    have asp:∀ a ∈ as,∃ u,H3 a = some u/\∀ ys,u ≠ .tup ys:=fun a ha=>let ⟨u,hu,n⟩:=has a ha; ⟨u,S3 _ _ (up (bA hu hd) (S1 _ _ hu)),n⟩
    have pn:p ∉ d :: r :: as:=by
     simp only [List.mem_cons,not_or]
     exact ⟨dp.symm,rp.symm,fun z=>let ⟨u,hu,_⟩:=asp _ z; bA hu hp rfl⟩
    have u2:∀ {b o},b ∉ d :: r :: as->(upd H3 p (.tup [.str g.nm,.ref g.p,.ref r3])) b = some o->del (d :: r :: as) (upd (upd H3 p (.tup [.str g.nm,.ref g.p,.ref r3])) r (.lst (zs ++ [.ref p]))) b = some o:=fun {b o} h e=>eZ h ((bF (by simp only [List.mem_cons,not_or] at h; exact h.2.1)).trans e)
    rw [cD e]
    refine ((of_ as has).same fun b o e'=>?_).snoc (u2 pn bB) (u2 r3n ((bF r3p).trans e3)) (w3.imp fun t ys e'=>?_)
    .obtain ⟨b1,b2⟩:=mK e'
     have c:=S3 _ _ (up (by simp only [List.mem_cons,not_or] at b1; exact b1.1) b2)
     exact u2 b1 ((bF (bA c hp)).trans c)
    .refine u2 ?_ ((bF (bA e' hp)).trans e')
     simp only [List.mem_cons,not_or]
     exact ⟨eV e' a2 (by intro z; cases z),eV e' a1 (by intro z; cases z),fun z=>let ⟨u,hu,n⟩:=asp _ z; n _ (Option.some.inj (hu.symm.trans e'))⟩
  .rintro σ' H' ⟨u,zs,rfl,S1,h1,h2,of_⟩ hx
   rw [dr.len,aN] at of_
   walk_at "rd"
   exact q r H' zs S1 hrn' h2 fun as has=>(of_ as has).same fun b o e=>let ⟨a,c⟩:=mK e; eZ (fun z=>a (aG _ (aG _ z))) c
structure j5 (D:Adr) (H:Hp) (xs:List V) (rms:List (Str × List Dr)):Prop where
 len:xs.length = rms.length
 at_:∀ (k:Nat) (g:Str × List Dr),rms[k]? = some g->∃ t l ys,xs[k]? = some (.ref t)/\H t = some (.tup [.str g.1,.ref l])/\H l = some (.lst ys)/\tu D H ys g.2
theorem j5.rooms {H:Hp} {xs:List V} {rms:List (Str × List Dr)} (h:j5 D H xs rms):Nu H xs (rms.map (·.1)):=⟨by rw [h.len,ak],fun k n e=>by
 rw [aq] at e
 cases e0:rms[k]? with
 | none=>rw [e0] at e; cases e
 | some g =>
  rw [e0] at e
  cases e
  obtain ⟨t,l,ys,a,b,_⟩:=h.at_ k g e0
  exact ⟨t,_,a,b⟩⟩
theorem j5.same {H H':Hp} {xs:List V} {rms:List (Str × List Dr)} (S:Same H H') (h:j5 D H xs rms):j5 D H' xs rms:=⟨h.len,fun k g e=>let ⟨t,l,ys,a,b,c,d⟩:=h.at_ k g e; ⟨t,l,ys,a,S _ _ b,S _ _ c,d.same S⟩⟩
structure qP (ns:List Str) (H:Hp) (zs:List V) (gss:List (List Dr)):Prop where
 len:zs.length = gss.length
 at_:∀ (k:Nat) (gs:List Dr),gss[k]? = some gs->∃ l ys,zs[k]? = some (.ref l)/\H l = some (.lst ys)/\mY ns H ys gs
theorem qP.same {ns:List Str} {H H':Hp} {zs:List V} {gss:List (List Dr)} (S:Same H H') (h:qP ns H zs gss):qP ns H' zs gss:=⟨h.len,fun k g e=>let ⟨l,ys,a,b,c⟩:=h.at_ k g e; ⟨l,ys,a,S _ _ b,c.same S⟩⟩
theorem qP.snoc {ns:List Str} {H:Hp} {zs ys:List V} {gss:List (List Dr)} {l:Addr} {gs:List Dr} (h:qP ns H zs gss) (hl:H l = some (.lst ys)) (ho:mY ns H ys gs):qP ns H (zs ++ [.ref l]) (gss ++ [gs]):=by
 refine ⟨by rw [au,au,h.len]; rfl,fun k g' e=>?_⟩
 by_cases hk:k < gss.length
 .rw [aC hk] at e
  obtain ⟨l',ys',a,b⟩:=h.at_ k g' e
  exact ⟨l',ys',by rw [aC (by rw [h.len]; exact hk)]; exact a,b⟩
 .rw [aB (by omega)] at e
  have e0:k - gss.length = 0:=by
   have:=(ao.mp e).1
   simp at this; omega
  rw [e0] at e
  cases e
  refine ⟨l,ys,?_,hl,ho⟩
  rw [aB (by rw [h.len]; omega),h.len,e0]; rfl
theorem wK {H:Hp} {o b C0 dx0:Addr} {u:HO} (ho:H o = some (.ins C0 dx0 [])) (e:H b = some u) (n:u ≠ .ins C0 dx0 []):del [o] H b = some u:=eZ (by simp only [List.mem_singleton]; exact eV e ho n) e
theorem j5.off {H:Hp} {o C0 dx0:Addr} {xs:List V} {rms:List (Str × List Dr)} (ho:H o = some (.ins C0 dx0 [])) (h:j5 D H xs rms):j5 D (del [o] H) xs rms:=⟨h.len,fun k g e=>by
 obtain ⟨t,l,ys,a,b,c,d⟩:=h.at_ k g e
 refine ⟨t,l,ys,a,wK ho b (by intro z; cases z),wK ho c (by intro z; cases z),d.len,fun k g e=>?_⟩
 obtain ⟨s,a,C,dx,l,xs,h1,h2,h3,h4,h5⟩:=d.at_ k g e
 exact ⟨s,a,C,dx,l,xs,h1,wK ho h2 (by intro z; injection z with _ _ z; cases z),wK ho h3 (by intro z; cases z),⟨h4.len,fun k g e=>let ⟨t,a,b⟩:=h4.at_ k g e; ⟨t,a,wK ho b (by intro z; cases z)⟩⟩,h5⟩⟩
structure Oj (rms:List (Str × List Dr)):Prop where
 len:rms.length <= 20
 nd:(rms.map (·.1)).Nodup
 wd:∀ g ∈ rms,Wd g.1
 few:∀ g ∈ rms,g.2.length <= 100
 dn:∀ g ∈ rms,(g.2.map (·.nm)).Nodup
 to_:∀ g ∈ rms,∀ d ∈ g.2,∀ z ∈ d.ws,z.1 ∈ rms.map (·.1)
noncomputable def jX (D:Adr) (H:Hp) (a p:Addr) (rms:List (Str × List Dr)):Prop:=∃ dx n l zs,H a = some (.ins D.Hall dx [("share",.ref p),("numbers",.ref n),("offered",.ref l)])/\H n = some (.dK (wG (rms.map (·.1))))/\H l = some (.lst zs)/\qP (rms.map (·.1)) H zs (rms.map (·.2))
theorem jX.same {H H':Hp} {a p:Addr} {rms:List (Str × List Dr)} (S:Same H H') (h:jX D H a p rms):jX D H' a p rms:=let ⟨dx,n,l,zs,b,c,d,e⟩:=h; ⟨dx,n,l,zs,S _ _ b,S _ _ c,S _ _ d,e.same S⟩
noncomputable def lX (K:Frag) (D:Adr):Sp:=fun vs H Q _=>∃ (o dx p l:Addr) (x y:Int) (xs:List V) (rms:List (Str × List Dr)),vs = [.ref o,.ref p,.ref l]/\H o = some (.ins D.Hall dx [])/\Fk K H p x y/\0 <= x/\x < y/\Bd x/\Bd y/\H l = some (.lst xs)/\j5 D H xs rms/\Oj rms /\
 ∀ H',Keep o H H'->jX D H' o p rms->Q .non H'
noncomputable def hJ (o D1:Addr) (rms:List (Str × List Dr)) (H:Hp) (k:Nat) (zs:List V) (H':Hp):Prop:=Same H H'/\H' D1 = some (.lst zs)/\qP (rms.map (·.1)) (del [o,D1] H') zs ((rms.take k).map (·.2))
theorem FN (F:Fun K vY uG m9 f fd) (T:Txt K mg D) (nR:OkF P w K mg base 3 gw gR (jx (K:=K))) (o8:OkF P w K mg base 2 iI iM kJ) (rB:OkF P w K mg base 3 jw jB (lR D)):cj P w K mg base CX0 4 f fd jG (lX K D):=by
 refine F.ok G7 (fun vs H Q E h=>?_) (fun cdv A outer s H vs Q E hr h=>?_)
 .obtain ⟨o,dx,p,l,x,y,xs,rms,rfl,_⟩:=h
  rfl
 .obtain ⟨o,dx,p,l,x,y,xs,rms,rfl,ho,fk,x0,xy,bx,b_y,hl,hR,ok,q⟩:=h
  refine ⟨_,(bG (cY (bK nR (hr.mono (by decide)) (by rfl) (bw (pv 1) bD)))
   (bG (qN (pv 0) (pv 1) rfl)
   (bG (qN (pv 0) (bK o8 (hr.mono (by decide)) (by rfl) (bw (pv 2) bD)) rfl)
   (bI (qN (pv 0) (jl (bH m9) qJ qJ ["room"] (cX ((pv 2)).mono) (dU (i:=0)) cU (bK rB (hr.mono (by decide)) (by rfl) (bw (bM bV (pv 0) bC (fun _ _=>rfl)) (bw (Xd (K':=K) rfl (pv 1) rfl) bD)))) rfl))))),?_⟩
  unfold jx kJ lR
  walk_at "rd"
  have hR0:=hR.off ho
  have hl0:del [o] H l = some (.lst xs):=wK ho hl (by intro z; cases z)
  have S1:∀ u,Same (del [o] H) (upd H o u):=fun u b v e=>by
   obtain ⟨b1,b2⟩:=mK e
   exact (bF (by simpa using b1)).trans b2
  have cl:=T.qw
  refine ⟨x,y,fk,x0,xy,bx,b_y,D.Hall,dx,[],ho,cl,T.tK,(by show 0 < 1000; decide),xs,S1 _ _ _ hl0,_,(hR0.same (S1 _)).rooms,ok.nd,fun g hg=>?_,by rw [ak]; exact ok.len,fun d H2 S2 f2 e2=>?_⟩
  .obtain ⟨g',hg',rfl⟩:=List.mem_map.mp hg
   exact ok.wd g' hg'
  have od:d ≠ o:=fun z=>by rw [z,bB] at f2; cases f2
  refine ⟨D.Hall,dx,_,S2 _ _ bB,cl,T.lg,(by show 1 < 1000; decide),dB ?_⟩
  have S3:∀ u,Same (del [o] H) (upd H2 o u):=fun u b v e=>(bF (by have:=(mK e).1; simpa using this)).trans (S2 _ _ (S1 _ _ _ e))
  walk_at "rd"
  have hz9:21 < sizeLine:=by decide
  have n20:=ok.len
  refine ⟨xs,S3 _ _ _ hl0,by rw [hR.len]; omega,fun D1 hD1=>?_⟩
  have eo:upd H2 o (.ins D.Hall dx (jm "numbers" (.ref d) (jm "share" (.ref p) []))) o = some (.ins D.Hall dx [("share",.ref p),("numbers",.ref d)]):=bB
  have ed:upd H2 o (.ins D.Hall dx (jm "numbers" (.ref d) (jm "share" (.ref p) []))) d = some (.dK (wG (rms.map (·.1)))):=(bF od).trans e2
  have S4:=S3 (.ins D.Hall dx (jm "numbers" (.ref d) (jm "share" (.ref p) [])))
  generalize upd H2 o (.ins D.Hall dx (jm "numbers" (.ref d) (jm "share" (.ref p) []))) = H3 at eo ed S4 hD1 ⊢
  have oD:o ≠ D1:=bA eo hD1
  refine ⟨hJ o D1 rms H3,⟨Same.upd hD1,bB,rfl,fun k g e=>by simp at e⟩,?_,?_⟩
  .rintro k x1 ys Hc hk ⟨S5,h5,of_⟩ hy hlc
   have lk:k < rms.length:=by rw [<- hR.len]; exact (ao.mp hk).1
   have e:rms[k]? = some rms[k]:=aj lk
   have hm:=aR lk
   obtain ⟨t,ll,ds,a,b,c,dd⟩:=(hR0.same (S4.trans S5)).at_ k _ e
   rw [hk] at a
   cases a
   generalize rms[k] = g at *
   refine ⟨t,rfl,_,b,_,cG,D.Hall,dx,_,S5 _ _ eo,cl,T.lg,_,rfl,ll,rfl,d,rfl,ds,c,g.2,dd,ok.few g hm,ok.dn g hm,_,S5 _ _ ed,ok.nd,ok.to_ g hm,?_⟩
   intro r H4 zs S6 f6 e6 o6
   have h4:=S6 _ _ h5
   have ho4:=S6 _ _ (S5 _ _ eo)
   refine ⟨h4,S6 _ _ hlc,fun b v e'=>?_,bB,?_⟩
   .exact (bF (bA e' hD1)).trans (S6 _ _ (S5 _ _ e'))
   .have ee:del [o,D1] (upd H4 D1 (.lst (ys ++ [.ref r]))) = del [o,D1] H4:=by
     funext b
     unfold del
     split
     .rfl
     .rename_i hb
      exact bF (by simp at hb; exact hb.2)
    rw [ee,cD e,bf]
    refine (of_.same (qp fun b v _ e'=>S6 _ _ e')).snoc (eZ ?_ e6) (o6 [o,D1] ?_)
    .simp only [List.mem_cons,List.not_mem_nil,or_false,not_or]
     exact ⟨fun z=>(by rw [z,S5 _ _ eo] at f6; cases f6),fun z=>(by rw [z,h5] at f6; cases f6)⟩
    .intro a ha
     simp only [List.mem_cons,List.not_mem_nil,or_false] at ha
     rcases ha with rfl | rfl
     .exact ⟨_,S5 _ _ eo,by intro ys z; cases z⟩
     .exact ⟨_,h5,by intro ys z; cases z⟩
  .rintro ys Hc ⟨S5,h5,of_⟩ hy
   rw [hR.len,aN] at of_
   refine ⟨D.Hall,dx,_,S5 _ _ eo,cl,T.pP,(by show 2 < 1000; decide),q _ (fun b v nb e=>?_) ⟨dx,d,D1,ys,bB,(bF (fun z=>od (by rw [z]))).trans (S5 _ _ ed),(bF oD.symm).trans h5,of_.same fun b v e=>?_⟩⟩
   .exact (bF nb).trans (S5 _ _ (S4 _ _ (eZ (by simpa using nb) e)))
   .obtain ⟨b1,b2⟩:=mK e
    exact (bF (by simp at b1; exact b1.1)).trans b2
noncomputable def lV (D:Adr):Sp:=fun vs H Q _=>∃ (o p:Addr) (rms:List (Str × List Dr)),vs = [.ref o]/\jX D H o p rms/\Q (.int rms.length) H
theorem Ge (F:Fun K vK vM qG f fd) (T:Txt K mg D):cj P w K mg base CX0 1 f fd ju (lV D):=by
 refine F.ok Ek (fun vs H Q E h=>?_) (fun cdv A outer s H vs Q E hr h=>?_)
 .obtain ⟨o,p,rms,rfl,_⟩:=h
  rfl
 .obtain ⟨o,p,rms,rfl,⟨dx,n,l,zs,ho,hn,hl,of_⟩,q⟩:=h
  refine ⟨_,(bI (bU (bR CQ (by rfl) T.m5 PySem.boot_len (bw (pJ (pv 0) rfl) bD)))),?_⟩
  walk_at "rd"
  refine ⟨D.Hall,dx,_,ho,T.qw,T.lg,_,rfl,n,_,rfl,hn,?_⟩
  rw [yZ,ak]
  exact q
noncomputable def rE (C:Addr):Sp:=fun vs H Q _=>∃ a v,vs = [.ref a,v]/\H a = some (XN a C none)/\∀ d,H d = none->d ≠ a->Q .non (upd (upd H a (XN a C (some d))) d (.xd [("room",v)]))
theorem Bb (F:Fun K qu rD nU f fd) (T:Txt K mg D):cj P w K mg base CX0 1 f fd gC (rE D.NoRoom):=by
 refine F.okB zY (fun vs H Q E h=>?_) (fun cdv A outer s H vs Q E hr h=>?_)
 .obtain ⟨a,v,rfl,_⟩:=h
  rfl
 .obtain ⟨a,v,rfl,ha,q⟩:=h
  refine ⟨_,(cg (PSB.mk (cY (Rb T.ib_HallError T.xi_NoRoom (by rfl) T.xO (bw (pv 0) (bw mC bD)))))
   (uU (PSB.mk (XS (pv 0) (pv 1) rfl)))),?_⟩
  exact ⟨_,rfl,a,[_],rfl,ha,by decide,_,rfl,_,rfl,a,D.NoRoom,rfl,ha,T.xs_NoRoom,T.mQ,q⟩
noncomputable def vl (f:Int × Int):Rat:=(f.1:Rat) / (f.2:Rat)
theorem eN {x:Int} (h:0 < x):(x:Rat) ≠ 0:=fun z=>by
 have:=Rat.intCast_inj.mp (z.trans Rat.intCast_zero.symm)
 omega
theorem YD {x y:Int × Int} (hx:0 < x.2) (hy:0 < y.2) (h:x.1 * y.2 = y.1 * x.2):vl x = vl y:=by
 have e:(x.1:Rat) * (y.2:Rat) = (y.1:Rat) * (x.2:Rat):=by rw [<- Rat.intCast_mul,<- Rat.intCast_mul,h]
 have:=eN hx
 have:=eN hy
 unfold vl
 grind
theorem U5 {x y:Int × Int} (hx:0 < x.2) (hy:0 < y.2) (h:vl x = vl y):x.1 * y.2 = y.1 * x.2:=by
 have h1:=eN hx
 have h2:=eN hy
 unfold vl at h
 refine Rat.intCast_inj.mp ?_
 rw [Rat.intCast_mul,Rat.intCast_mul]
 grind
theorem Low.vl {t b x y:Int} (h:Low t b x y) (hb:0 < b):vl (x,y) = vl (t,b):=YD h.pos hb h.eq
theorem Hs {x y u v:Int} (hy:0 < y) (hv:0 < v):vl (x * u,y * v) = vl (x,y) * vl (u,v):=by
 have:=eN hy
 have:=eN hv
 show ((x * u:Int):Rat) / ((y * v:Int):Rat) = (x:Rat) / (y:Rat) * ((u:Rat) / (v:Rat))
 rw [Rat.intCast_mul,Rat.intCast_mul]
 grind
theorem ZS {x y u v:Int} (hy:0 < y) (hu:0 < u) (hv:0 < v):vl (x * v,y * u) = vl (x,y) / vl (u,v):=by
 have:=eN hy
 have:=eN hv
 have:=eN hu
 show ((x * v:Int):Rat) / ((y * u:Int):Rat) = (x:Rat) / (y:Rat) / ((u:Rat) / (v:Rat))
 rw [Rat.intCast_mul,Rat.intCast_mul]
 grind
theorem Ks {x y u v:Int} (hy:0 < y) (hv:0 < v):vl (x * v + u * y,y * v) = vl (x,y) + vl (u,v):=by
 have:=eN hy
 have:=eN hv
 show ((x * v + u * y:Int):Rat) / ((y * v:Int):Rat) = (x:Rat) / (y:Rat) + (u:Rat) / (v:Rat)
 rw [Rat.intCast_add,Rat.intCast_mul,Rat.intCast_mul,Rat.intCast_mul]
 grind
theorem Rh (x:Int):vl (x,1) = (x:Rat):=by
 show (x:Rat) / ((1:Int):Rat) = x
 rw [Rat.intCast_one]
 grind
noncomputable def Bn (n:Nat) (x:Int):Prop:=x.natAbs <= 10 ^ n
theorem Bn.up {a b:Nat} {x:Int} (h:Bn a x) (l:a <= b):Bn b x:=aK h (Nat.pow_le_pow_right (by decide) l)
theorem Bn.mul {a b:Nat} {x y:Int} (h:Bn a x) (g:Bn b y):Bn (a + b) (x * y):=by
 unfold Bn
 rw [Int.natAbs_mul,Nat.pow_add]
 exact Nat.mul_le_mul h g
theorem Bn.add {a:Nat} {x y:Int} (h:Bn a x) (g:Bn a y):Bn (a + 1) (x + y):=by
 have h:x.natAbs <= 10 ^ a:=h
 have g:y.natAbs <= 10 ^ a:=g
 unfold Bn
 rw [Nat.pow_succ]
 omega
theorem Bn.bd {n:Nat} {x:Int} (h:Bn n x) (l:n <= 2400):Bd x:=Nat.lt_of_le_of_lt (h.up l) (by decide +kernel)
theorem Bn.lx {n:Nat} {t b x y:Int} (h:Bn n t) (l:Low t b x y):Bn n x:=aK l.lx h
theorem Bn.ly {n:Nat} {t b x y:Int} (h:Bn n b) (l:Low t b x y):Bn n y:=aK l.ly h
noncomputable def zM:Sp:=fun vs H Q _=>∃ (p q:Addr) (x y u v:Int),vs = [.ref p,.ref q]/\H p = some (.tup [.int x,.int y])/\H q = some (.tup [.int u,.int v])/\Bd x/\Bd y/\Bd u/\Bd v/\0 < y/\0 < v/\Bd (y * v) /\
 ∀ r z o H',Same H H'->H r = none->H' r = some (.tup [.int z,.int o])->Low (x * u) (y * v) z o->Q (.ref r) H'
theorem Tj (F:Fun K qM qM Gd f fd) (d8:OkF P w K mg base 2 iR iV gH):cj P w K mg base CX0 3 f fd qO zM:=by
 refine F.ok Tp (fun vs H Q E h=>?_) (fun cdv A outer s H vs Q E hr h=>?_)
 .obtain ⟨p,q,x,y,u,v,rfl,_⟩:=h
  rfl
 .obtain ⟨p,q,x,y,u,v,rfl,hp,hq,bx,b_y,bu,bv,y0,v0,byv,k⟩:=h
  refine ⟨_,(bI (bU (bK d8 (hr.mono (by decide)) (by rfl) (bw (bL cC (bM bV (pv 0) bC (fun _ _=>rfl)) (bM bV (pv 1) bC (fun _ _=>rfl))) (bw (bL cC (bM bV (pv 0) bC (fun _ _=>rfl)) (bM bV (pv 1) bC (fun _ _=>rfl))) bD))))),?_⟩
  exact jT ⟨_,rfl,p,_,0,_,rfl,rfl,hp,cV,_,rfl,q,_,0,_,rfl,rfl,hq,cV,x,u,rfl,rfl,⟨bx,bu⟩,_,rfl,p,_,1,_,rfl,rfl,hp,cG,_,rfl,q,_,1,_,rfl,rfl,hq,cG,y,v,rfl,rfl,⟨b_y,bv⟩,_,_,rfl,Int.ne_of_gt (Int.mul_pos y0 v0),byv,fun r z o l hr=>k r z o _ (Same.upd hr) hr bB l⟩
noncomputable def Et:Sp:=fun vs H Q _=>∃ (p q:Addr) (x y u v:Int),vs = [.ref p,.ref q]/\H p = some (.tup [.int x,.int y])/\H q = some (.tup [.int u,.int v])/\Bd x/\Bd y/\Bd u/\Bd v/\0 < y/\0 < u/\Bd (y * u) /\
 ∀ r z o H',Same H H'->H r = none->H' r = some (.tup [.int z,.int o])->Low (x * v) (y * u) z o->Q (.ref r) H'
theorem W_ (F:Fun K vP vP Lw f fd) (d8:OkF P w K mg base 2 iR iV gH):cj P w K mg base CX0 3 f fd vA Et:=by
 refine F.ok X7 (fun vs H Q E h=>?_) (fun cdv A outer s H vs Q E hr h=>?_)
 .obtain ⟨p,q,x,y,u,v,rfl,_⟩:=h
  rfl
 .obtain ⟨p,q,x,y,u,v,rfl,hp,hq,bx,b_y,bu,bv,y0,v0,byv,k⟩:=h
  refine ⟨_,(bI (bU (bK d8 (hr.mono (by decide)) (by rfl) (bw (bL cC (bM bV (pv 0) bC (fun _ _=>rfl)) (bM bV (pv 1) bC (fun _ _=>rfl))) (bw (bL cC (bM bV (pv 0) bC (fun _ _=>rfl)) (bM bV (pv 1) bC (fun _ _=>rfl))) bD))))),?_⟩
  exact jT ⟨_,rfl,p,_,0,_,rfl,rfl,hp,cV,_,rfl,q,_,1,_,rfl,rfl,hq,cG,x,v,rfl,rfl,⟨bx,bv⟩,_,rfl,p,_,1,_,rfl,rfl,hp,cG,_,rfl,q,_,0,_,rfl,rfl,hq,cV,y,u,rfl,rfl,⟨b_y,bu⟩,_,_,rfl,Int.ne_of_gt (Int.mul_pos y0 v0),byv,fun r z o l hr=>k r z o _ (Same.upd hr) hr bB l⟩
theorem Yx {sp:Sp} {te:TE} {t:TA} {σ:L2.St} {H:Hp} {Q:VK} (h:te σ H fun x H1=>t σ H1 fun xs H2=>sp (x :: xs) H2 Q E0):Ba sp (xM te t) σ H Q:=h
structure O_ (K:Frag) (H:Hp) (t:Addr) (f:Int × Int) (cs:List (Nat × Int × Int)):Prop where
 ex:∃ (nm:Str) (p r:Addr) (ys:List V),H t = some (.tup [.str nm,.ref p,.ref r])/\H p = some (.tup [.int f.1,.int f.2])/\H r = some (.lst ys)/\ys.length = cs.length/\∀ (k:Nat) c,cs[k]? = some c->∃ tt a,ys[k]? = some (.ref tt)/\H tt = some (.tup [.int (c.1:Nat),.ref a])/\SqT K H a [.int c.2.1,.int c.2.2]
theorem O_.same {H H':Hp} {t:Addr} {f:Int × Int} {cs:List (Nat × Int × Int)} (h:O_ K H t f cs) (S:Same H H'):O_ K H' t f cs:=by
 obtain ⟨nm,p,r,ys,a,b,c,d,e⟩:=h.ex
 refine ⟨nm,p,r,ys,S _ _ a,S _ _ b,S _ _ c,d,fun k z ez=>?_⟩
 obtain ⟨tt,a2,x1,x2,x3⟩:=e k z ez
 exact ⟨tt,a2,x1,S _ _ x2,S.tup x3⟩
noncomputable def chF (cs:List (Nat × Int × Int)):List (Int × Int):=cs.map (·.2)
noncomputable def Ib (cs:List (Nat × Int × Int)) (Ts:List Int):Int:=(List.zipWith (fun p c=>p * Ts.getD c.1 0) (lvT (chF cs)) cs).sum
noncomputable def wY (K:Frag):Sp:=fun vs H Q _=>∃ (t T:Addr) (f:Int × Int) (cs:List (Nat × Int × Int)) (Ts:List Int),vs = [.ref t,.ref T]/\O_ K H t f cs/\H T = some (.lst (Ts.map V.int))/\cs.length <= 41/\(∀ c ∈ cs,c.1 < Ts.length/\Fq c.2)/\(∀ x ∈ Ts,Bd x) /\
 ∀ r z o H',Same H H'->H r = none->H' r = some (.tup [.int z,.int o])->Low (Ib cs Ts) (lvB (chF cs):Nat) z o->Q (.ref r) H'
theorem Vh {α β γ:Type} {g:α->β->γ} {xs:List α} {ys:List β} {k:Nat} {x:α} {y:β} (h1:xs[k]? = some x) (h2:ys[k]? = some y):(List.zipWith g xs ys)[k]? = some (g x y):=by
 rw [List.getElem?_zipWith,h1,h2]
theorem QX {fs:List (Int × Int)} (h:∀ f ∈ fs,Fq f) (hz:fs.length <= 41):Bn 1640 (lvB fs:Nat):=by
 have:=TY h hz
 rw [<- Nat.pow_mul] at this
 unfold Bn
 rw [Int.natAbs_natCast]
 exact this
theorem ZV {fs:List (Int × Int)} (h:∀ f ∈ fs,Fq f) (hz:fs.length <= 41):∀ x ∈ lvT fs,Bn 1680 x:=fun x hx=>by
 obtain ⟨f,hf,rfl⟩:=List.mem_map.mp hx
 have b:Bn 1640 (((lvB fs:Nat):Int) / f.2):=aK (Int.natAbs_ediv_le_natAbs _ _) (QX h hz)
 exact Bn.mul (a:=40) (b:=1640) (h f hf).sa b
theorem yV (F:Fun K gQ gQ iU f fd) (T:Txt K mg D) (oO:OkF P w K mg base 2 k_ kY (oF K)) (d8:OkF P w K mg base 2 iR iV gH):cj P w K mg base CX0 3 f fd gF (wY K):=by
 refine F.ok qZ (fun vs H Q E h=>?_) (fun cdv A outer s H vs Q E hr h=>?_)
 .obtain ⟨t,T,f,cs,Ts,rfl,_⟩:=h
  rfl
 .obtain ⟨t,Ta,f,cs,Ts,rfl,of,hT,l41,hc,bT,q⟩:=h
  obtain ⟨nm,p,r,ys,ht,hp,hr',yl,ya⟩:=of.ex
  have z9:100 < sizeLine:=by decide
  have cl:(chF cs).length = cs.length:=ak ..
  have fq:∀ f ∈ chF cs,Fq f:=fun f hf=>by
   obtain ⟨c,hc',rfl⟩:=List.mem_map.mp hf
   exact (hc c hc').2
  refine ⟨_,(bG (bQ (i:=2) qZ.nd rfl (Or.inl rfl) (bK oO (hr.mono (by decide)) (by rfl) (bw (jl (bH iU) iT iT ["room", "chance"] (cX ((bM bV (pv 0) bC (fun _ _=>rfl))).mono) (fX (n:=2) rfl (cu (dU (i:=0)) (cu (dU (i:=1)) fK))) cU (pv 1)) bD)))
   (bI (bU (bK d8 (hr.mono (by decide)) (by rfl) (bw (bR (w5 rfl) (by rfl) T.Rq boot_sum (bw (jl (bH iU) iT iT ["part", "way"] (Gu (by rfl) T.Mi (bw (bM bV (pv 2) bC (fun _ _=>rfl)) (bw (bM bV (pv 0) bC (fun _ _=>rfl)) bD)).mono) (fX (n:=2) rfl (cu (dU (i:=0)) (cu (dU (i:=1)) fK))) cU (bL cC (pv 0) (bM bN (pv 3) (bM bV (pv 1) bC (fun _ _=>rfl)) (fun _ _=>rfl)))) bD)) (bw (bM bV (pv 2) bC (fun _ _=>rfl)) bD)))))),?_⟩
  refine cA fun R1 hR1=>?_
  refine cM (Yx (m7 ⟨_,rfl,t,_,2,_,rfl,rfl,ht,bY (j:=2) rfl,r,ys,rfl,hr',by omega,fun D1 gD=>⟨fun k zs Hc=>Same H Hc/\Hc D1 = some (.lst zs)/\FLK K H zs ((chF cs).take k),⟨Same.upd gD,bB,.nil⟩,?_,?_⟩⟩))
  .rintro k v zs Hc hk ⟨S1,h1,fl⟩ hz hc' pre hpre
   obtain ⟨w1,w2,rfl⟩:=qx hpre
   have lk:k < cs.length:=by rw [<- yl]; exact (ao.mp hk).1
   have ec:cs[k]? = some cs[k]:=aj lk
   obtain ⟨tt,a,e1,e2,e3⟩:=ya k _ ec
   rw [hk] at e1
   cases e1
   have en:(chF cs)[k]? = some cs[k].2:=by unfold chF; rw [aq,ec]; rfl
   refine ⟨tt,_,rfl,S1 _ _ e2,rfl,_,_,rfl,_,_,rfl,rfl,[_,_],rfl,rfl,_,rfl,h1,hc',fun b o z=>(bF (bA z gD)).trans (S1 _ _ z),bB,?_⟩
   rw [cD en]
   exact fl.append (.cons e3 .nil)
  rintro zs H1 ⟨S1,h1,fl⟩ hz
  rw [yl,<- cl,aN] at fl
  refine ⟨D1,zs,chF cs,rfl,h1,fl.same S1,fq,by omega,fun D2 p2 f2 g2=>?_⟩
  have S2:Same H1 (upd (upd H1 D2 (.lst ((lvT (chF cs)).map V.int))) p2 (.tup [.ref D2,.int (lvB (chF cs):Nat)])):=(Same.upd f2).trans (Same.upd g2)
  have k1:=Same.upd g2 (o:=.tup [.ref D2,.int (lvB (chF cs):Nat)]) _ _ (bB (H:=H1) (a:=D2) (o:=.lst ((lvT (chF cs)).map V.int)))
  have k2:upd (upd H1 D2 (.lst ((lvT (chF cs)).map V.int))) p2 (.tup [.ref D2,.int (lvB (chF cs):Nat)]) p2 = _:=bB
  generalize upd (upd H1 D2 (.lst ((lvT (chF cs)).map V.int))) p2 (.tup [.ref D2,.int (lvB (chF cs):Nat)]) = H2 at S2 k1 k2 ⊢
  have SS:=S1.trans S2
  have tl:(lvT (chF cs)).length = cs.length:=by unfold lvT; rw [ak,cl]
  dsimp only [cL,L2.start]
  subst hR1
  refine jT (Yx (Kd (uc ⟨_,rfl,p2,_,0,_,rfl,rfl,k2,cV,_,rfl,t,_,2,_,rfl,rfl,SS _ _ ht,bY (j:=2) rfl,D2,r,_,ys,rfl,k1,SS _ _ hr',by rw [ak,tl,yl],by rw [ak,tl]; omega,fun D3 g3=>⟨fun k zs Hc=>Same H2 Hc/\Hc D3 = some (.lst zs)/\zs = (((List.zipWith (fun p c=>p * Ts.getD c.1 0) (lvT (chF cs)) cs).take k).map V.int),⟨Same.upd g3,bB,rfl⟩,?_,?_⟩⟩)))
  .rintro k x y zs Hc t2 hx hy ⟨S3,h3,rfl⟩ hz ht2 ha hb pre hpre
   obtain ⟨w1,w2,rfl⟩:=qx hpre
   have lk:k < cs.length:=by rw [<- yl]; exact (ao.mp hy).1
   have ec:cs[k]? = some cs[k]:=aj lk
   obtain ⟨tt,a,e1,e2,e3⟩:=ya k _ ec
   rw [hy] at e1
   cases e1
   have el:(lvT (chF cs))[k]? = some ((lvT (chF cs))[k]'(by omega)):=aj _
   rw [aq,el] at hx
   cases hx
   have S4:Same Hc (upd Hc t2 (.tup [.int ((lvT (chF cs))[k]'(by omega)),.ref tt])):=Same.upd ht2
   have k4:upd Hc t2 (.tup [.int ((lvT (chF cs))[k]'(by omega)),.ref tt]) t2 = _:=bB
   generalize upd Hc t2 (.tup [.int ((lvT (chF cs))[k]'(by omega)),.ref tt]) = H4 at S4 k4 ⊢
   have S24:=SS.trans (S3.trans S4)
   have cm:=hc _ (aR lk)
   have lt:cs[k].1 < Ts.length:=cm.1
   have eT:(Ts.map V.int)[cs[k].1]? = some (.int (Ts.getD cs[k].1 0)):=by rw [aq,aj lt,List.getD_eq_getElem?_getD,aj lt]; rfl
   have bt:Bd (Ts.getD cs[k].1 0):=bT _ (by rw [List.getD_eq_getElem?_getD,aj lt]; exact aR lt)
   have bl:Bd ((lvT (chF cs))[k]'(by omega)):=(ZV fq (by omega) _ (aR _)).bd (by decide)
   refine ⟨t2,_,rfl,k4,rfl,_,_,rfl,_,_,rfl,rfl,[_,_],rfl,rfl,_,rfl,_,rfl,_,rfl,tt,_,0,_,rfl,rfl,S24 _ _ e2,cV,Ta,_,_,_,rfl,rfl,S24 _ _ hT,bY (j:=cs[k].1) eT,_,_,rfl,rfl,⟨bl,bt⟩,S4 _ _ h3,S4 _ _ ha,S4 _ _ hb,fun b o z=>(bF (bA z g3)).trans (S4 _ _ (S3 _ _ z)),bB,?_⟩
   rw [cD (Vh (g:=fun p (c:Nat × Int × Int)=>p * Ts.getD c.1 0) el ec),bf]; rfl
  .rintro zs Hc ⟨S3,h3,ez⟩ hz
   rw [ak,tl,aJ (by rw [List.length_zipWith]; omega)] at ez
   subst ez
   have b0:=sY fq
   exact ⟨D3,_,rfl,h3,_,rfl,p2,_,1,_,rfl,rfl,S3 _ _ k2,cG,Ib cs Ts,(lvB (chF cs):Nat),rfl,by omega,(QX fq (by omega)).bd (by decide),fun r z o l hr=>q r z o _ (SS.trans (S3.trans (Same.upd hr))) (Same.free (SS.trans S3) hr) bB l⟩
noncomputable def lE (cs:List (Nat × Int × Int)) (g:Nat->Rat):Rat:=(cs.map fun c=>vl c.2 * g c.1).sum
theorem Ny {B:Int} (hB:0 < B) {Ts:List Int} : ∀ {cs:List (Nat × Int × Int)},(∀ c ∈ cs,0 < c.2.2/\c.2.2 ∣ B)->(((List.zipWith (fun p (c:Nat × Int × Int)=>p * Ts.getD c.1 0) (cs.map fun c=>c.2.1 * (B / c.2.2)) cs).sum:Int):Rat) = (B:Rat) * lE cs fun r=>(Ts.getD r 0:Rat)
 | [],_=>by
  show ((0:Int):Rat) = (B:Rat) * 0
  rw [Rat.intCast_zero,Rat.mul_zero]
 | c :: cs,h=>by
  have ih:=Ny hB (Ts:=Ts) (cs:=cs) fun c hc=>h c (aG _ hc)
  obtain ⟨c0,d,e⟩:=h c aM
  rw [List.map_cons,List.zipWith_cons_cons,List.sum_cons,Rat.intCast_add,ih]
  show _ = (B:Rat) * (vl c.2 * (Ts.getD c.1 0:Rat) + lE cs fun r=>(Ts.getD r 0:Rat))
  have e2:B / c.2.2 = d:=by rw [e,Int.mul_ediv_cancel_left _ (by omega)]
  rw [e2,e,Rat.intCast_mul,Rat.intCast_mul,Rat.intCast_mul]
  have:=eN c0
  unfold vl
  grind
theorem V8 {cs:List (Nat × Int × Int)} {Ts:List Int} {z o:Int} (fq:∀ f ∈ chF cs,Fq f) (l:Low (Ib cs Ts) (lvB (chF cs):Nat) z o):vl (z,o) = lE cs fun r=>(Ts.getD r 0:Rat):=by
 have b0:(0:Int) < (lvB (chF cs):Nat):=by have:=sY fq; omega
 rw [l.vl b0]
 have e:Ib cs Ts = (List.zipWith (fun p (c:Nat × Int × Int)=>p * Ts.getD c.1 0) (cs.map fun c=>c.2.1 * (((lvB (chF cs):Nat):Int) / c.2.2)) cs).sum:=by
  unfold Ib lvT
  congr 2
  show (cs.map (·.2)).map _ = _
  rw [List.map_map]; rfl
 have:=Ny b0 (Ts:=Ts) (cs:=cs) fun c hc=>⟨(fq c.2 (List.mem_map.mpr ⟨c,hc,rfl⟩)).pos,Fx (List.mem_map.mpr ⟨c,hc,rfl⟩) (fq c.2 (List.mem_map.mpr ⟨c,hc,rfl⟩))⟩
 show ((Ib cs Ts:Int):Rat) / (((lvB (chF cs):Nat):Int):Rat) = _
 rw [e,this]
 have:=eN b0
 grind
theorem QK {a:Nat} : ∀ {l:List Int},(∀ x ∈ l,Bn a x)->l.sum.natAbs <= l.length * 10 ^ a
 | [],_=>by simp
 | x :: l,h=>by
  have h1:=QK (l:=l) fun y hy=>h y (aG _ hy)
  have h2:x.natAbs <= 10 ^ a:=h x aM
  rw [List.sum_cons,List.length_cons,Nat.add_mul,Nat.one_mul]
  omega
theorem VJ {a b:Nat} {cs:List (Nat × Int × Int)} {Ts:List Int} (h1:∀ x ∈ lvT (chF cs),Bn a x) (h2:∀ x ∈ Ts,Bn b x) (l:cs.length <= 100):Bn (a + b + 2) (Ib cs Ts):=by
 have h:∀ x ∈ List.zipWith (fun p (c:Nat × Int × Int)=>p * Ts.getD c.1 0) (lvT (chF cs)) cs,Bn (a + b) x:=fun x hx=>by
  obtain ⟨k,hk⟩:=aU hx
  rw [List.getElem?_zipWith] at hk
  cases e1:(lvT (chF cs))[k]? with
  | none=>rw [e1] at hk; cases hk
  | some p =>
   cases e2:cs[k]? with
   | none=>rw [e1,e2] at hk; cases hk
   | some c =>
    rw [e1,e2] at hk
    cases hk
    refine Bn.mul (h1 p (aA e1)) ?_
    rw [List.getD_eq_getElem?_getD]
    cases e3:Ts[c.1]? with
    | none=>exact aZ _
    | some x=>exact h2 x (aA e3)
 have hs:=QK h
 unfold Bn Ib
 rw [Nat.pow_add _ (a + b) 2,Nat.mul_comm]
 refine aK hs (Nat.mul_le_mul_right _ ?_)
 rw [List.length_zipWith]
 omega
structure tR (n:Nat) (f:Int × Int) (cs:List (Nat × Int × Int)):Prop where
 pay:0 < f.2/\Bn 40 f.1/\Bn 40 f.2
 few:cs.length <= 41
 ch:∀ c ∈ cs,c.1 < n/\Fq c.2
 lv:Bn 60 (lvB (chF cs):Nat)
theorem tR.fq {n:Nat} {f:Int × Int} {cs:List (Nat × Int × Int)} (h:tR n f cs):∀ f ∈ chF cs,Fq f:=fun f hf=>by
 obtain ⟨c,hc,rfl⟩:=List.mem_map.mp hf
 exact (h.ch c hc).2
theorem tR.tops {n:Nat} {f:Int × Int} {cs:List (Nat × Int × Int)} (h:tR n f cs):∀ x ∈ lvT (chF cs),Bn 100 x:=fun x hx=>by
 obtain ⟨g,hg,rfl⟩:=List.mem_map.mp hx
 have b:Bn 60 (((lvB (chF cs):Nat):Int) / g.2):=aK (Int.natAbs_ediv_le_natAbs _ _) h.lv
 exact Bn.mul (a:=40) (b:=60) (h.fq g hg).sa b
noncomputable def xq (K:Frag) (D:Adr):Sp:=fun vs H Q _=>∃ (o p t lv T:Addr) (rms:List (Str × List Dr)) (s f:Int × Int) (cs:List (Nat × Int × Int)) (Ts:List Int) (W:Int),vs = [.ref o,.ref t,.ref lv]/\jX D H o p rms/\H p = some (.tup [.int s.1,.int s.2])/\0 < s.2/\Bn 40 s.1/\Bn 40 s.2/\O_ K H t f cs/\tR Ts.length f cs/\H lv = some (.tup [.ref T,.int W])/\H T = some (.lst (Ts.map V.int))/\0 < W/\Bn 600 W/\(∀ x ∈ Ts,Bn 640 x) /\
 ∀ r z y H',Same H H'->H r = none->H' r = some (.tup [.int z,.int y])->0 < y->Bn 830 z->Bn 140 y->vl (z,y) = vl f * (W:Rat) + vl s * lE cs (fun r=>(Ts.getD r 0:Rat))->Q (.ref r) H'
theorem zF (F:Fun K gO gO nF f fd) (T:Txt K mg D) (nH:OkF P w K mg base 3 gQ gF (wY K)) (yO:OkF P w K mg base 3 qM qO zM) (Gb:OkF P w K mg base 3 sI sS (o9 (K:=K) fun a b=>a + b)):cj P w K mg base CX0 4 f fd gA (xq K D):=by
 refine F.ok qR (fun vs H Q E h=>?_) (fun cdv A outer s H vs Q E hr h=>?_)
 .obtain ⟨o,p,t,lv,T,rms,s,f,cs,Ts,W,rfl,_⟩:=h
  rfl
 .obtain ⟨o,p,t,lv,Ta,rms,sh,f,cs,Ts,W,rfl,hh,hp,s0,b1,b2,of,df,hlv,hT,w0,bW,bT,q⟩:=h
  have hI:=hh
  obtain ⟨dx,nn,ll,zs0,ho,_,_,_⟩:=hI
  have fq:=df.fq
  refine ⟨_,(bG (bQ (i:=3) qR.nd rfl (Or.inl rfl) (bK nH (hr.mono (by decide)) (by rfl) (bw (pv 1) (bw (bM bV (pv 2) bC (fun _ _=>rfl)) bD))))
   (bI (bU (bK Gb (hr.mono (by decide)) (by rfl) (bw (bK yO (hr.mono (by decide)) (by rfl) (bw (bM bV (pv 1) bC (fun _ _=>rfl)) (bw (yN (bw (bM bV (pv 2) bC (fun _ _=>rfl)) (bw bC bD))) bD))) (bw (bK yO (hr.mono (by decide)) (by rfl) (bw (pJ (pv 0) rfl) (bw (pv 3) bD))) bD)))))),?_⟩
  refine cA fun R1 hR1=>?_
  refine cM ⟨_,rfl,_,rfl,lv,_,0,_,rfl,rfl,hlv,cV,t,Ta,f,cs,Ts,rfl,of,hT,df.few,df.ch,fun x hx=>(bT x hx).bd (by decide),fun r1 z1 o1 H1 S1 f1 h1 l1=>?_⟩
  have v1:=V8 fq l1
  have bz1:Bn 742 z1:=(VJ (a:=100) (b:=640) df.tops bT (by have:=df.few; omega)).lx l1
  have bo1:Bn 60 o1:=df.lv.ly l1
  have p1:=l1.pos
  subst hR1
  dsimp only [cL,L2.start]
  obtain ⟨nm,pp,rr,ys,ht,hpp,_,_,_⟩:=of.ex
  obtain ⟨f0,bf1,bf2⟩:=df.pay
  refine jT ⟨_,rfl,t,_,1,_,rfl,rfl,S1 _ _ ht,cG,_,rfl,lv,_,1,_,rfl,rfl,S1 _ _ hlv,cG,dG,fun u2 H2 S2 f2 h2=>⟨pp,u2,f.1,f.2,W,1,rfl,S2 _ _ (S1 _ _ hpp),h2,bf1.bd (by decide),bf2.bd (by decide),bW.bd (by decide),Bd.sm (by decide),f0,by decide,by rw [Int.mul_one]; exact bf2.bd (by decide),fun r3 z3 o3 H3 S3 f3 h3 l3=>?_⟩⟩
  rw [Int.mul_one] at l3
  have bz3:Bn 640 z3:=(Bn.mul bf1 bW).lx l3
  have bo3:Bn 40 o3:=bf2.ly l3
  have p3:=l3.pos
  have v3:vl (z3,o3) = vl f * (W:Rat):=by
   rw [l3.vl f0]
   have:=Hs (x:=f.1) (y:=f.2) (u:=W) (v:=1) f0 (by decide)
   rw [Int.mul_one] at this
   rw [this,Rh]
  have S13:=S1.trans (S2.trans S3)
  refine ⟨_,rfl,o,D.Hall,dx,_,.ref p,rfl,S13 _ _ ho,T.qw,T.tK,rfl,_,rfl,p,r1,sh.1,sh.2,z1,o1,rfl,S13 _ _ hp,S3 _ _ (S2 _ _ h1),b1.bd (by decide),b2.bd (by decide),bz1.bd (by decide),bo1.bd (by decide),s0,p1,(Bn.mul b2 bo1).bd (by decide),fun r4 z4 o4 H4 S4 f4 h4 l4=>?_⟩
  have bz4:Bn 782 z4:=(Bn.mul b1 bz1).lx l4
  have bo4:Bn 100 o4:=(Bn.mul b2 bo1).ly l4
  have p4:=l4.pos
  have v4:vl (z4,o4) = vl sh * lE cs fun r=>(Ts.getD r 0:Rat):=by
   rw [l4.vl (Int.mul_pos s0 p1),Hs s0 p1,v1]
  have S14:=S13.trans S4
  refine ⟨r3,r4,z3,o3,z4,o4,rfl,.of (S4 _ _ h3),.of h4,bz3.bd (by decide),bo3.bd (by decide),bz4.bd (by decide),bo4.bd (by decide),p3,p4,(Bn.mul bo3 bo4).bd (by decide),fun r5 z5 o5 l5 f5=>?_⟩
  have bt:Bn 823 (z3 * o4 + z4 * o3):=Bn.add (a:=822) ((Bn.mul bz3 bo4).up (by decide)) (Bn.mul bz4 bo3)
  refine q r5 z5 o5 _ (S14.trans (Same.upd f5)) (Same.free S14 f5) bB l5.pos ((bt.lx l5).up (by decide)) ((Bn.mul bo3 bo4).ly l5) ?_
  rw [l5.vl (Int.mul_pos p3 p4),Ks p3 p4,v3,v4]
theorem Tg {H H':Hp} (S:Same H H') {v:V} {t:String} (h:tyS H v = some t):tyS H' v = some t:=by
 cases v with
 | ref a =>
  have h:(match H a with
   | some (.lst _)=>some "list"
   | some (.tup _)=>some "tuple"
   | some (.dK _)=>some "dict"
   | _=>none) = some t:=h
  show (match H' a with
   | some (.lst _)=>some "list"
   | some (.tup _)=>some "tuple"
   | some (.dK _)=>some "dict"
   | _=>none) = some t
  split at h
  .rename_i e; rw [S a _ e]; exact h
  .rename_i e; rw [S a _ e]; exact h
  .rename_i e; rw [S a _ e]; exact h
  .cases h
 | _=>exact h
noncomputable def pK (n:Nat):V->Prop | .int k=>0 <= k/\k < n | _=>False
noncomputable def Odd (H:Hp) (v:V):Prop:=∃ t,tyS H v = some t
theorem YK {H:Hp} {v:V} {t:String} (h:tyS H v = some t) (n:∀ k,v ≠ .int k):(t == "int") = false:=by
 cases v with
 | int k=>exact absurd rfl (n k)
 | ref a =>
  unfold tyS at h
  dsimp only at h
  split at h <;> cases h <;> rfl
 | _=>cases h <;> rfl
theorem Xj {H:Hp} {a d:Addr} {o o' x:HO} (n:H a = none) (e:d ≠ a):out (upd (upd (upd H a o) a o') d x) a = upd H d x:=by
 funext b
 by_cases z:b = a
 .subst z; rw [I8,bF (Ne.symm e),n]
 .rw [rm z]
  by_cases y:b = d
  .subst y; rw [bB,bB]
  .rw [bF y,bF z,bF z,bF y]
theorem Lr {C:Addr} {E:XK} {v:V} {t:TA} {R:Ends} {σ:L2.St} {H:Hp} (ht:∀ Q:List V->Hp->Prop,Q [v] H->t σ H Q) (e:∀ d,H d = none->E (.ref C) (some d) (upd H d (.xd [("room",v)]))):Gh C (rE C) (fun C d _ H'=>E C d H') t R σ H :=
 ht _ ⟨(show 1 <= sizeLine by decide),fun a ha=>⟨a,v,rfl,bB,fun d hd da=>⟨rfl,some d,(bF (Ne.symm da)).trans bB,(by rw [Xj ha da]; exact e d (by rw [bF da] at hd; exact hd))⟩⟩⟩
noncomputable def xr (D:Adr):Sp:=fun vs H Q E=>∃ (o p:Addr) (v:V) (rms:List (Str × List Dr)),vs = [.ref o,v]/\jX D H o p rms/\Odd H v/\(pK rms.length v->Q .non H)/\(¬ pK rms.length v->∀ d,H d = none->E (.ref D.NoRoom) (some d) (upd H d (.xd [("room",v)])))
theorem Al (F:Fun K lZ mU jF f fd) (T:Txt K mg D) (dZ:OkF P w K mg base 1 gW fZ kW) (pU:OkI P w K mg base CX0 1 D.Hall_size ju (lV D)) (nA:OkI P w K mg base CX0 1 D.NoRoom_init gC (rE D.NoRoom)):cj P w K mg base (CXO P w) 3 f fd dY (xr D):=by
 refine F.okX ug (fun vs H Q E h=>?_) (fun cdv A outer s H vs Q E hr h=>?_)
 .obtain ⟨o,p,v,rms,rfl,_⟩:=h
  rfl
 .obtain ⟨o,p,v,rms,rfl,hh,ov,q,e⟩:=h
  refine ⟨_,(bI (cW (PW.pt (pw_or (dM (dz (bK dZ (hr.mono (by decide)) (by rfl) (bw (pv 1) bD)) (fun _=>rfl))) (pw_or1 (dM (Ie M9 zO bC (pv 1) (PE.any fun C (hC:iu D C)=>(Dg (pv 0) (T.cl C hC.fam) (T.GP C hC) pU (hr.mono (by decide)))))))))
    (bI (Px rfl (by rfl) T.Il T.xi_NoRoom nA (hr.mono (by decide)) Qe (bw (pv 1) bD)))
    cB)),?_⟩
  unfold kW lV
  walk_at "rd"
  have no:¬ pK rms.length v->Gh D.NoRoom (rE D.NoRoom) (fun C d x H'=>E C d H') (xM (Aa 1) wX) { nx:=fun x H'=>Q V.non H',rt:=Q } [some (V.ref o),some v] H:=fun z=>Lr (fun Q r=>⟨_,rfl,r⟩) (e z)
  by_cases iv:∃ k,v = .int k
  .obtain ⟨k,rfl⟩:=iv
   refine ⟨_,rfl,?_⟩
   rw [if_neg (by decide)]
   refine ⟨k,rfl,?_⟩
   by_cases k0:0 <= k
   .rw [if_pos (decide_eq_true k0)]
    have hI:=hh
    obtain ⟨dx,n,l,zs,ho,hn,hl,of_⟩:=hI
    refine ⟨D.Hall,(by unfold iu; simp),dx,_,ho,rfl,p,rms,hh,k,rfl,?_⟩
    by_cases k1:k < rms.length
    .rw [if_neg (by simp [k1])]
     exact q ⟨k0,k1⟩
    .rw [if_pos (by simp [k1])]
     exact no fun z=>k1 z.2
   .rw [if_neg (by simp [k0])]
    exact no fun z=>k0 z.1
  .obtain ⟨t,et⟩:=ov
   refine ⟨t,et,?_⟩
   rw [YK et fun k z=>iv ⟨k,z⟩]
   exact no fun z=>by
    cases v with
    | int k=>exact iv ⟨k,rfl⟩
    | _=>exact z
noncomputable def fJX (D1:Addr) (ns:List Str) (gs:List Dr) (H:Hp) (k:Nat) (zs:List V) (H':Hp):Prop:=Same H H'/\H' D1 = some (.lst zs)/\∀ as,Nz H as->mY ns (del (D1 :: as) H') zs (gs.take k)
noncomputable def uw (D:Adr):Sp:=fun vs H Q E=>∃ (o p:Addr) (v:V) (rms:List (Str × List Dr)),vs = [.ref o,v]/\jX D H o p rms/\Odd H v /\
 ((∃ (k:Nat) (g:Str × List Dr),v = .int (k:Nat)/\rms[k]? = some g/\g.2.length <= 100/\(∀ d ∈ g.2,d.ws.length <= 100) /\
  ∀ r H' zs,Same H H'->H r = none->H' r = some (.lst zs)->(∀ as,Nz H as->mY (rms.map (·.1)) (del as H') zs g.2)->Q (.ref r) H')
 \/ ¬ pK rms.length v/\∀ d,H d = none->E (.ref D.NoRoom) (some d) (upd H d (.xd [("room",v)])))
theorem yd (F:Fun K qt pY j_ f fd) (T:Txt K mg D) (je:OkI P w K mg base (CXO P w) 3 D.Hall_check_room dY (xr D)):cj P w K mg base (CXO P w) 4 f fd gU (uw D):=by
 refine F.okX zX (fun vs H Q E h=>?_) (fun cdv A outer s H vs Q E hr h=>?_)
 .obtain ⟨o,p,v,rms,rfl,_⟩:=h
  rfl
 .obtain ⟨o,p,v,rms,rfl,hh,ov,cs⟩:=h
  have hI:=hh
  obtain ⟨dx,n,l,zs,ho,hn,hl,of_⟩:=hI
  refine ⟨_,(bG (cY (PE.any fun C (hC:dw D C)=>(Dj (pv 0) (T.cl C hC.fam) (T.t_ C hC) je (hr.mono (by decide)) eF (bw (pv 1) bD))))
   (bI (bU (jl (bH j_) nq nq ["name", "pay", "numbered"] (cX ((bM bN (pJ (pv 0) rfl) (pv 1) (fun _ _=>rfl))).mono) (fX (n:=3) rfl (cu (dU (i:=0)) (cu (dU (i:=1)) (cu (dU (i:=2)) fK)))) cU (c7 (bw (pv 0) (bw (pv 1) (bw (n8 uf (by rfl) T.zj boot_list (bw (pv 2) bD)) bD)))))))),?_⟩
  refine cA fun R1 hR1=>?_
  refine jW ⟨D.Hall,(by unfold dw; simp),_,rfl,o,dx,_,rfl,ho,rfl,_,rfl,o,p,v,rms,rfl,hh,ov,?_⟩
  obtain ⟨k,g,rfl,hg,g100,w100,q⟩ | ⟨nv,e⟩:=cs
  case inr=>exact ⟨fun z=>absurd z nv,fun _ d hd=>e d hd⟩
  have lk:=(ao.mp hg).1
  refine ⟨fun _=>?_,fun z=>absurd (show pK rms.length (.int (k:Nat)) from ⟨Int.natCast_nonneg _,Int.ofNat_lt.mpr lk⟩) z⟩
  subst hR1
  obtain ⟨ll,ys,a,b,c⟩:=of_.at_ k g.2 (by rw [aq,hg]; rfl)
  have z9:101 < sizeLine:=by decide
  refine jT (m7 ⟨_,rfl,o,D.Hall,dx,_,.ref l,rfl,ho,T.qw,T.pP,rfl,_,rfl,l,zs,_,_,rfl,rfl,hl,bY a,ll,ys,rfl,b,by rw [c.len]; omega,fun D1 hD=>⟨fJX D1 (rms.map (·.1)) g.2 H,⟨Same.upd hD,bB,fun as _=>⟨rfl,fun k g e=>by simp at e⟩⟩,?_,?_⟩⟩)
  .rintro i x1 zs1 Hc hi ⟨S5,h5,o5⟩ hy hlc pre hpre
   have li:i < g.2.length:=by rw [<- c.len]; exact (ao.mp hi).1
   have e:g.2[i]? = some g.2[i]:=aj li
   have hm:=w100 _ (aR li)
   obtain ⟨t,r,ws,ea,eb,ec,ed⟩:=(c.same S5).at_ i _ e
   rw [hi] at ea
   cases ea
   generalize g.2[i] = d at *
   obtain ⟨u1,u2,u3,rfl⟩ : ∃ a b c,pre = [a,b,c]:=by
    match pre,hpre with
    | [a,b,c],_=>exact ⟨a,b,c,rfl⟩
   walk_at "rd"
   refine ⟨_,eb,rfl,_,_,rfl,_,_,rfl,_,_,rfl,rfl,[_,_,_],rfl,rfl,?_⟩
   refine ⟨r,rfl,ws,ec,fun l1 hl1=>⟨by decide,fun p1 hp1=>?_⟩⟩
   have lp:l1 ≠ p1:=bA bB hp1
   have hp1':Hc p1 = none:=(bF lp.symm).symm.trans hp1
   have S6:Same Hc (upd (upd Hc l1 (.lst ws)) p1 (.tup [.str d.nm,.ref d.p,.ref l1])):=(Same.upd hl1).trans (Same.upd hp1)
   have e6:upd (upd Hc l1 (.lst ws)) p1 (.tup [.str d.nm,.ref d.p,.ref l1]) l1 = some (.lst ws):=(bF lp).trans bB
   have e7:upd (upd Hc l1 (.lst ws)) p1 (.tup [.str d.nm,.ref d.p,.ref l1]) p1 = some (.tup [.str d.nm,.ref d.p,.ref l1]):=bB
   generalize upd (upd Hc l1 (.lst ws)) p1 (.tup [.str d.nm,.ref d.p,.ref l1]) = H7 at S6 e6 e7 ⊢
   refine ⟨S6 _ _ h5,S6 _ _ hlc,fun b v e'=>(bF (bA e' hD)).trans (S6 _ _ (S5 _ _ e')),bB,fun as has=>?_⟩
   have nin:∀ {b},Hc b = none->b ∉ D1 :: as:=fun {b} hb=>by
    simp only [List.mem_cons,not_or]
    exact ⟨fun z=>(by rw [z,h5] at hb; cases hb),fun z=>let ⟨u,hu,_⟩:=has _ z; bA (S5 _ _ hu) hb rfl⟩
   have u2:∀ {b o},b ∉ D1 :: as->H7 b = some o->del (D1 :: as) (upd H7 D1 (.lst (zs1 ++ [.ref p1]))) b = some o:=fun {b o} h e=>eZ h ((bF (by simp only [List.mem_cons,not_or] at h; exact h.1)).trans e)
   rw [cD e]
   refine ((o5 as has).same fun b v e'=>?_).snoc (u2 (nin hp1') e7) (u2 (nin hl1) e6) (ed.imp fun t us e'=>u2 ?_ (S6 _ _ e'))
   .obtain ⟨b1,b2⟩:=mK e'
    exact u2 b1 (S6 _ _ b2)
   .simp only [List.mem_cons,not_or]
    exact ⟨eV e' h5 (by intro z; cases z),fun z=>let ⟨u,hu,n⟩:=has _ z; n _ (Option.some.inj ((S5 _ _ hu).symm.trans e'))⟩
  .rintro zs1 Hc ⟨S5,h5,o5⟩ _
   rw [c.len,aN] at o5
   exact q D1 Hc zs1 S5 hD h5 fun as has=>(o5 as has).same fun b o e=>let ⟨a,c⟩:=mK e; eZ (fun z=>a (aG _ z)) c
theorem sV {α:Type} {l:List α} {a b:α} {k:Nat} (h:(l ++ [a])[k]? = some b):(k < l.length/\l[k]? = some b)\/(k = l.length/\b = a):=by
 by_cases hk:k < l.length
 .rw [aC hk] at h
  exact .inl ⟨hk,h⟩
 .have hl:=(ao.mp h).1
  rw [au,List.length_cons,List.length_nil] at hl
  have e:k = l.length:=by omega
  subst e
  rw [aB (aD _),Nat.sub_self] at h
  cases h
  exact .inr ⟨rfl,rfl⟩
theorem rY {as:List Addr} {H:Hp} {a:Addr} {u:HO} (h:a ∈ as):del as (upd H a u) = del as H:=by
 funext b
 unfold del
 split
 .rfl
 .rename_i hb
  exact bF fun z=>hb (z ▸ h)
structure DrN (K:Frag) (H:Hp) (ns:List Str) (d:Dr) (f:Int × Int) (cs:List (Nat × Int × Int)):Prop where
 pay:H d.p = some (.tup [.int f.1,.int f.2])
 len:d.ws.length = cs.length
 at_:∀ (k:Nat) g c,d.ws[k]? = some g->cs[k]? = some c->ns[c.1]? = some g.1/\SqT K H g.2 [.int c.2.1,.int c.2.2]
theorem DrN.same {H H':Hp} {ns:List Str} {d:Dr} {f:Int × Int} {cs:List (Nat × Int × Int)} (h:DrN K H ns d f cs) (S:Same H H'):DrN K H' ns d f cs:=⟨S _ _ h.pay,h.len,fun k g c e1 e2=>⟨(h.at_ k g c e1 e2).1,S.tup (h.at_ k g c e1 e2).2⟩⟩
theorem oE {ns:List Str} (nd:ns.Nodup) {i j:Nat} {n:Str} (h1:ns[i]? = some n) (h2:ns[j]? = some n):i = j:=by
 exact (List.getElem?_inj (ao.mp h1).1 nd).mp (h1.trans h2.symm)
theorem mY.offN {ns:List Str} (nd:ns.Nodup) {H:Hp} {zs:List V} {gs:List Dr} (h:mY ns H zs gs) {k:Nat} {d:Dr} (e:gs[k]? = some d) {f:Int × Int} {cs:List (Nat × Int × Int)} (hd:DrN K H ns d f cs):∃ t,zs[k]? = some (.ref t)/\O_ K H t f cs:=by
 obtain ⟨t,r,ys,a,b,c,w⟩:=h.at_ k d e
 refine ⟨t,a,d.nm,d.p,r,ys,b,hd.pay,c,by rw [w.len,hd.len],fun j g eg=>?_⟩
 have lj:j < d.ws.length:=by rw [hd.len]; exact (ao.mp eg).1
 have ew:d.ws[j]? = some d.ws[j]:=aj lj
 obtain ⟨tt,i,x1,x2,x3⟩:=w.at_ j _ ew
 obtain ⟨y1,y2⟩:=hd.at_ j _ g ew eg
 cases oE nd x2 y1
 exact ⟨tt,_,x1,x3,y2⟩
noncomputable def wq (fs:List (Int × Int)) (r:Nat):Rat:=vl (fs.getD r (0,1))
noncomputable def Jh (s f:Int × Int) (cs:List (Nat × Int × Int)) (fs:List (Int × Int)):Rat:=vl f + vl s * lE cs (wq fs)
theorem Nt {W:Rat} {g h:Nat->Rat} : ∀ {cs:List (Nat × Int × Int)},(∀ c ∈ cs,g c.1 = W * h c.1)->lE cs g = W * lE cs h
 | [],_=>by
  show (0:Rat) = W * 0
  rw [Rat.mul_zero]
 | c :: cs,e=>by
  have ih:=Nt (cs:=cs) fun c hc=>e c (aG _ hc)
  show vl c.2 * g c.1 + lE cs g = W * (vl c.2 * h c.1 + lE cs h)
  rw [ih,e c aM]
  grind
theorem aal {fs:List (Int × Int)} (fq:∀ f ∈ fs,Fq f) {r:Nat} (lr:r < fs.length):((lvT fs).getD r 0:Rat) = (((lvB fs:Nat):Int):Rat) * wq fs r:=by
 have e:fs[r]? = some fs[r]:=aj lr
 have q:=fq _ (aR lr)
 unfold wq lvT
 rw [List.getD_eq_getElem?_getD,List.getD_eq_getElem?_getD,aq,e]
 show ((fs[r].1 * (((lvB fs:Nat):Int) / fs[r].2):Int):Rat) = (((lvB fs:Nat):Int):Rat) * vl fs[r]
 obtain ⟨d,ed⟩:=Fx (aR lr) q
 have:=eN q.pos
 have e2:((lvB fs:Nat):Int) / fs[r].2 = d:=by rw [ed,Int.mul_ediv_cancel_left _ (Int.ne_of_gt q.pos)]
 rw [e2,ed,Rat.intCast_mul,Rat.intCast_mul]
 unfold vl
 grind
theorem HN {fs:List (Int × Int)} (fq:∀ f ∈ fs,Fq f) (l:fs.length <= 12):Bn 480 (lvB fs:Nat):=by
 have h1:=oY (B:=10 ^ 40) (Jj fs) 1 (by decide) fun b hb=>by
  obtain ⟨f,hf,rfl⟩:=List.mem_map.mp hb
  have:=(fq f hf).pos
  exact ⟨by omega,(fq f hf).sb⟩
 rw [Nat.one_mul,<- Nat.pow_mul] at h1
 unfold Bn
 rw [Int.natAbs_natCast]
 refine aK h1 (Nat.pow_le_pow_right (by decide) ?_)
 unfold Jj
 rw [ak]
 omega
theorem KQ {fs:List (Int × Int)} (fq:∀ f ∈ fs,Fq f) (l:fs.length <= 12):∀ x ∈ lvT fs,Bn 520 x:=fun x hx=>by
 obtain ⟨g,hg,rfl⟩:=List.mem_map.mp hx
 have b:Bn 480 (((lvB fs:Nat):Int) / g.2):=aK (Int.natAbs_ediv_le_natAbs _ _) (HN fq l)
 exact Bn.mul (a:=40) (b:=480) (fq g hg).sa b
structure Q5 (q:Int × Int) (v:Rat):Prop where
 pos:0 < q.2
 gcd:Int.gcd q.1 q.2 = 1
 bx:Bn 830 q.1
 b_y:Bn 740 q.2
 vl:vl q = v
structure OJ (K:Frag) (H:Hp) (ns:List Str) (n:Nat) (gs:List Dr) (fcs:List ((Int × Int) × List (Nat × Int × Int))):Prop where
 len:gs.length = fcs.length
 at_:∀ (k:Nat) d fc,gs[k]? = some d->fcs[k]? = some fc->DrN K H ns d fc.1 fc.2/\tR n fc.1 fc.2
structure m_ (H:Hp) (zs:List V) (s:Int × Int) (fs:List (Int × Int)) (fcs:List ((Int × Int) × List (Nat × Int × Int))):Prop where
 len:zs.length = fcs.length
 at_:∀ (k:Nat) fc,fcs[k]? = some fc->∃ t q,zs[k]? = some (.ref t)/\H t = some (.tup [.int q.1,.int q.2])/\Q5 q (Jh s fc.1 fc.2 fs)
noncomputable def oh (K:Frag) (D:Adr):Sp:=fun vs H Q E=>∃ (o p l:Addr) (v:V) (rms:List (Str × List Dr)),vs = [.ref o,v,.ref l]/\jX D H o p rms/\Odd H v /\
 ((∃ (k:Nat) (g:Str × List Dr) (s:Int × Int) (xs:List V) (fs:List (Int × Int)) (fcs:List ((Int × Int) × List (Nat × Int × Int))),v = .int (k:Nat)/\rms[k]? = some g/\g.2.length <= 100/\(∀ d ∈ g.2,d.ws.length <= 100)/\(rms.map (·.1)).Nodup/\H p = some (.tup [.int s.1,.int s.2])/\0 < s.2/\Bn 40 s.1/\Bn 40 s.2/\H l = some (.lst xs)/\FL H xs fs/\(∀ f ∈ fs,Fq f)/\fs.length <= 12/\OJ K H (rms.map (·.1)) fs.length g.2 fcs /\
  ∀ r H' zs,Same H H'->H r = none->H' r = some (.lst zs)->m_ H' zs s fs fcs->Q (.ref r) H')
 \/ ¬ pK rms.length v/\∀ d,H d = none->E (.ref D.NoRoom) (some d) (upd H d (.xd [("room",v)])))
theorem Pu (F:Fun K nZ nZ yI f fd) (T:Txt K mg D) (mH:OkI P w K mg base (CXO P w) 4 D.Hall_offers gU (uw D)) (oO:OkF P w K mg base 2 k_ kY (oF K)) (nG:OkF P w K mg base 4 gO gA (xq K D)) (Ld:OkF P w K mg base 3 vP vA Et):cj P w K mg base (CXO P w) 5 f fd nW (oh K D):=by
 refine F.okX yR (fun vs H Q E h=>?_) (fun cdv A outer s H vs Q E hr h=>?_)
 .obtain ⟨o,p,l,v,rms,rfl,_⟩:=h
  rfl
 .obtain ⟨o,p,l,v,rms,rfl,hh,ov,cs⟩:=h
  have hI:=hh
  obtain ⟨dx,n,ll,zs0,ho,_,_,_⟩:=hI
  refine ⟨_,(bG (bQ (i:=3) yR.nd rfl (Or.inl rfl) (PE.any fun C (hC:fB D C)=>(Dj (pv 0) (T.cl C hC.fam) (T.za C hC) mH (hr.mono (by decide)) eF (bw (pv 1) bD))))
   (bG (bQ (i:=4) yR.nd rfl (Or.inr rfl) (bK oO (hr.mono (by decide)) (by rfl) (bw (pv 2) bD)))
   (bI (bU (jl (bH yI) Gv Gv ["offer"] (cX ((pv 3)).mono) (dU (i:=0)) cU (bK Ld (hr.mono (by decide)) (by rfl) (bw (bK nG (hr.mono (by decide)) (by rfl) (bw (pv 1) (bw (pv 0) (bw (pv 5) bD)))) (bw (yN (bw (bM bV (pv 5) bC (fun _ _=>rfl)) (bw bC bD))) bD)))))))),?_⟩
  refine cA fun R1 hR1=>?_
  refine cM ⟨D.Hall,(by unfold fB; simp),_,rfl,o,dx,_,rfl,ho,rfl,_,rfl,o,p,v,rms,rfl,hh,ov,?_⟩
  obtain ⟨k,g,sh,xs,fs,fcs,rfl,hg,g100,w100,nd,hp,s0,b1,b2,hl,fl,fq,f12,dn,q⟩ | ⟨nv,e⟩:=cs
  case inr=>exact .inr ⟨nv,fun d hd=>e d hd⟩
  refine .inl ⟨k,g,rfl,hg,g100,w100,fun r1 H1 zs S1 f1 h1 of1=>?_⟩
  have of1:=(of1 [] (by intro a ha; cases ha)).same mL
  subst hR1
  dsimp only [cL,L2.start]
  refine cA fun R1 hR1=>?_
  refine cM ⟨_,rfl,l,xs,fs,rfl,S1 _ _ hl,Ka (fl.same S1),fq,by omega,fun D2 p2 f2 g2=>?_⟩
  have S2:Same H1 (upd (upd H1 D2 (.lst ((lvT fs).map V.int))) p2 (.tup [.ref D2,.int (lvB fs:Nat)])):=(Same.upd f2).trans (Same.upd g2)
  have k1:=Same.upd g2 (o:=.tup [.ref D2,.int (lvB fs:Nat)]) _ _ (bB (H:=H1) (a:=D2) (o:=.lst ((lvT fs).map V.int)))
  have k2:upd (upd H1 D2 (.lst ((lvT fs).map V.int))) p2 (.tup [.ref D2,.int (lvB fs:Nat)]) p2 = _:=bB
  generalize upd (upd H1 D2 (.lst ((lvT fs).map V.int))) p2 (.tup [.ref D2,.int (lvB fs:Nat)]) = H2 at S2 k1 k2 ⊢
  have SS:=S1.trans S2
  have of2:=of1.same S2
  have z9:101 < sizeLine:=by decide
  have W0:(0:Int) < (lvB fs:Nat):=by have:=sY fq; omega
  have bW:=HN fq f12
  have bT:=KQ fq f12
  have lT:(lvT fs).length = fs.length:=by unfold lvT; rw [ak]
  have vT:∀ r,r < fs.length->((lvT fs).getD r 0:Rat) = (((lvB fs:Nat):Int):Rat) * wq fs r:=fun r lr=>aal fq lr
  generalize hW:((lvB fs:Nat):Int) = W at *
  generalize lvT fs = Ts at *
  have zl:zs.length = fcs.length:=by rw [of2.len,dn.len]
  dsimp only [cL,L2.start]
  subst hR1
  refine jT (dB ⟨_,rfl,r1,zs,rfl,S2 _ _ h1,by rw [of2.len]; omega,fun D3 g3=>⟨fun k ys Hc=>Same H2 Hc/\Hc D3 = some (.lst ys)/\m_ (del [D3] Hc) ys sh fs (fcs.take k),⟨Same.upd g3,bB,⟨rfl,fun k fc e=>by simp at e⟩⟩,?_,?_⟩⟩)
  .rintro j x ys Hc hj ⟨S3,h3,lo⟩ _ ha
   have lj:j < fcs.length:=by rw [<- zl]; exact (ao.mp hj).1
   have ef:fcs[j]? = some fcs[j]:=aj lj
   have ed:g.2[j]? = some (g.2[j]'(by rw [dn.len]; exact lj)):=aj _
   obtain ⟨dN,dF⟩:=dn.at_ j _ _ ed ef
   generalize fcs[j] = fc at ef dN dF
   generalize g.2[j]'(by rw [dn.len]; exact lj) = d at ed dN
   obtain ⟨t,et,oN⟩:=of2.offN nd ed (dN.same SS)
   rw [hj] at et
   cases et
   have S4:=SS.trans S3
   have dF':=dF
   rw [<- lT] at dF'
   refine ⟨_,rfl,_,rfl,_,rfl,o,p,t,p2,D2,rms,sh,fc.1,fc.2,Ts,W,rfl,hh.same S4,S4 _ _ hp,s0,b1,b2,oN.same S3,dF',S3 _ _ k2,S3 _ _ k1,W0,bW.up (by decide),fun x hx=>(bT x hx).up (by decide),fun r5 z5 y5 H5 S5 f5 h5 y0 bz by5 v5=>?_⟩
   refine ⟨_,rfl,p2,_,1,_,rfl,rfl,S5 _ _ (S3 _ _ k2),cG,dG,fun u6 H6 S6 f6 h6=>⟨r5,u6,z5,y5,W,1,rfl,S6 _ _ h5,h6,bz.bd (by decide),by5.bd (by decide),bW.bd (by decide),Bd.sm (by decide),y0,W0,(Bn.mul by5 bW).bd (by decide),fun r7 z7 o7 H7 S7 f7 h7 l7=>?_⟩⟩
   have S57:=S5.trans (S6.trans S7)
   rw [Int.mul_one] at l7
   have lk:Q5 (z7,o7) (Jh sh fc.1 fc.2 fs):=⟨l7.pos,l7.gcd,bz.lx l7,(Bn.mul by5 bW).ly l7 |>.up (by decide),by
    have e:=ZS (x:=z5) (y:=y5) (u:=W) (v:=1) y0 W0 (by decide)
    rw [Int.mul_one] at e
    rw [l7.vl (Int.mul_pos y0 W0),e,v5,Rh,Nt (W:=(W:Rat)) (h:=wq fs) fun c hc=>vT c.1 (dF.ch c hc).1]
    have:=eN W0
    unfold Jh
    grind⟩
   have n7:r7 ∉ [D3]:=by
    simp only [List.mem_singleton]
    exact (bA (S6 _ _ (S5 _ _ h3)) f7).symm
   refine ⟨S57 _ _ h3,S57 _ _ ha,fun b u e=>(bF (bA e g3)).trans (S57 _ _ (S3 _ _ e)),bB,?_⟩
   rw [rY (List.mem_singleton.mpr rfl),cD ef]
   have yl:=lo.len
   refine ⟨by rw [au,au,yl]; rfl,fun k2 fc2 e2=>?_⟩
   rcases sV e2 with ⟨a,b⟩ | ⟨a,b⟩
   .obtain ⟨t2,q2,c1,c2,c3⟩:=lo.at_ k2 fc2 b
    obtain ⟨d1,d2⟩:=mK c2
    exact ⟨t2,q2,by rw [aC (by omega)]; exact c1,eZ d1 (S57 _ _ d2),c3⟩
   .subst b
    exact ⟨r7,(z7,o7),by rw [aB (by omega),yl,a,Nat.sub_self]; rfl,eZ n7 h7,lk⟩
  .rintro ys Hc ⟨S3,h3,lo⟩ _
   rw [zl,aN] at lo
   exact q D3 Hc ys (SS.trans S3) (Same.free SS g3) h3 ⟨lo.len,fun k fc e=>let ⟨t,q,a,b,c⟩:=lo.at_ k fc e; ⟨t,q,a,mL _ _ b,c⟩⟩
noncomputable def jY:Sp:=fun vs H Q _=>∃ (a b:Int),vs = [.int a,.int b]/\0 < b/\Bd b/\∀ p,H p = none->Q (.ref p) (upd H p (.tup [.int (Ac.lw a b).1,.int (Ac.lw a b).2]))
theorem Qs (F:Fun K jV jV Am f fd) (CJ:OkF P w K mg base 1 xH wM Bj):cj P w K mg base CX0 2 f fd jZ jY:=by
 refine F.ok CW (fun vs H Q E h=>?_) (fun cdv A outer s H vs Q E hr h=>?_)
 .obtain ⟨a,b,rfl,_⟩:=h
  rfl
 .obtain ⟨a,b,rfl,hb,hbd,q⟩:=h
  refine ⟨_,(bG (bQ (i:=2) CW.nd rfl (Or.inl rfl) (bK CJ (hr.mono (by decide)) (by rfl) (bw (pv 0) (bw (pv 1) bD))))
   (bI (bU (c7 (bw (bL jt (pv 0) (pv 2)) (bw (bL jt (pv 1) (pv 2)) bD)))))),?_⟩
  have g0:=Gw (a:=a) (b:=b) (by omega)
  have g1:=Kz (a:=a) (b:=b) (by omega) hbd
  unfold Bj
  walk_at "rd"
  rw [mO _ g0,mO _ g0]
  exact ⟨by omega,g1,by omega,g1,dG,q⟩
theorem Same.sql {K:Frag} {H H':Hp} {a:Addr} {xs:List V} (S:Same H H') (h:SqL K H a xs):SqL K H' a xs:=by
 rcases h with (h | ⟨o,h⟩) | h
 .exact .inl (.inl (S _ _ h))
 .exact .inl (.inr ⟨o,S _ _ h⟩)
 .exact .inr h
theorem VH {α:Type} : ∀ {l:List α},l.length = 2->∃ a b,l = [a,b]
 | [a,b],_=>⟨a,b,rfl⟩
noncomputable def GX:Sp:=fun vs H Q _=>∃ c:Int,vs = [.int c]/\∀ (n:Nat) H',1 <= n->n <= 12->Same H H'->Q (.int n) H'
theorem WY (F:Fun K vC vC KR f fd) (T:Txt K mg D) (cJ:OkF P w K mg base 1 fD fu dX):cj P w K mg base CX0 2 f fd vW GX:=by
 refine F.ok NQ (fun vs H Q E h=>?_) (fun cdv A outer s H vs Q E hr h=>?_)
 .obtain ⟨c,rfl,_⟩:=h
  rfl
 .obtain ⟨c,rfl,q⟩:=h
  refine ⟨_,(bG (bQ (i:=1) NQ.nd rfl (Or.inl rfl) (bK cJ (hr.mono (by decide)) (by rfl) (bw (pv 0) (bw bC bD))))
   (bG (cW (cN mF (bL cQ (bM bN (pv 1) bC (fun _ _=>rfl)) bC) bC (cH _))
    (bI (bU (bL cT bC (bL cQ (bM bN (pv 1) bC (fun _ _=>rfl)) bC))))
    cB)
   (bI (bU (bL cT bC (bL cQ (bM bN (pv 1) bC (fun _ _=>rfl)) bC)))))),?_⟩
  unfold dX
  walk_at "rd"
  refine ⟨2,rfl,by decide,fun l xs H' S _ hl ln hx=>?_⟩
  obtain ⟨a,b,rfl⟩:=VH ln
  refine ⟨_,hl,_,cV,a,rfl,?_⟩
  split
  .refine ⟨_,hl,_,cG,b,rfl,?_⟩
   have:6 + b % 7 = ((6 + b % 7).toNat:Int):=by omega
   rw [this]
   exact q _ H' (by omega) (by omega) S
  .refine ⟨_,hl,_,cG,b,rfl,?_⟩
   have:1 + b % 5 = ((1 + b % 5).toNat:Int):=by omega
   rw [this]
   exact q _ H' (by omega) (by omega) S
noncomputable def zB:Sp:=fun vs H Q _=>∃ (c a b:Int),vs = [.int c,.int a,.int b]/\∀ (p:Addr) (x y:Int),H p = none->0 < y->Int.gcd x y = 1->x.natAbs <= 10 ^ 30->y <= 1000->Q (.ref p) (upd H p (.tup [.int x,.int y]))
theorem ZQ (F:Fun K wC wC Uz f fd) (T:Txt K mg D) (gb:OkF P w K mg base 2 jV jZ jY):cj P w K mg base CX0 3 f fd wQ zB:=by
 refine F.ok aao (fun vs H Q E h=>?_) (fun cdv A outer s H vs Q E hr h=>?_)
 .obtain ⟨p,n,y,rfl,_⟩:=h
  rfl
 .obtain ⟨c,x,y,rfl,q⟩:=h
  have lo:∀ (a b:Int) (p:Addr),0 < b->a.natAbs <= 10 ^ 30->b <= 1000->H p = none->Q (.ref p) (upd H p (.tup [.int (Ac.lw a b).1,.int (Ac.lw a b).2])):=fun a b p b0 ha hb hp=>by
   have h2:=Ac.xJ a b
   have h3:=Ac.jd (t:=a) b0
   exact q p _ _ hp h3 (Ac.ur b0) (aK (Ac.zW a b) ha) (by omega)
  refine ⟨_,(bG (cW (cN zO (bL cQ (pv 1) bC) bC (cH _))
    (bI (bU (c7 (bw (bL wz (bL cQ (pv 2) bC) bC) (bw bC bD)))))
    cB)
   (bG (cW (cN zO (bL cQ (pv 1) bC) bC (cH _))
    (bI (bU (bK gb (hr.mono (by decide)) (by rfl) (bw (bL wz (bL cQ (pv 2) bC) bC) (bw (bL cT bC (bL cQ (bL jt (pv 1) bC) bC)) bD)))))
    cB)
   (bG (cW (cN mF (bL cQ (pv 1) bC) bC (cH _))
    (bI (bU (c7 (bw (bL wz (bL cQ (pv 0) bC) bC) (bw bC bD)))))
    cB)
   (bI (bU (bK gb (hr.mono (by decide)) (by rfl) (bw (bL wz (bL cQ (bL cT (bL Lg (pv 0) bC) (pv 2)) (bL cT (bL cC bC (bL Hu bC bC)) bC)) (bL Hu bC bC)) (bw (bL cT bC (bL cQ (bL jt (pv 1) bC) bC)) bD)))))))),?_⟩
  unfold jY
  walk_at "rd"
  have b30:Bd 1000000000000000000000000000000:=Nat.lt_of_le_of_lt (aD _) (by decide +kernel)
  rw [mO _ (by decide)]
  split
  .exact ⟨dG,fun p hp=>q p _ _ hp (by decide) (by simp) (by omega) (by decide)⟩
  split
  .exact ⟨Bd.sm (by decide),by omega,Bd.sm (by omega),fun p hp=>lo _ _ p (by omega) (by omega) (by omega) hp⟩
  split
  .exact ⟨dG,fun p hp=>q p _ _ hp (by decide) (by simp) (by omega) (by decide)⟩
  .exact ⟨.inr (by constructor <;> decide),Wh (by decide) (by decide),Bd.sm (by decide),b30,Wh (by decide) (by decide),Bd.sm (by decide),by omega,Bd.sm (by omega),fun p hp=>lo _ _ p (by omega) (by omega) (by omega) hp⟩
noncomputable def zm:Sp:=fun vs H Q _=>∃ c:Int,vs = [.int c]/\∀ (p:Addr) (x y:Int) H',Same H H'->H' p = some (.tup [.int x,.int y])->0 <= x->x < y->y <= 100->Int.gcd x y = 1->Q (.ref p) H'
theorem Uh (F:Fun K rG rG EY f fd) (T:Txt K mg D) (cJ:OkF P w K mg base 1 fD fu dX) (gb:OkF P w K mg base 2 jV jZ jY):cj P w K mg base CX0 3 f fd qH zm:=by
 refine F.ok zH (fun vs H Q E h=>?_) (fun cdv A outer s H vs Q E hr h=>?_)
 .obtain ⟨c,rfl,_⟩:=h
  rfl
 .obtain ⟨c,rfl,q⟩:=h
  refine ⟨_,(bG (bQ (i:=1) zH.nd rfl (Or.inl rfl) (bK cJ (hr.mono (by decide)) (by rfl) (bw (pv 0) (bw bC bD))))
   (bG (bQ (i:=2) zH.nd rfl (Or.inl rfl) (bL cT bC (bL j8 (bM bN (pv 1) bC (fun _ _=>rfl)) (bM bN (mX (bw bC (bw bC (bw bC (bw bC bD))))) (bL cQ (bM bN (pv 1) bC (fun _ _=>rfl)) bC) (fun _ _=>rfl)))))
   (bI (bU (bK gb (hr.mono (by decide)) (by rfl) (bw (bL j8 (bM bN (pv 1) bC (fun _ _=>rfl)) (pv 2)) (bw (pv 2) bD))))))),?_⟩
  refine cM ⟨_,rfl,c,3,rfl,by decide,fun l xs H1 S1 fl hl ln hx=>?_⟩
  obtain ⟨a,b,e,rfl⟩ : ∃ a b e,xs = [a,b,e]:=by
   match xs,ln with
   | [a,b,e],_=>exact ⟨a,b,e,rfl⟩
  have xa:=hx a (by simp)
  have xe:=hx e (by simp)
  refine cM ⟨_,rfl,l,_,0,_,rfl,rfl,hl,cV,by decide,fun p1 H2 S2 f2 h2=>?_⟩
  obtain ⟨md,ed,m0,m1⟩ : ∃ md:Int,atI [V.int 4,V.int 6,V.int 10,V.int 100] (b % 4) = some (.int md)/\0 < md/\md <= 100:=by
   obtain z | z | z | z:b % 4 = 0\/b % 4 = 1\/b % 4 = 2\/b % 4 = 3:=by omega
   .exact ⟨4,by rw [z]; exact bY (j:=0) rfl,by decide,by decide⟩
   .exact ⟨6,by rw [z]; exact bY (j:=1) rfl,by decide,by decide⟩
   .exact ⟨10,by rw [z]; exact bY (j:=2) rfl,by decide,by decide⟩
   .exact ⟨100,by rw [z]; exact bY (j:=3) rfl,by decide,by decide⟩
  have hl2:=S2 _ _ hl
  refine ⟨_,rfl,l,_,1,_,rfl,rfl,hl2,cG,b,4,rfl,rfl,(show (0:Int) < 4 by decide),p1,_,_,_,rfl,rfl,h2,ed,a,md,rfl,rfl,by omega,1,_,rfl,rfl,?_⟩
  obtain ⟨t,et,t0,t1⟩ : ∃ t:Int,1 + a.fmod md = t/\1 <= t/\t <= 100:=⟨_,rfl,by rw [aV _ (by omega)]; have:=Int.emod_nonneg a (b:=md) (by omega); omega,by rw [aV _ (by omega)]; have:=Int.emod_lt_of_pos a (b:=md) m0; omega⟩
  show OD _ _ [some (.int c),some (.ref l),some (.int (1 + a.fmod md))] H2
  rw [et]
  have f0:0 <= e.fmod t:=by rw [aV _ (by omega)]; exact Int.emod_nonneg _ (by omega)
  have f1:e.fmod t < t:=by rw [aV _ (by omega)]; exact Int.emod_lt_of_pos _ (by omega)
  refine jT ⟨_,rfl,l,_,2,_,rfl,rfl,hl2,bY (j:=2) rfl,_,rfl,e,t,rfl,rfl,by omega,_,rfl,_,t,rfl,by omega,Bd.sm (by omega),fun p hp=>?_⟩
  have y0:=Ac.jd (t:=e.fmod t) (b:=t) (by omega)
  have yg:=Ac.ur (t:=e.fmod t) (b:=t) (by omega)
  have ye:=Ac.xV (t:=e.fmod t) (b:=t) (by omega)
  have y2:=Ac.xJ (e.fmod t) t
  generalize (Ac.lw (e.fmod t) t).1 = x at *
  generalize (Ac.lw (e.fmod t) t).2 = y at *
  refine q p x y _ (S1.trans (S2.trans (Same.upd hp))) bB ?_ ?_ (by omega) yg
  .refine Int.not_lt.mp fun z=>?_
   have h1:x * t < 0:=Int.mul_neg_of_neg_of_pos z (by omega)
   have h2:0 <= e.fmod t * y:=Int.mul_nonneg f0 (by omega)
   omega
  .refine Int.not_le.mp fun z=>?_
   have h1:y * t <= x * t:=Int.mul_le_mul_of_nonneg_right z (by omega)
   have h2:e.fmod t * y < t * y:=Int.mul_lt_mul_of_pos_right f1 y0
   have h3:t * y = y * t:=Int.mul_comm ..
   omega
noncomputable def ltL:List Nat:=(Str.ofString "abcdefghijklmnopqrstuvwxyz").cps.toList
theorem Wz:ltL.length = 26:=by decide +kernel
theorem W6:∀ a b:Fin 26,ltL[a.val]? = ltL[b.val]?->a = b:=by decide +kernel
theorem ZW {a b:Int} {c:Nat} (a0:0 <= a) (a1:a < 26) (b0:0 <= b) (b1:b < 26) (ha:ltL[a.toNat]? = some c) (hb:ltL[b.toNat]? = some c):a = b:=by
 have:=W6 ⟨a.toNat,by omega⟩ ⟨b.toNat,by omega⟩ (ha.trans hb.symm)
 have:=congrArg Fin.val this
 simp only at this
 omega
theorem Uj {a:Int} (a0:0 <= a) (a1:a < 26):∃ c,atI (Str.ofString "abcdefghijklmnopqrstuvwxyz").cps.toList a = some c/\ltL[a.toNat]? = some c/\tX c = true:=by
 obtain ⟨k,rfl⟩:=Int.eq_ofNat_of_zero_le a0
 have h:k < ltL.length:=by rw [Wz]; omega
 exact ⟨ltL[k],bY (aj h),aj h,decide_eq_true (aR h)⟩
noncomputable def rJ (R:Nat->Str->Prop) (D:Addr) (H:Hp) (k:Nat) (ys:List V) (Hc:Hp):Prop:=∃ ss:List Str,ys = ss.map V.str/\ss.length = k/\(∀ i x,ss[i]? = some x->R i x)/\Hc = upd H D (.lst ys)
theorem rJ.next {R:Nat->Str->Prop} {D:Addr} {H:Hp} {k:Nat} {ys:List V} {Hc:Hp} (h:rJ R D H k ys Hc) {x:Str} (h0:R k x):rJ R D H (k + 1) (ys ++ [.str x]) (upd Hc D (.lst (ys ++ [.str x]))):=by
 obtain ⟨ws,rfl,rfl,ha,rfl⟩:=h
 refine ⟨ws ++ [x],by rw [bf]; rfl,by rw [au]; rfl,fun i y hy=>?_,m6⟩
 by_cases hi:i < ws.length
 .rw [aC hi] at hy
  exact ha i y hy
 .have hl:=(ao.mp hy).1
  rw [au] at hl
  have hl:i < ws.length + 1:=hl
  have e:i = ws.length:=by omega
  subst e
  rw [aB (aD _),Nat.sub_self] at hy
  cases hy
  exact h0
theorem rJ.at_ {R:Nat->Str->Prop} {D:Addr} {H:Hp} {k:Nat} {ys:List V} {Hc:Hp} (h:rJ R D H k ys Hc):Hc D = some (.lst ys):=by
 obtain ⟨ws,rfl,hl,ha,rfl⟩:=h
 exact bB
theorem rJ.same {R:Nat->Str->Prop} {D:Addr} {H:Hp} {k:Nat} {ys:List V} {Hc:Hp} (h:rJ R D H k ys Hc) (hD:H D = none):Same H Hc:=by
 obtain ⟨ws,rfl,hl,ha,rfl⟩:=h
 exact Same.upd hD
theorem N5 {R:Nat->Str->Prop} {ss:List Str} (h:∀ i x,ss[i]? = some x->R i x) (u:∀ i j x,i < j->j < ss.length->R i x->R j x->False):ss.Nodup:=by
 unfold List.Nodup
 rw [List.pairwise_iff_getElem]
 intro i j hi hj ij e
 exact u i j ss[i] ij hj (h i _ (aj hi)) (by rw [e]; exact h j _ (aj hj))
theorem Yz {R:Nat->Str->Prop} {P:Str->Prop} {ss:List Str} (h:∀ i x,ss[i]? = some x->R i x) (u:∀ i x,i < ss.length->R i x->P x):∀ x ∈ ss,P x:=fun x hx=>by
 obtain ⟨i,hi⟩:=aU hx
 exact u i x (ao.mp hi).1 (h i x hi)
theorem Rf {x:Str} {n:Nat} : (zL x none (some (n:Int))).cps.toList = x.cps.toList.take n:=by
 unfold zL
 have hl:x.cps.toList.length = x.length:=Array.length_toList
 show ((x.cps.toList.drop 0).take (HT.sIx x.length x.length (some (n:Int)) - 0)) = _
 rw [HT.pC,List.drop_zero,Nat.sub_zero,<- hl]
 rw [List.take_eq_take_iff]
 omega
theorem H_ {x:Str} {n:Nat} : (zL x (some (n:Int)) none).cps.toList = x.cps.toList.drop n:=by
 unfold zL
 have hl:x.cps.toList.length = x.length:=Array.length_toList
 show ((x.cps.toList.drop (HT.sIx x.length 0 (some (n:Int)))).take (x.length - HT.sIx x.length 0 (some (n:Int)))) = _
 rw [HT.pC,<- hl]
 by_cases h:n <= x.cps.toList.length
 .rw [Nat.min_eq_left h]
  exact aJ (by rw [List.length_drop]; omega)
 .rw [List.drop_eq_nil_of_le (by omega:x.cps.toList.length <= n),List.drop_eq_nil_of_le (by omega),List.take_nil]
theorem G_ {ys:List V} {a b:Nat} (ab:a <= b) (h:b <= ys.length):qY ys (some (a:Int)) (some (b:Int)) = (ys.drop a).take (b - a):=by
 unfold qY
 rw [HT.pC,HT.pC,Nat.min_eq_left h,Nat.min_eq_left (aK ab h)]
theorem CP:∀ {ss:List Str},(∀ y ∈ ss,y.length = 1)->(ss.map (·.length)).sum = ss.length
 | [],_=>rfl
 | y :: ss,h=>by
  rw [List.map_cons,List.sum_cons,CP fun z hz=>h z (aG _ hz),h y aM,List.length_cons]; omega
noncomputable def nm1 (c:Nat) (i:Nat) (x:Str):Prop:=x.cps.toList = List.replicate (i + 1) c
noncomputable def nm2 (b:List Nat) (at_:Nat) (x0 st:Int) (i:Nat) (x:Str):Prop:=∃ c,ltL[((x0 + st * i) % 26).toNat]? = some c/\tX c = true/\x.cps.toList = b.take at_ ++ c :: b.drop at_
theorem WW {b:List Nat} {at_:Nat} {x0 st:Int} {i j:Nat} {x:Str} (hs:st = 1\/st = 3\/st = 5\/st = 7\/st = 9\/st = 11) (ij:i < j) (hj:j < 13) (h1:nm2 b at_ x0 st i x) (h2:nm2 b at_ x0 st j x):False:=by
 obtain ⟨c,a1,_,e1⟩:=h1
 obtain ⟨d,a2,_,e2⟩:=h2
 have e:=e1.symm.trans e2
 have e:=List.append_cancel_left e
 injection e with e _
 subst e
 have:=ZW (by omega) (by omega) (by omega) (by omega) a1 a2
 rcases hs with rfl | rfl | rfl | rfl | rfl | rfl <;> omega
theorem pA (x:Str):x.cps.toList.length = x.length:=Array.length_toList
theorem Zv {c i:Nat} {x:Str} (hc:tX c = true) (hi:i < 8) (h:nm1 c i x):Wd x:=by
 have l:=pA x
 rw [h,aL] at l
 refine ⟨?_,by omega,by omega⟩
 unfold Lt
 rw [h,List.all_eq_true]
 intro d hd
 rw [(List.mem_replicate.mp hd).2]; exact hc
theorem Zh {b:List Nat} {at_:Nat} {x0 st:Int} {i:Nat} {x:Str} (hb:b.all tX = true) (hl:b.length <= 7) (h:nm2 b at_ x0 st i x):Wd x:=by
 obtain ⟨c,_,hc,e⟩:=h
 have l:=pA x
 rw [e,au,List.length_cons,aY,List.length_drop] at l
 refine ⟨?_,by omega,by omega⟩
 unfold Lt
 rw [e,List.all_eq_true]
 rw [List.all_eq_true] at hb
 intro d hd
 rcases List.mem_append.mp hd with hd | hd
 .exact hb d (List.mem_of_mem_take hd)
 .rcases List.mem_cons.mp hd with rfl | hd
  .exact hc
  .exact hb d (List.mem_of_mem_drop hd)
noncomputable def sJN (P:Str->Prop) (D:Addr) (H:Hp) (k:Nat) (ys:List V) (Hc:Hp):Prop:=∃ ss:List Str,ys = ss.map V.str/\ss.length = k/\(∀ x ∈ ss,P x)/\Hc = upd H D (.lst ys)
theorem sJN.next {P:Str->Prop} {D:Addr} {H:Hp} {k:Nat} {ys:List V} {Hc:Hp} (h:sJN P D H k ys Hc) {x:Str} (h0:P x):sJN P D H (k + 1) (ys ++ [.str x]) (upd Hc D (.lst (ys ++ [.str x]))):=by
 obtain ⟨ws,rfl,hl,ha,rfl⟩:=h
 refine ⟨ws ++ [x],by rw [bf]; rfl,by rw [au,hl]; rfl,fun y hy=>?_,m6⟩
 rcases List.mem_append.mp hy with hy | hy
 .exact ha y hy
 .rw [List.mem_singleton.mp hy]; exact h0
theorem sJN.at_ {P:Str->Prop} {D:Addr} {H:Hp} {k:Nat} {ys:List V} {Hc:Hp} (h:sJN P D H k ys Hc):Hc D = some (.lst ys):=by
 obtain ⟨ws,rfl,hl,ha,rfl⟩:=h
 exact bB
noncomputable def vp:Sp:=fun vs H Q _=>∃ (c:Int) (n:Nat),vs = [.int c,.int n]/\n <= 12/\∀ (l:Addr) (xs:List Str) H',Same H H'->H l = none->H' l = some (.lst (xs.map V.str))->xs.length = n->(∀ x ∈ xs,Wd x)->xs.Nodup->Q (.ref l) H'
theorem Jk {a b:TT} {t v:TS} {D:Ends} {σ:L2.St} {H:Hp} (p q:Bool) (ha:∀ Q:Bool->Hp->Prop,Q p H->a σ H Q) (hb:∀ Q:Bool->Hp->Prop,Q q H->b σ H Q) (ht:(p && q) = true->t { D with nx:=v D } σ H) (hu:v D σ H):pR (Ke (Us a b) t zV) v D σ H:=by
 refine ha _ ?_
 cases p with
 | false=>exact hu
 | true =>
  refine hb _ ?_
  cases q with
  | false=>exact hu
  | true=>exact ht rfl
theorem Ud (F:Fun K qd qd sH f fd) (T:Txt K mg D) (cJ:OkF P w K mg base 1 fD fu dX):cj P w K mg base CX0 2 f fd rH vp:=by
 refine F.okB oH (fun vs H Q E h=>?_) (fun cdv A outer s H vs Q E hr h=>?_)
 .obtain ⟨c,n,rfl,_⟩:=h
  rfl
 .obtain ⟨c,n,rfl,hn,q⟩:=h
  have z1000:1000 <= sizeLine:=by decide
  have lL:(Str.ofString "abcdefghijklmnopqrstuvwxyz").length <= sizeLine:=aK (show (Str.ofString "abcdefghijklmnopqrstuvwxyz").length <= 1000 by decide +kernel) z1000
  refine ⟨_,(cg (PSB.mk (bQ (i:=2) oH.nd rfl (Or.inr rfl) mC))
   (cg (PSB.mk (bQ (i:=3) oH.nd rfl (Or.inr rfl) (bK cJ (hr.mono (by decide)) (by rfl) (bw (pv 0) (bw bC bD)))))
   (cg (PSB.mk (cW (PW.pt (pw_and (cN mF (bL cQ (bM bN (pv 3) bC (fun _ _=>rfl)) bC) bC (cH _)) (pw_and1 (cN M9 (pv 1) bC (cH _)))))
    (bI (bU (jl (bH sH) oZ oZ ["_law_k"] (jk (by rfl) T.mW (bw (pv 1) bD).mono) (dU (i:=0)) cU (bL VD (bM Kq (pv 3) (bL cQ (bM bN (pv 4) bC (fun _ _=>rfl)) bC) (fun _ _=>rfl)) (bL cT (pv 0) bC)))))
    cB))
   (cg (PSB.mk (bQ (i:=4) oH.nd rfl (Or.inr rfl) (acw PySem.F.slot_str_join PySem.F.type_str_join Ww mC (bw (jl (bH sH) oZ oZ ["_law_x"] (cX ((kZ sJ (pv 3) (iB bC) (iB (bL cT bC (bL cQ (bM bN (pv 3) bC (fun _ _=>rfl)) bC))))).mono) (dU (i:=0)) cU (bM Kq (pv 3) (bL cQ (pv 0) bC) (fun _ _=>rfl))) bD))))
   (cg (PSB.mk (bQ (i:=5) oH.nd rfl (Or.inr rfl) (bL cQ (bM bN (pv 3) bC (fun _ _=>rfl)) bC)))
   (cg (Xg (i:=6) oH.nd rfl (Or.inr rfl) (Wf (Yp (Dw sO (Dw sO (Dw sO (Dw sO (Dw sO (Dw sO X8))))))) (bL cQ (bM bN (pv 3) bC (fun _ _=>rfl)) bC) (fun _ _=>rfl)))
   (uU (PSB.mk (bU (jl (bH sH) oZ oZ ["_law_k"] (jk (by rfl) T.mW (bw (pv 1) bD).mono) (dU (i:=0)) cU (bL Mz (bL Mz (kZ UL (pv 5) DP (iB (pv 6))) (bM Kq (pv 3) (bL cQ (bL cT (bM bN (pv 4) bC (fun _ _=>rfl)) (bL cC (pv 7) (pv 0))) bC) (fun _ _=>rfl))) (kZ UL (pv 5) (iB (pv 6)) DP)))))))))))),?_⟩
  unfold dX
  refine ⟨_,rfl,c,11,rfl,by decide,fun l xs H1 S1 hl hl1 hx hr'=>?_⟩
  have at_:∀ j,j < 11->∃ y,atI (xs.map V.int) (j:Nat) = some (.int y)/\0 <= y:=fun j hj=>by
   have:j < xs.length:=by omega
   exact ⟨xs[j],bY (j:=j) (by rw [aq,aj this]; rfl),(hr' _ (aR this)).1⟩
  obtain ⟨x0,a0,p0⟩:=at_ 0 (by decide)
  obtain ⟨x1,a1,p1⟩:=at_ 1 (by decide)
  obtain ⟨x9,a9,p9⟩:=at_ 9 (by decide)
  obtain ⟨x10,a10,p10⟩:=at_ 10 (by decide)
  dsimp only [cL]
  refine Jk (decide (x0 % 3 = 1)) (decide ((n:Int) <= 8)) (fun Q' hq=>?_) (fun Q' hq=>?_) (fun hc=>?_) ?_
  .walk_at "rd"
   exact ⟨_,hl1,_,a0,_,rfl,hq⟩
  .walk_at "rd"
   exact hq
  .simp only [Bool.and_eq_true,decide_eq_true_eq] at hc
   obtain ⟨c1,e1,g1,lc1⟩:=Uj (a:=x1 % 26) (by omega) (by omega)
   refine kO ?_
   walk_at "rd"
   refine ⟨n,rfl,by omega,fun D2 hD2=>⟨rJ (nm1 c1) D2 H1,⟨[],rfl,rfl,by simp,rfl⟩,?_,?_⟩⟩
   .rintro k ys Hc hk j hy
    have hlc:Hc l = some (.lst (xs.map V.int)):=j.same hD2 _ _ hl1
    unfold Yu
    walk_at "rd"
    refine ⟨_,hlc,_,a1,_,rfl,lL,c1,e1,c1,rfl,by omega,by omega,fun z hz=>⟨j.at_,j.next ?_⟩⟩
    rw [show ((k:Int) + 1).toNat = k + 1 by omega] at hz
    exact hz
   .rintro ys Hc ⟨ss,rfl,hsl,hss,rfl⟩ hy
    refine q D2 ss _ (S1.trans (Same.upd hD2)) (Same.free S1 hD2) bB hsl (Yz hss fun i x hi h=>Zv lc1 (by omega) h) (N5 hss fun i j x ij hj h1 h2=>?_)
    have:=congrArg List.length (h1.symm.trans h2)
    rw [aL,aL] at this
    omega
  .walk_at "rd"
   refine dB ?_
   walk_at "rd"
   obtain ⟨m,em,hm⟩ : ∃ m:Nat,x1 % 8 = m/\m <= 7:=⟨(x1 % 8).toNat,by omega,by omega⟩
   refine ⟨_,hl1,_,a1,_,rfl,_,.of hl1,fun p hp=>?_⟩
   have ec:qY (xs.map V.int) (some 2) (some (2 + x1 % 8)) = ((xs.drop 2).take m).map V.int:=by
    rw [em,List.map_take,List.map_drop]
    have:=G_ (ys:=xs.map V.int) (a:=2) (b:=2 + m) (by omega) (by rw [ak]; omega)
    rw [show 2 + m - 2 = m by omega] at this
    exact this
   rw [ec]
   have ml:((xs.drop 2).take m).length = m:=by rw [aY,List.length_drop]; omega
   have S2:Same H1 (upd H1 p (.lst (((xs.drop 2).take m).map V.int))):=Same.upd hp
   generalize upd H1 p (.lst (((xs.drop 2).take m).map V.int)) = H2 at S2 ⊢
   generalize (xs.drop 2).take m = us at ml ⊢
   refine ⟨by rw [ak]; omega,fun D1 hD1=>⟨sJN (fun x=>Lt x/\x.length = 1) D1 H2,⟨[],rfl,rfl,by simp,rfl⟩,?_,?_⟩⟩
   .rintro k y1 ys Hc hk j hy hpc
    rw [aq] at hk
    cases er:us[k]? with
    | none=>rw [er] at hk; cases hk
    | some i =>
     rw [er] at hk
     cases hk
     obtain ⟨c',e',hc'⟩:=Lt.one (Int.emod_nonneg i (show (26:Int) ≠ 0 by decide)) (Int.emod_lt_of_pos i (by decide))
     exact ⟨i,rfl,lL,c',e',j.at_,hpc,j.next ⟨hc',rfl⟩⟩
   .rintro ys Hc ⟨ss,rfl,hl8,hss,rfl⟩ hy
    rw [ak,ml] at hl8
    have stL:Lt (Txt.join (Str.ofString "") ss):=Lt.glued fun y hy=>(hss y hy).1
    have sum1:(ss.map (·.length)).sum = m:=by rw [CP fun y hy=>(hss y hy).2,hl8]
    have e0:(Str.ofString "").length = 0:=by decide +kernel
    have stN:(Txt.join (Str.ofString "") ss).length = m:=by
     show (Builtin.Str.glued (Str.ofString "") ss).length = m
     rw [size_glued,sum1,e0,Nat.mul_zero]; rfl
    have S3:Same H (upd H2 D1 (.lst (ss.map V.str))):=S1.trans (S2.trans (Same.upd hD1))
    have hl3:upd H2 D1 (.lst (ss.map V.str)) l = some (.lst (xs.map V.int)):=Same.upd hD1 _ _ (S2 _ _ hl1)
    refine ⟨ss,bB,by rw [sum1,e0]; omega,?_⟩
    generalize upd H2 D1 (.lst (ss.map V.str)) = H3 at S3 hl3 ⊢
    generalize Txt.join (Str.ofString "") ss = st at stL stN ⊢
    refine ⟨_,hl3,_,a9,_,rfl,by decide,fun p2 hp2=>?_⟩
    have hl4:upd H3 p2 (.lst [.int 1,.int 3,.int 5,.int 7,.int 9,.int 11]) l = some (.lst (xs.map V.int)):=Same.upd hp2 _ _ hl3
    have S4:Same H (upd H3 p2 (.lst [.int 1,.int 3,.int 5,.int 7,.int 9,.int 11])):=S3.trans (Same.upd hp2)
    have hp4:upd H3 p2 (.lst [.int 1,.int 3,.int 5,.int 7,.int 9,.int 11]) p2 = some (.lst [.int 1,.int 3,.int 5,.int 7,.int 9,.int 11]):=bB
    generalize upd H3 p2 (.lst [.int 1,.int 3,.int 5,.int 7,.int 9,.int 11]) = H4 at S4 hl4 hp4 ⊢
    refine ⟨_,hl4,_,a10,_,rfl,?_⟩
    obtain ⟨sv,es,hs⟩ : ∃ sv:Int,atI [V.int 1,V.int 3,V.int 5,V.int 7,V.int 9,V.int 11] (x10 % 6) = some (.int sv)/\(sv = 1\/sv = 3\/sv = 5\/sv = 7\/sv = 9\/sv = 11):=by
     obtain e | e | e | e | e | e:x10 % 6 = 0\/x10 % 6 = 1\/x10 % 6 = 2\/x10 % 6 = 3\/x10 % 6 = 4\/x10 % 6 = 5:=by omega
     .exact ⟨1,by rw [e]; exact bY (j:=0) rfl,by decide⟩
     .exact ⟨3,by rw [e]; exact bY (j:=1) rfl,by decide⟩
     .exact ⟨5,by rw [e]; exact bY (j:=2) rfl,by decide⟩
     .exact ⟨7,by rw [e]; exact bY (j:=3) rfl,by decide⟩
     .exact ⟨9,by rw [e]; exact bY (j:=4) rfl,by decide⟩
     .exact ⟨11,by rw [e]; exact bY (j:=5) rfl,by decide⟩
    obtain ⟨ap,eap,hap⟩ : ∃ ap:Nat,x9 % 8 = ap/\ap <= 7:=⟨(x9 % 8).toNat,by omega,by omega⟩
    refine ⟨_,es,kO ?_⟩
    rw [eap]
    walk_at "rd"
    refine ⟨n,rfl,by omega,fun D2 hD2=>⟨rJ (nm2 st.cps.toList ap x0 sv) D2 H4,⟨[],rfl,rfl,by simp,rfl⟩,?_,?_⟩⟩
    .rintro k ys Hc hk j hy
     have hlc:Hc l = some (.lst (xs.map V.int)):=j.same hD2 _ _ hl4
     obtain ⟨c2,e2,g2,lc2⟩:=Uj (a:=(x0 + sv * k) % 26) (by omega) (by omega)
     have t1:(zL st none (some (ap:Int))).length <= 7:=by rw [<- pA,Rf,aY,pA]; omega
     have t2:(zL st (some (ap:Int)) none).length <= 7:=by rw [<- pA,H_,List.length_drop,pA]; omega
     have t3:({ cps:=#[c2] } : Str).length = 1:=rfl
     refine ⟨by omega,_,hlc,_,a0,Bd.sm (by omega),Bd.sm (by omega),_,rfl,lL,c2,e2,by omega,by omega,by rw [Xn]; omega,j.at_,j.next ⟨c2,g2,lc2,?_⟩⟩
     rw [Mu,Mu,Rf,H_,List.append_assoc]; rfl
    .rintro ys Hc ⟨ns,rfl,hsl,hns,rfl⟩ hy
     refine q D2 ns _ (S4.trans (Same.upd hD2)) (Same.free S4 hD2) bB hsl (Yz hns fun i x hi h=>Zh stL (by rw [pA]; omega) h) (N5 hns fun i j x ij hj h1 h2=>WW hs ij (by omega) h1 h2)
noncomputable def clsOf (D:Adr) (so:Int):Addr:=if so = 0 then D.Sure else if so = 1 then D.Toss else if so = 2 then D.Even else D.Mixed
structure Drawn (so:Int) (rs:List Str) (ws:List Int) (S:Int):Prop where
 s0:0 <= so
 s3:so <= 3
 len:rs.length = ws.length
 wt:Wt (rs.zip ws) S
 ne:1 <= rs.length
 a0:so = 0->rs.length = 1/\ws = [1]/\S = 1
 a1:so = 1->rs.length = 2
 a2:so = 2->ws = List.replicate rs.length 1/\S = rs.length
theorem HB:∀ rs:List Str,rs.zip (List.replicate rs.length (1:Int)) = rs.map fun r=>(r,(1:Int))
 | []=>rfl
 | r :: rs=>by rw [List.length_cons,List.replicate_succ,List.zip_cons_cons,HB rs]; rfl
structure PI (H:Hp) (ps:List V) (rs:List Nat) (ws:List Int) (S:Int):Prop where
 len:ps.length = rs.length
 at_:∀ (k r:Nat) (x:Int),rs[k]? = some r->ws[k]? = some x->∃ t c:Addr,ps[k]? = some (.ref t)/\H t = some (.tup [.int (r:Nat),.ref c])/\H c = some (.tup [.int (Ac.lw x S).1,.int (Ac.lw x S).2])
theorem PI.same {H H':Hp} {ps:List V} {rs:List Nat} {ws:List Int} {S:Int} (h:PI H ps rs ws S) (T:Same H H'):PI H' ps rs ws S:=⟨h.len,fun k r x e1 e2=>let ⟨t,c,a,b,d⟩:=h.at_ k r x e1 e2; ⟨t,c,a,T _ _ b,T _ _ d⟩⟩
noncomputable def v9 (ns:List Str) (rs:List Nat) (nms:List Str):Prop:=nms.length = rs.length/\∀ (k r:Nat) (m:Str),rs[k]? = some r->nms[k]? = some m->ns[r]? = some m
noncomputable def vf (K:Frag) (D:Adr):Sp:=fun vs H Q _=>∃ (so:Int) (d n lp p:Addr) (t:Str) (x y S:Int) (rs:List Nat) (ws:List Int) (ps:List V) (ns nms:List Str),vs = [.str t,.ref d,.ref n]/\H d = some (.tup [.int so,.ref p,.ref lp])/\Wd t/\Fk K H p x y/\H lp = some (.lst ps)/\PI H ps rs ws S/\H n = some (.lst (ns.map V.str))/\v9 ns rs nms/\Drawn so nms ws S /\
 ∀ H' s ld ys us,Same H H'->H s = none->H ld = none->N6 K H' s (clsOf D so) t p (Ac.ways (nms.zip ws) S) ld ys us->Q (.ref s) H'
noncomputable def bJ (D1:Addr) (gs:List (Str × Int)) (S:Int) (H:Hp) (k:Nat) (ys:List V) (H':Hp):Prop:=Same H H'/\H' D1 = some (.lst ys)/\PW H' ys (gs.take k) S
noncomputable def eJ (D1:Addr) (ss:List Str) (H:Hp) (k:Nat) (ys:List V) (H':Hp):Prop:=Same H H'/\H' D1 = some (.lst ys)/\ys = (ss.take k).map V.str
theorem PW.snocT {H:Hp} {xs:List V} {gs:List (Str × Int)} {S x:Int} {m:Str} {t c:Addr} (h:PW H xs gs S) (ht:H t = some (.tup [.str m,.ref c])) (hc:H c = some (.tup [.int (Ac.lw x S).1,.int (Ac.lw x S).2])):PW H (xs ++ [.ref t]) (gs ++ [(m,x)]) S:=by
 refine ⟨by rw [au,au,h.len]; rfl,fun k g' e=>?_⟩
 by_cases hk:k < gs.length
 .rw [aC hk] at e
  obtain ⟨t',c',a,b⟩:=h.at_ k g' e
  exact ⟨t',c',by rw [aC (by rw [h.len]; exact hk)]; exact a,b⟩
 .rw [aB (by omega)] at e
  have e0:k - gs.length = 0:=by
   have:=(ao.mp e).1
   simp at this; omega
  rw [e0] at e
  cases e
  refine ⟨t,c,?_,ht,hc⟩
  rw [aB (by rw [h.len]; omega),h.len,e0]; rfl
theorem R8 (F:Fun K rQ rQ vX f fd) (T:Txt K mg D) (pO:OkI P w K mg base (CXO P w) 5 D.Sure_init jy (lM (K:=K) D)) (dD:OkI P w K mg base (CXO P w) 5 D.Mixed_init eU (dW K D)) (pB:OkI P w K mg base (CXO P w) 6 D.Toss_init jR (lO K D))
  (o_:OkI P w K mg base (CXO P w) 6 D.Even_init jA (lQ K D)):cj P w K mg base CX0 8 f fd qg (vf K D):=by
 refine F.ok rM (fun vs H Q E h=>?_) (fun cdv A outer s H vs Q E hr h=>?_)
 .obtain ⟨so,d,n,lp,p,t,x,y,S,rs,ws,ps,ns,nms,rfl,_⟩:=h
  rfl
 .obtain ⟨so,d,n,lp,p,t,x,y,S,rs,ws,ps,ns,nms,rfl,hd,ht,hf,hlp,hp,hns,no,dr,q⟩:=h
  have fam:∀ C,(C = D.Sure\/C = D.Mixed\/C = D.Toss\/C = D.Even)->Fam D C:=by
   intro C hC
   unfold Fam
   rcases hC with h | h | h | h <;> simp [h]
  have s0:=dr.s0
  have s3:=dr.s3
  have hlen:=dr.len
  have gl:(nms.zip ws).length = nms.length:=by rw [List.length_zip]; omega
  have g8:=dr.wt.len
  have z9:100 < sizeLine:=by decide
  refine ⟨_,(bG (Gq (pv 1) (fX (n:=3) rfl (cu (cF (i:=4) rM.nd rfl (Or.inl rfl)) (cu (cF (i:=5) rM.nd rfl (Or.inl rfl)) (cu (cF (i:=6) rM.nd rfl (Or.inl rfl)) fK)))))
   (bG (Ml (bH vX) uW uW ["_law_room", "_law_chance"] (cX ((pv 6)).mono) (fX (n:=2) rfl (cu (dU (i:=0)) (cu (dU (i:=1)) fK))) cU (c7 (bw (bM bN (pv 4) (pv 0) (fun _ _=>rfl)) (bw (pv 1) bD))) (cF (i:=3) rM.nd rfl (Or.inl rfl)))
   (bG (cW (cN mF (pv 4) bC (cH _))
    (bI (bU (pZ T.Wu pO (hr.mono (by decide)) (by rfl) T.YX uD (bw (pv 0) (bw (pv 5) (bw (bM bV (bM bN (pv 3) bC (fun _ _=>rfl)) bC (fun _ _=>rfl)) bD))))))
    cB)
   (bG (cW (cN mF (pv 4) bC (cH _))
    (bI (bU (pZ T.Ye pB (hr.mono (by decide)) (by rfl) T.ZM uD (bw (pv 0) (bw (pv 5) (bw (bM bV (bM bN (pv 3) bC (fun _ _=>rfl)) bC (fun _ _=>rfl)) (bw (bM bV (bM bN (pv 3) bC (fun _ _=>rfl)) bC (fun _ _=>rfl)) (bw (bM bV (bM bN (pv 3) bC (fun _ _=>rfl)) bC (fun _ _=>rfl)) bD))))))))
    cB)
   (bG (cW (cN mF (pv 4) bC (cH _))
    (bI (bU (pZ T.V2 o_ (hr.mono (by decide)) (by rfl) T.Zx uD (bw (pv 0) (bw (pv 5) (bw (jl (bH vX) uW uW ["_law_room", "_law_chance"] (cX ((pv 3)).mono) (fX (n:=2) rfl (cu (dU (i:=0)) (cu (dU (i:=1)) fK))) cU (pv 0)) bD))))))
    cB)
   (bI (bU (pZ T.Rr dD (hr.mono (by decide)) (by rfl) T.Ej uD (bw (pv 0) (bw (pv 5) (bw (pv 3) bD))))))))))),?_⟩
  unfold lM lO lQ dW
  walk_at "rd"
  refine ⟨_,hd,rfl,_,_,rfl,_,_,rfl,_,_,rfl,rfl,m7 ?_⟩
  walk_at "rd"
  have l100:ps.length <= sizeLine:=by rw [hp.len,<- no.1]; omega
  refine ⟨ps,hlp,l100,fun D1 hD=>⟨bJ D1 (nms.zip ws) S H,⟨Same.upd hD,bB,rfl,fun k g e=>by simp at e⟩,?_,?_⟩⟩
  .rintro k v ys Hc hk ⟨S1,h1,pw⟩ hy hlc pre hpre
   have lk:k < rs.length:=by rw [<- hp.len]; exact (ao.mp hk).1
   have e1:rs[k]? = some rs[k]:=aj lk
   have e2:nms[k]? = some (nms[k]'(by rw [no.1]; exact lk)):=aj _
   have e3:ws[k]? = some (ws[k]'(by rw [<- hlen,no.1]; exact lk)):=aj _
   have eg:(nms.zip ws)[k]? = some (nms[k]'(by rw [no.1]; exact lk),ws[k]'(by rw [<- hlen,no.1]; exact lk)):=List.getElem?_zip_eq_some.mpr ⟨e2,e3⟩
   have en:=no.2 _ _ _ e1 e2
   obtain ⟨tt,c,ea,eb,ec⟩:=(hp.same S1).at_ k _ _ e1 e3
   rw [hk] at ea
   cases ea
   generalize rs[k] = r at *
   generalize nms[k]'(by rw [no.1]; exact lk) = m at *
   generalize ws[k]'(by rw [<- hlen,no.1]; exact lk) = z at *
   obtain ⟨u1,u2,rfl⟩:=qx hpre
   walk_at "rd"
   refine ⟨_,eb,rfl,_,_,rfl,_,_,rfl,rfl,[_,_],rfl,rfl,?_⟩
   refine ⟨_,_,rfl,S1 _ _ hns,_,bY (by rw [aq,en]; rfl),dG,fun p1 hp1=>?_⟩
   have nD:D1 ≠ p1:=bA h1 hp1
   refine ⟨(bF nD).trans h1,(bF (bA hlc hp1)).trans hlc,fun b o e=>(bF (bA e hD)).trans ((bF (bA (S1 _ _ e) hp1)).trans (S1 _ _ e)),bB,?_⟩
   rw [cD eg]
   refine (pw.imp fun t ys e=>?_).snocT (c:=c) ?_ ?_
   .exact (bF (eV e h1 (by intro z; cases z))).trans ((bF (bA e hp1)).trans e)
   .exact (bF nD.symm).trans bB
   .exact (bF (eV ec h1 (by intro z; cases z))).trans ((bF (bA ec hp1)).trans ec)
  .rintro ys Hc ⟨S1,h1,pw⟩ hy
   rw [hp.len,<- no.1,<- gl,aN] at pw
   have hw:=ht.word
   have h1000:t.length <= 1000:=aK ht.hi (by decide)
   have hf':=hf.same S1
   have mk:∀ {G:Hp} {C s dx:Addr},G s = none->G dx = none->¬ dx = s->Same G (upd (upd G dx (.own s)) s (.ins C dx [])):=fun {G C s dx} h1 h2 h3 b o e=>by
    rw [bF (bA e h1),bF (bA e h2)]; exact e
   have kp:∀ {G:Hp} {C s dx:Addr} {H':Hp},Same H G->G s = none->G dx = none->¬ dx = s->Keep s (upd (upd G dx (.own s)) s (.ins C dx [])) H'->Same H H':=fun {G C s dx H'} SG h1 h2 h3 k b o e=>k b o (bA (SG _ _ e) h1) (mk h1 h2 h3 b o (SG _ _ e))
   obtain e | e | e | e:so = 0\/so = 1\/so = 2\/so = 3:=by omega
   .subst e
    obtain ⟨l1,rfl,rfl⟩:=dr.a0 rfl
    obtain ⟨r,rfl⟩:=List.length_eq_one_iff.mp l1
    have wr:=dr.wt.wd (r,1) (by simp)
    obtain ⟨t0,c0,ea,eb,ec⟩:=pw.at_ 0 (r,1) rfl
    rw [if_pos (by decide)]
    refine ⟨_,h1,_,bY (j:=0) ea,t0,rfl,_,eb,_,cV,fun o dx h1 h2 h3=>⟨dx,r,rfl,rfl,h1000,hw,wr.1,wr.2,⟨x,y,hf'.same (mk h1 h2 h3)⟩,fun t l H' f k e1 e2 e3=>?_⟩⟩
    refine q H' o l [.ref t] [(r,D.ONE)] (kp S1 h1 h2 h3 k) (Same.free S1 h1) (Same.free S1 (Same.free (mk h1 h2 h3) f)) ⟨⟨dx,e3⟩,e2,?_⟩
    show WF K H' [.ref t] (Ac.ways [(r,1)] 1) [(r,D.ONE)]
    rw [Ac.Tw]
    exact .cons e1 (T.zJ H') .nil
   .subst e
    have l2:=dr.a1 rfl
    obtain ⟨r1,r2,rfl⟩:=qx l2
    obtain ⟨w1,w2,rfl⟩:=qx (hlen.symm.trans l2)
    have wt:=dr.wt
    have es:w2 = S - w1:=by
     have:=wt.sum
     simp at this
     omega
    subst es
    obtain ⟨t0,c0,ea,eb,ec⟩:=pw.at_ 0 (r1,w1) rfl
    obtain ⟨t1,c1,fa,fb,fc⟩:=pw.at_ 1 (r2,S - w1) rfl
    rw [if_neg (by decide),if_pos (by decide)]
    refine ⟨_,h1,_,bY (j:=0) ea,t0,rfl,_,eb,_,cG,_,h1,_,bY (j:=0) ea,t0,rfl,_,eb,_,cV,_,h1,_,bY (j:=1) fa,t1,rfl,_,fb,_,cV,fun o dx h1' h2 h3=>?_⟩
    refine ⟨dx,r1,r2,c0,rfl,rfl,rfl,rfl,h1000,hw,⟨x,y,hf'.same (mk h1' h2 h3)⟩,w1,S,mk h1' h2 h3 _ _ ec,wt,fun H' ld ys us f k d=>?_⟩
    exact q H' o ld ys us (kp S1 h1' h2 h3 k) (Same.free S1 h1') (Same.free S1 (Same.free (mk h1' h2 h3) f)) d
   .subst e
    obtain ⟨ew,rfl⟩:=dr.a2 rfl
    subst ew
    have hz:nms.zip (List.replicate nms.length (1:Int)) = nms.map fun r=>(r,(1:Int)):=HB nms
    have wt:=dr.wt
    rw [hz] at wt q
    rw [if_neg (by decide),if_neg (by decide),if_pos (by decide)]
    refine m7 ?_
    walk_at "rd"
    have ml:(nms.map fun r=>(r,(1:Int))).length = nms.length:=ak ..
    rw [hz] at pw
    refine ⟨ys,h1,by rw [pw.len,ml]; omega,fun D2 hD2=>⟨eJ D2 nms Hc,⟨Same.upd hD2,bB,rfl⟩,?_,?_⟩⟩
    .rintro k v zs H3 hk ⟨S3,h3,ez⟩ hy3 h13 pre hpre
     have lk:k < nms.length:=by rw [<- ml,<- pw.len]; exact (ao.mp hk).1
     have e2:nms[k]? = some nms[k]:=aj lk
     obtain ⟨t0,c0,ea,eb,ec⟩:=pw.at_ k (nms[k],1) (by rw [aq,e2]; rfl)
     rw [hk] at ea
     cases ea
     generalize nms[k] = m at *
     obtain ⟨u1,u2,rfl⟩:=qx hpre
     walk_at "rd"
     refine ⟨_,S3 _ _ eb,rfl,_,_,rfl,_,_,rfl,rfl,[_,_],rfl,rfl,?_⟩
     refine ⟨h3,h13,fun b o e=>(bF (bA e hD2)).trans (S3 _ _ e),bB,?_⟩
     rw [cD e2,bf,ez]; rfl
    .rintro zs H3 ⟨S3,h3,ez⟩ hy3 o dx h1' h2 h3'
     rw [pw.len,ml,aN] at ez
     subst ez
     refine ⟨⟨dx,rfl⟩,h1000,hw,⟨x,y,(hf'.same S3).same (mk h1' h2 h3')⟩,nms,mk h1' h2 h3' _ _ h3,wt,fun H' ld ys us f k d=>?_⟩
     exact q H' o ld ys us (kp (S1.trans S3) h1' h2 h3' k) (Same.free (S1.trans S3) h1') (Same.free (S1.trans S3) (Same.free (mk h1' h2 h3') f)) d
   .subst e
    rw [if_neg (by decide),if_neg (by decide),if_neg (by decide)]
    intro o dx h1' h2 h3
    refine ⟨dx,D.Mixed,rfl,fam _ (by simp),h1000,hw,⟨x,y,hf'.same (mk h1' h2 h3)⟩,ys,mk h1' h2 h3 _ _ h1,_,_,pw.same (mk h1' h2 h3),dr.wt,fun H' ld ys us f k d=>?_⟩
    exact q H' o ld ys us (kp S1 h1' h2 h3 k) (Same.free S1 h1') (Same.free S1 (Same.free (mk h1' h2 h3) f)) d
theorem GR {t b:Int} : Ac.lw (b - t) b = ((Ac.lw t b).2 - (Ac.lw t b).1,(Ac.lw t b).2):=by
 unfold Ac.lw
 rw [Int.gcd_self_sub_left,Int.sub_ediv_of_dvd b (Int.gcd_dvd_left t b)]
theorem NT {b:Int} : Ac.lw 1 b = (1,b):=by
 unfold Ac.lw
 rw [Int.one_gcd]
 simp
structure Xq (x y:Int):Prop where
 gcd:Int.gcd x y = 1
 sa:x.natAbs <= 10 ^ 30
 sb:y <= 1000
structure oX (n:Nat) (so:Int) (rs:List Nat) (ws:List Int) (S:Int):Prop where
 s0:0 <= so
 s3:so <= 3
 len:rs.length = ws.length
 pos:0 < S
 le:S <= 10 ^ 20
 l8:rs.length <= 8
 lo:∀ x ∈ ws,0 <= x
 sum:ws.sum = S
 ne:1 <= rs.length
 a0:so = 0->rs.length = 1/\ws = [1]/\S = 1
 a1:so = 1->rs.length = 2
 a2:so = 2->ws = List.replicate rs.length 1/\S = rs.length
 lt:∀ r ∈ rs,r < n
theorem oX.drawn {n:Nat} {so S:Int} {rs:List Nat} {ws:List Int} {ns nms:List Str} (h:oX n so rs ws S) (no:v9 ns rs nms) (hw:∀ m ∈ ns,Wd m):Drawn so nms ws S:=by
 have e:=no.1
 have l:=h.len
 refine ⟨h.s0,h.s3,by omega,⟨h.pos,h.le,?_,fun g hg=>?_,fun g hg=>?_,?_⟩,by rw [e]; exact h.ne,fun z=>by rw [e]; exact h.a0 z,fun z=>by rw [e]; exact h.a1 z,fun z=>by rw [e]; exact h.a2 z⟩
 .rw [List.length_zip]
  have:=h.l8
  omega
 .obtain ⟨k,hk⟩:=aU hg
  obtain ⟨a,b⟩:=List.getElem?_zip_eq_some.mp hk
  have lk:=(ao.mp a).1
  have er:rs[k]? = some (rs[k]'(by omega)):=aj _
  have w:=hw _ (aA (no.2 k _ _ er a))
  exact ⟨aK w.hi (by decide),w.word⟩
 .exact h.lo _ (List.of_mem_zip hg).2
 .have:(nms.zip ws).map (·.2) = ws:=List.map_snd_zip (by omega)
  rw [this]; exact h.sum
theorem gY {t v:TS} {D:Ends} {σ:L2.St} {H:Hp} {i k:Int} (hσ:σ[4]? = some (some (.int i))) (ne:i ≠ k) (h:v D σ H):pR (Ke (Bc (tOp rEq (Aa 4) (tC (.int k)))) t zV) v D σ H:=by
 refine ⟨_,hσ,rfl,_,rfl,?_⟩
 dsimp only
 rw [if_neg (by simp [ne])]
 exact h
theorem tY {t v:TS} {D:Ends} {σ:L2.St} {H:Hp} {i k:Int} (hσ:σ[4]? = some (some (.int i))) (e:i = k) (h:∀ Kn:L2.St->Hp->Prop,(∀ σ' H',v D σ' H'->Kn σ' H')->t { D with nx:=Kn } σ H):pR (Ke (Bc (tOp rEq (Aa 4) (tC (.int k)))) t zV) v D σ H:=by
 refine ⟨_,hσ,rfl,_,rfl,?_⟩
 dsimp only
 rw [if_pos (by simp [e])]
 exact h _ fun _ _ z=>z
theorem PI.imp {H H':Hp} {ps:List V} {rs:List Nat} {ws:List Int} {S:Int} (T:∀ t ys,H t = some (.tup ys)->H' t = some (.tup ys)) (h:PI H ps rs ws S):PI H' ps rs ws S:=⟨h.len,fun k r x e1 e2=>let ⟨t,c,a,b,d⟩:=h.at_ k r x e1 e2; ⟨t,c,a,T _ _ b,T _ _ d⟩⟩
theorem PI.snoc {H:Hp} {ps:List V} {rs:List Nat} {ws:List Int} {S x:Int} {r:Nat} {t c:Addr} (h:PI H ps rs ws S) (hl:ws.length = rs.length) (ht:H t = some (.tup [.int r,.ref c])) (hc:H c = some (.tup [.int (Ac.lw x S).1,.int (Ac.lw x S).2])):PI H (ps ++ [.ref t]) (rs ++ [r]) (ws ++ [x]) S:=by
 refine ⟨by rw [au,au,h.len]; rfl,fun k r' x' e1 e2=>?_⟩
 by_cases hk:k < rs.length
 .rw [aC hk] at e1
  rw [aC (by omega)] at e2
  obtain ⟨t',c',a,b⟩:=h.at_ k r' x' e1 e2
  exact ⟨t',c',by rw [aC (by rw [h.len]; exact hk)]; exact a,b⟩
 .rw [aB (by omega)] at e1
  rw [aB (by omega)] at e2
  have e0:k - rs.length = 0:=by
   have:=(ao.mp e1).1
   simp at this; omega
  rw [e0] at e1
  rw [hl,e0] at e2
  cases e1
  cases e2
  refine ⟨t,c,?_,ht,hc⟩
  rw [aB (by rw [h.len]; omega),h.len,e0]; rfl
theorem Ln {ys:List V} {n:Nat} (h:n <= ys.length):qY ys none (some (n:Int)) = ys.take n:=by
 unfold qY
 rw [HT.pC,Nat.min_eq_left h]
 show ((ys.drop 0).take (n - 0)) = _
 rw [List.drop_zero,Nat.sub_zero]
theorem Pa (n:Nat):(List.replicate n (1:Int)).sum = n:=by
 induction n with
 | zero=>rfl
 | succ n ih=>rw [List.replicate_succ,List.sum_cons,ih]; omega
noncomputable def evJ (D1:Addr) (rs:List Nat) (ws:List Int) (S:Int) (H:Hp) (k:Nat) (ys:List V) (H':Hp):Prop:=Same H H'/\H' D1 = some (.lst ys)/\PI H' ys (rs.take k) (ws.take k) S
noncomputable def weJ (D1:Addr) (H:Hp) (k:Nat) (ys:List V) (H':Hp):Prop:=∃ ws:List Int,ys = ws.map V.int/\ws.length = k/\(∀ x ∈ ws,0 <= x/\x <= 1000)/\Same H H'/\H' D1 = some (.lst ys)
theorem Dt:∀ l:List Int,(∀ x ∈ l,0 <= x/\x <= 1001)->0 <= l.sum/\l.sum <= 1001 * l.length/\∀ x ∈ l,x <= l.sum
 | [],_=>⟨by simp,by simp,by simp⟩
 | a :: l,h=>by
  obtain ⟨h1,h2,h3⟩:=Dt l fun x hx=>h x (aG _ hx)
  have h0:=h a aM
  rw [List.sum_cons,List.length_cons]
  refine ⟨by omega,by omega,fun x hx=>?_⟩
  rcases List.mem_cons.mp hx with rfl | hx
  .omega
  .have:=h3 x hx
   omega
theorem RJ {n:Nat} (h:1 <= n):ixN n (-1) = some (n - 1):=by
 unfold ixN
 rw [if_neg (by omega),if_pos (by omega)]
 congr 1
 omega
theorem Vw {α:Type} : ∀ {l:List α},l.length = 4->∃ a b c d,l = [a,b,c,d]
 | [a,b,c,d],_=>⟨a,b,c,d,rfl⟩
noncomputable def Z1 (D1:Addr) (n:Nat) (H:Hp) (k:Nat) (ys:List V) (Hc:Hp):Prop:=∃ r4:List Nat,ys = (r4.map fun r=>V.int (r:Nat))/\r4.length = k/\(∀ r ∈ r4,r < n)/\Hc = upd H D1 (.lst ys)
noncomputable def yF:Sp:=fun vs H Q _=>∃ (c:Int) (n:Nat),vs = [.int c,.int n]/\1 <= n/\n <= 12/\∀ (r d p lp:Addr) (room:Nat) (so x y S:Int) (rs:List Nat) (ws:List Int) (ps:List V) H',Same H H'->H r = none->H d = none->H' r = some (.tup [.int room,.ref d])->room < n->H' d = some (.tup [.int so,.ref p,.ref lp])->H' p = some (.tup [.int x,.int y])->0 < y->Xq x y->H' lp = some (.lst ps)->H lp = none->PI H' ps rs ws S->oX n so rs ws S->Q (.ref r) H'
theorem V5 (F:Fun K vB vB uo f fd) (T:Txt K mg D) (cJ:OkF P w K mg base 1 fD fu dX) (gb:OkF P w K mg base 2 jV jZ jY) (Di:OkF P w K mg base 3 wC wQ zB):cj P w K mg base CX0 4 f fd uJ yF:=by
 refine F.okB iW (fun vs H Q E h=>?_) (fun cdv A outer s H vs Q E hr h=>?_)
 .obtain ⟨c,n,rfl,_⟩:=h
  rfl
 .obtain ⟨c,n,rfl,n1,n12,q⟩:=h
  refine ⟨_,(cg (PSB.mk (bQ (i:=2) iW.nd rfl (Or.inr rfl) (bK cJ (hr.mono (by decide)) (by rfl) (bw (pv 0) (bw bC bD)))))
   (cg (PSB.mk (bQ (i:=3) iW.nd rfl (Or.inr rfl) (jl (bH uo) pF pF ["_law_x"] (cX ((kZ sJ (pv 2) (iB bC) (iB bC))).mono) (dU (i:=0)) cU (bL j8 (pv 0) (pv 2)))))
   (cg (PSB.mk (bQ (i:=4) iW.nd rfl (Or.inl rfl) (bL cQ (bM bN (pv 2) bC (fun _ _=>rfl)) bC)))
   (cg (PSB.mk (bQ (i:=5) iW.nd rfl (Or.inl rfl) (iH (bw (c7 (bw (bM bN (pv 3) bC (fun _ _=>rfl)) (bw (c7 (bw bC (bw bC bD))) bD))) bD))))
   (cg (PSB.mk (cW (cN mF (pv 4) bC (cH _))
    (bG (bQ (i:=6) iW.nd rfl (Or.inl rfl) (bL cT bC (bL cQ (bM bN (pv 2) bC (fun _ _=>rfl)) bC)))
    (bG (bQ (i:=7) iW.nd rfl (Or.inl rfl) (bK gb (hr.mono (by decide)) (by rfl) (bw (bL j8 (bM bN (pv 2) bC (fun _ _=>rfl)) (bL cT (pv 6) bC)) (bw (pv 6) bD))))
    (bI (bQ (i:=5) iW.nd rfl (Or.inl rfl) (iH (bw (c7 (bw (bM bN (pv 3) bC (fun _ _=>rfl)) (bw (pv 7) bD))) (bw (c7 (bw (bM bN (pv 3) bC (fun _ _=>rfl)) (bw (c7 (bw (bL wz (bM bV (pv 7) bC (fun _ _=>rfl)) (bM bV (pv 7) bC (fun _ _=>rfl))) (bw (bM bV (pv 7) bC (fun _ _=>rfl)) bD))) bD))) bD)))))))
    cB))
   (cg (PSB.mk (cW (cN mF (pv 4) bC (cH _))
    (bG (bQ (i:=3) iW.nd rfl (Or.inr rfl) (kZ sJ (pv 3) DP (iB (bL cT bC (bL cQ (bM bN (pv 2) bC (fun _ _=>rfl)) bC)))))
    (bI (Ml (bH uo) pF pF ["_law_room"] (cX ((pv 3)).mono) (dU (i:=0)) cU (c7 (bw (pv 0) (bw (c7 (bw bC (bw (bR iC (by rfl) T.m5 PySem.boot_len (bw (pv 4) bD)) bD))) bD))) (cF (i:=5) iW.nd rfl (Or.inl rfl)))))
    cB))
   (cg (PSB.mk (cW (cN mF (pv 4) bC (cH _))
    (bG (bQ (i:=8) iW.nd rfl (Or.inr rfl) (jl (bH uo) pF pF ["_law_x"] (cX ((kZ sJ (pv 2) (iB bC) (iB (bL cT bC (bL cQ (bM bN (pv 2) bC (fun _ _=>rfl)) bC))))).mono) (dU (i:=0)) cU (bL j8 (pv 0) (bM bN (iH (bw bC (bw bC (bw bC (bw bC bD))))) (bL cQ (bM bN (pv 3) bC (fun _ _=>rfl)) bC) (fun _ _=>rfl)))))
    (bG (Gq (bL cT (bM bN (pv 8) (N8 Ga bC) (fun _ _=>rfl)) bC) (aaq (pv 8) (N8 Ga bC) set_list))
    (bI (Ml (bH uo) pF pF ["_law_k"] (jk (by rfl) T.mW (bw (bR iC (by rfl) T.m5 PySem.boot_len (bw (pv 8) bD)) bD).mono) (dU (i:=0)) cU (c7 (bw (bM bN (pv 4) (pv 0) (fun _ _=>rfl)) (bw (bK gb (hr.mono (by decide)) (by rfl) (bw (bM bN (pv 9) (pv 0) (fun _ _=>rfl)) (bw (bR (w5 rfl) (by rfl) T.Rq boot_sum (bw (pv 9) bD)) bD))) bD))) (cF (i:=5) iW.nd rfl (Or.inl rfl))))))
    cB))
   (uU (PSB.mk (bU (c7 (bw (bL j8 (bM bN (pv 2) bC (fun _ _=>rfl)) (pv 1)) (bw (c7 (bw (pv 4) (bw (bK Di (hr.mono (by decide)) (by rfl) (bw (pv 0) (bw (bM bN (pv 2) bC (fun _ _=>rfl)) (bw (bM bN (pv 2) bC (fun _ _=>rfl)) bD)))) (bw (pv 5) bD)))) bD))))))))))))),?_⟩
  unfold dX jY zB
  refine ⟨_,rfl,c,14,rfl,by decide,fun l xs H1 S1 hl hl1 hx hr'=>?_⟩
  dsimp only [cL]
  have at_:∀ j,j < 14->∃ y,atI (xs.map V.int) (j:Nat) = some (.int y)/\0 <= y/\y < 2000000000:=fun j hj=>by
   have:j < xs.length:=by omega
   exact ⟨xs[j],bY (j:=j) (by rw [aq,aj this]; rfl),hr' _ (aR this)⟩
  refine cA fun R1 hR1=>?_
  walk_at "rd"
  refine dB ?_
  walk_at "rd"
  refine ⟨_,.of hl1,fun p hp=>?_⟩
  have ec:qY (xs.map V.int) (some 2) (some 6) = ((xs.drop 2).take 4).map V.int:=by
   rw [List.map_take,List.map_drop]
   exact G_ (ys:=xs.map V.int) (a:=2) (b:=6) (by decide) (by rw [ak]; omega)
  rw [ec]
  have ul:((xs.drop 2).take 4).length = 4:=by rw [aY,List.length_drop]; omega
  have u0:∀ x ∈ (xs.drop 2).take 4,0 <= x:=fun x hx=>(hr' x (List.mem_of_mem_drop (List.mem_of_mem_take hx))).1
  have S2:Same H1 (upd H1 p (.lst (((xs.drop 2).take 4).map V.int))):=Same.upd hp
  generalize upd H1 p (.lst (((xs.drop 2).take 4).map V.int)) = H2 at S2 ⊢
  generalize (xs.drop 2).take 4 = us at ul u0 ⊢
  have z9:100 < sizeLine:=by decide
  refine ⟨by rw [ak]; omega,fun D1 hD1=>⟨Z1 D1 n H2,⟨[],rfl,rfl,by simp,rfl⟩,?_,?_⟩⟩
  .rintro k v ys Hc hk ⟨r4,rfl,rl,rn,rfl⟩ hy hpc
   rw [aq] at hk
   cases er:us[k]? with
   | none=>rw [er] at hk; cases hk
   | some i =>
    rw [er] at hk
    cases hk
    have i0:=u0 i (aA er)
    have m0:0 <= i % (n:Int):=Int.emod_nonneg _ (by omega)
    have m1:i % (n:Int) < n:=Int.emod_lt_of_pos _ (by omega)
    have ef:i.fmod (n:Int) = (((i % (n:Int)).toNat:Nat):Int):=by rw [aV _ (by omega)]; omega
    refine ⟨i,rfl,by omega,?_⟩
    rw [ef]
    refine ⟨bB,hpc,r4 ++ [(i % (n:Int)).toNat],by rw [bf]; rfl,by rw [au,rl]; rfl,fun r hr=>?_,m6⟩
    rcases List.mem_append.mp hr with hr | hr
    .exact rn r hr
    .rw [List.mem_singleton.mp hr]; omega
  .rintro ys Hc ⟨r4,rfl,rl,rn,rfl⟩ hy
   rw [ak,ul] at rl
   have S3:Same H (upd H2 D1 (.lst (r4.map fun r=>V.int (r:Nat)))):=S1.trans (S2.trans (Same.upd hD1))
   have hl3:upd H2 D1 (.lst (r4.map fun r=>V.int (r:Nat))) l = some (.lst (xs.map V.int)):=Same.upd hD1 _ _ (S2 _ _ hl1)
   have hr3:upd H2 D1 (.lst (r4.map fun r=>V.int (r:Nat))) D1 = some (.lst (r4.map fun r=>V.int (r:Nat))):=bB
   generalize upd H2 D1 (.lst (r4.map fun r=>V.int (r:Nat))) = H3 at S3 hl3 hr3 ⊢
   obtain ⟨x6,a6,p6⟩:=at_ 6 (by decide)
   subst hR1
   refine cA fun R2 hR2=>?_
   walk_at "rd"
   refine ⟨_,hl3,_,a6,_,rfl,?_⟩
   subst hR2
   refine cA fun R3 hR3=>?_
   walk_at "rd"
   obtain ⟨ra,rb,rc,rd,rfl⟩:=Vw rl
   refine ⟨_,hr3,_,cV,dG,fun q1 h1=>⟨dG,fun q2 h2=>⟨by decide,fun q3 h3=>?_⟩⟩⟩
   have d12:q1 ≠ q2:=bA bB h2
   have d23:q2 ≠ q3:=bA bB h3
   have d13:q1 ≠ q3:=bA ((bF d12).trans bB) h3
   have S4:Same H3 (upd (upd (upd H3 q1 (.tup [.int 1,.int 1])) q2 (.tup [.int ra,.ref q1])) q3 (.lst [.ref q2])):=(Same.upd h1).trans ((Same.upd h2).trans (Same.upd h3))
   have e1:upd (upd (upd H3 q1 (.tup [.int 1,.int 1])) q2 (.tup [.int ra,.ref q1])) q3 (.lst [.ref q2]) q1 = some (.tup [.int 1,.int 1]):=(bF d13).trans ((bF d12).trans bB)
   have e2:upd (upd (upd H3 q1 (.tup [.int 1,.int 1])) q2 (.tup [.int ra,.ref q1])) q3 (.lst [.ref q2]) q2 = some (.tup [.int ra,.ref q1]):=(bF d23).trans bB
   have e3:upd (upd (upd H3 q1 (.tup [.int 1,.int 1])) q2 (.tup [.int ra,.ref q1])) q3 (.lst [.ref q2]) q3 = some (.lst [.ref q2]):=bB
   have f3:H q3 = none:=Same.free S3 (Same.free (Same.upd h1) (Same.free (Same.upd h2) h3))
   generalize upd (upd (upd H3 q1 (.tup [.int 1,.int 1])) q2 (.tup [.int ra,.ref q1])) q3 (.lst [.ref q2]) = H4 at S4 e1 e2 e3 ⊢
   have hl4:=S4 _ _ hl3
   have hr4:=S4 _ _ hr3
   have S4:=S3.trans S4
   obtain ⟨so,es,s0,s3⟩ : ∃ so,x6 % 4 = so/\0 <= so/\so <= 3:=⟨_,rfl,by omega,by omega⟩
   rw [es]
   subst hR3
   refine Dd fun R hR=>?_
   have fin:∀ (u3 u6 u7 u8:Option V) (lp:Addr) (rs:List Nat) (ws:List Int) (S:Int) (ps:List V) (H9:Hp),Same H H9->H9 l = some (.lst (xs.map V.int))->H lp = none->H9 lp = some (.lst ps)->PI H9 ps rs ws S->oX n so rs ws S->R { nx:=fun _ H'=>Q .non H',rt:=Q } [some (.int c),some (.int n),some (.ref l),u3,some (.int so),some (.ref lp),u6,u7,u8] H9:=by
    intro u3 u6 u7 u8 lp rs ws S ps H9 S9 hl9 fl hlp hpi hdr
    obtain ⟨x0,a0,p0⟩:=at_ 0 (by decide)
    obtain ⟨x1,a1,p1⟩:=at_ 1 (by decide)
    obtain ⟨x13,a13,p13⟩:=at_ 13 (by decide)
    subst hR
    walk_at "rd"
    have m0:0 <= x13 % (n:Int):=Int.emod_nonneg _ (by omega)
    have m1:x13 % (n:Int) < n:=Int.emod_lt_of_pos _ (by omega)
    have ef:x13.fmod (n:Int) = (((x13 % (n:Int)).toNat:Nat):Int):=by rw [aV _ (by omega)]; omega
    refine ⟨_,hl9,_,a13,_,rfl,by omega,_,hl9,_,a0,_,hl9,_,a1,⟨_,rfl⟩,⟨_,rfl⟩,fun p1 x y f1 y0 g1 sa sb=>⟨by decide,fun p2 f2=>⟨dG,fun p3 f3'=>?_⟩⟩⟩
    rw [ef]
    have g12:p1 ≠ p2:=bA bB f2
    have g23:p2 ≠ p3:=bA bB f3'
    have g13:p1 ≠ p3:=bA ((bF g12).trans bB) f3'
    have S10:Same H9 (upd (upd (upd H9 p1 (.tup [.int x,.int y])) p2 (.tup [.int so,.ref p1,.ref lp])) p3 (.tup [.int ((x13 % (n:Int)).toNat:Nat),.ref p2])):=(Same.upd f1).trans ((Same.upd f2).trans (Same.upd f3'))
    exact q p3 p2 p1 lp _ so x y S rs ws ps _ (S9.trans S10) (Same.free S9 (Same.free (Same.upd f1) (Same.free (Same.upd f2) f3'))) (Same.free S9 (Same.free (Same.upd f1) f2)) bB (by omega) ((bF g23).trans bB) ((bF g13).trans ((bF g12).trans bB)) y0 ⟨g1,sa,sb⟩ (S10 _ _ hlp) fl (hpi.same S10) hdr
   clear hR
   obtain e | e | e | e:so = 0\/so = 1\/so = 2\/so = 3:=by omega
   .subst e
    refine gY rfl (by decide) (gY rfl (by decide) (gY rfl (by decide) (fin _ _ _ _ q3 [ra] [1] 1 [.ref q2] H4 S4 hl4 f3 e3 ⟨rfl,fun k r x h1 h2=>?_⟩ ?_)))
    .match k with
     | 0 =>
      cases h1
      cases h2
      exact ⟨q2,q1,rfl,e2,by rw [NT]; exact e1⟩
     | k + 1=>simp at h1
    .exact ⟨by decide,by decide,rfl,by decide,by decide,by simp,by simp,rfl,by simp,fun _=>⟨rfl,rfl,rfl⟩,fun z=>by simp at z,fun z=>by simp at z,fun r hr=>rn r (by rw [List.mem_singleton.mp hr]; simp)⟩
   .subst e
    obtain ⟨x8,a8,p8⟩:=at_ 8 (by decide)
    obtain ⟨x9,a9,p9⟩:=at_ 9 (by decide)
    refine tY rfl rfl fun Kn hK=>?_
    walk_at "rd"
    obtain ⟨b,eb,b0,b6⟩ : ∃ b,1 + x8 % 6 = b/\1 <= b/\b <= 6:=⟨_,rfl,by omega,by omega⟩
    obtain ⟨wt,ew,w0,w1⟩ : ∃ wt,x9.fmod (b + 1) = wt/\0 <= wt/\wt <= b:=by
     have m0:0 <= x9 % (b + 1):=Int.emod_nonneg _ (by omega)
     have m1:x9 % (b + 1) < b + 1:=Int.emod_lt_of_pos _ (by omega)
     exact ⟨_,rfl,by rw [aV _ (by omega)]; exact m0,by rw [aV _ (by omega)]; omega⟩
    refine ⟨_,hl4,_,a8,_,rfl,_,hl4,_,a9,_,rfl,by omega,by omega,Bd.sm (by omega),fun c1 g1=>?_⟩
    rw [eb,ew]
    have T1:Same H4 (upd H4 c1 (.tup [.int (Ac.lw wt b).1,.int (Ac.lw wt b).2])):=Same.upd g1
    have k1:upd H4 c1 (.tup [.int (Ac.lw wt b).1,.int (Ac.lw wt b).2]) c1 = some (.tup [.int (Ac.lw wt b).1,.int (Ac.lw wt b).2]):=bB
    generalize upd H4 c1 (.tup [.int (Ac.lw wt b).1,.int (Ac.lw wt b).2]) = H5 at T1 k1 ⊢
    refine ⟨_,T1 _ _ hr4,_,cV,dG,fun t1 g2=>?_⟩
    have T2:Same H5 (upd H5 t1 (.tup [.int ra,.ref c1])):=Same.upd g2
    have k2:upd H5 t1 (.tup [.int ra,.ref c1]) t1 = some (.tup [.int ra,.ref c1]):=bB
    generalize upd H5 t1 (.tup [.int ra,.ref c1]) = H6 at T2 k2 ⊢
    have j1:=T2 _ _ k1
    refine ⟨_,T2 _ _ (T1 _ _ hr4),_,cG,_,j1,_,cG,_,j1,_,cV,_,rfl,_,rfl,_,j1,_,cG,dG,fun c2 g3=>⟨dG,fun t2 g4=>⟨dG,fun lp g5=>hK _ _ (gY rfl (by decide) (gY rfl (by decide) ?_))⟩⟩⟩
    have m34:c2 ≠ t2:=bA bB g4
    have m45:t2 ≠ lp:=bA bB g5
    have m35:c2 ≠ lp:=bA ((bF m34).trans bB) g5
    have T3:Same H6 (upd (upd (upd H6 c2 (.tup [.int ((Ac.lw wt b).2 - (Ac.lw wt b).1),.int (Ac.lw wt b).2])) t2 (.tup [.int rb,.ref c2])) lp (.lst [.ref t1,.ref t2])):=(Same.upd g3).trans ((Same.upd g4).trans (Same.upd g5))
    have S6:Same H H6:=S4.trans (T1.trans T2)
    refine fin _ _ _ _ lp [ra,rb] [wt,b - wt] b [.ref t1,.ref t2] _ (S6.trans T3) (T3 _ _ (T2 _ _ (T1 _ _ hl4))) (Same.free S6 (Same.free (Same.upd g3) (Same.free (Same.upd g4) g5))) bB ⟨rfl,fun k r x h1 h2=>?_⟩ ?_
    .match k with
     | 0 =>
      cases h1
      cases h2
      exact ⟨t1,c1,rfl,T3 _ _ k2,T3 _ _ j1⟩
     | 1 =>
      cases h1
      cases h2
      exact ⟨t2,c2,rfl,(bF m45).trans bB,by rw [GR]; exact (bF m35).trans ((bF m34).trans bB)⟩
     | k + 2=>simp at h1
    .refine ⟨by decide,by decide,rfl,by omega,by omega,by simp,?_,?_,by simp,fun z=>by simp at z,fun _=>rfl,fun z=>by simp at z,?_⟩
     .intro x hx
      simp only [List.mem_cons,List.not_mem_nil,or_false] at hx
      omega
     .simp
      omega
     .intro r hr
      simp only [List.mem_cons,List.not_mem_nil,or_false] at hr
      rcases hr with rfl | rfl
      .exact rn _ (by simp)
      .exact rn _ (by simp)
   .subst e
    obtain ⟨x7,a7,p7⟩:=at_ 7 (by decide)
    refine gY rfl (by decide) (tY rfl rfl fun Kn hK=>?_)
    walk_at "rd"
    obtain ⟨m,em,m1,m4⟩ : ∃ m:Nat,1 + x7 % 4 = m/\1 <= m/\m <= 4:=⟨(1 + x7 % 4).toNat,by omega,by omega,by omega⟩
    refine ⟨_,hl4,_,a7,_,rfl,_,.of hr4,fun p5 g5=>?_⟩
    rw [em,Ln (by rw [ak]; simp; omega),<- List.map_take]
    have l5:([ra,rb,rc,rd].take m).length = m:=by rw [aY]; simp; omega
    have r5:∀ r ∈ [ra,rb,rc,rd].take m,r < n:=fun r hr=>rn r (List.mem_of_mem_take hr)
    generalize [ra,rb,rc,rd].take m = rs at l5 r5 ⊢
    have T1:Same H4 (upd H4 p5 (.lst (rs.map fun r=>V.int (r:Nat)))):=Same.upd g5
    have k1:upd H4 p5 (.lst (rs.map fun r=>V.int (r:Nat))) p5 = some (.lst (rs.map fun r=>V.int (r:Nat))):=bB
    generalize upd H4 p5 (.lst (rs.map fun r=>V.int (r:Nat))) = H5 at T1 k1 ⊢
    have S5:=S4.trans T1
    have rl5:(List.replicate m (1:Int)).length = m:=aL
    refine dB ?_
    walk_at "rd"
    refine ⟨_,k1,by rw [ak]; omega,fun D2 hD2=>⟨evJ D2 rs (List.replicate m 1) m H5,⟨Same.upd hD2,bB,by simp; exact ⟨rfl,fun k r x h1 _=>by simp at h1⟩⟩,?_,?_⟩⟩
    .rintro k v ys Hc hk ⟨T5,h5,pi⟩ hy hpc
     rw [aq] at hk
     cases er:rs[k]? with
     | none=>rw [er] at hk; cases hk
     | some r =>
      rw [er] at hk
      cases hk
      have lk:k < m:=by rw [<- l5]; exact (ao.mp er).1
      have ew:(List.replicate m (1:Int))[k]? = some 1:=by rw [List.getElem?_replicate,if_pos lk]
      refine ⟨_,hpc,?_⟩
      rw [ak,l5]
      refine ⟨dG,fun c1 g1=>⟨dG,fun t1 g2=>?_⟩⟩
      have T6:Same Hc (upd (upd Hc c1 (.tup [.int 1,.int m])) t1 (.tup [.int r,.ref c1])):=(Same.upd g1).trans (Same.upd g2)
      have i1:upd (upd Hc c1 (.tup [.int 1,.int m])) t1 (.tup [.int r,.ref c1]) c1 = some (.tup [.int 1,.int m]):=(bF (bA bB g2)).trans bB
      have i2:upd (upd Hc c1 (.tup [.int 1,.int m])) t1 (.tup [.int r,.ref c1]) t1 = some (.tup [.int r,.ref c1]):=bB
      generalize upd (upd Hc c1 (.tup [.int 1,.int m])) t1 (.tup [.int r,.ref c1]) = H7 at T6 i1 i2 ⊢
      have nt:∀ t us,H7 t = some (.tup us)->upd H7 D2 (.lst (ys ++ [.ref t1])) t = some (.tup us):=fun t us e=>(bF (eV e (T6 _ _ h5) (by intro z; cases z))).trans e
      refine ⟨T6 _ _ h5,T6 _ _ hpc,fun b o e=>(bF (bA e hD2)).trans (T6 _ _ (T5 _ _ e)),bB,?_⟩
      rw [cD er,cD ew]
      refine ((pi.same T6).imp nt).snoc ?_ (nt _ _ i2) (by rw [NT]; exact nt _ _ i1)
      rw [aY,aY,rl5,l5]
    .rintro ys Hc ⟨T5,h5,pi⟩ hy
     rw [ak,aN,l5,aJ (by rw [rl5]; exact aD _)] at pi
     refine hK _ _ (gY rfl (by decide) (fin _ _ _ _ D2 rs (List.replicate m 1) m ys Hc (S5.trans T5) (T5 _ _ (T1 _ _ hl4)) (Same.free S5 hD2) h5 pi ?_))
     exact ⟨by decide,by decide,by rw [rl5,l5],by omega,by omega,by omega,fun x hx=>by rw [(List.mem_replicate.mp hx).2]; decide,Pa m,by omega,fun z=>by simp at z,fun z=>by simp at z,fun _=>⟨by rw [l5],by rw [l5]⟩,r5⟩
   .subst e
    obtain ⟨x7,a7,p7⟩:=at_ 7 (by decide)
    obtain ⟨x12,a12,p12⟩:=at_ 12 (by decide)
    refine gY rfl (by decide) (gY rfl (by decide) (tY rfl rfl fun Kn hK=>?_))
    walk_at "rd"
    refine dB ?_
    walk_at "rd"
    obtain ⟨m,em,m1,m4⟩ : ∃ m:Nat,9 + x7 % 4 = ((8 + m:Nat):Int)/\1 <= m/\m <= 4:=⟨(1 + x7 % 4).toNat,by omega,by omega,by omega⟩
    refine ⟨_,hl4,_,a7,_,rfl,_,.of hl4,fun p5 g5=>?_⟩
    have ec:qY (xs.map V.int) (some 8) (some (9 + x7 % 4)) = ((xs.drop 8).take m).map V.int:=by
     rw [em,List.map_take,List.map_drop]
     have:=G_ (ys:=xs.map V.int) (a:=8) (b:=8 + m) (by omega) (by rw [ak]; omega)
     rw [show 8 + m - 8 = m by omega] at this
     exact this
    rw [ec]
    have l5:((xs.drop 8).take m).length = m:=by rw [aY,List.length_drop]; omega
    have r5:∀ x ∈ (xs.drop 8).take m,0 <= x:=fun x hx=>(hr' x (List.mem_of_mem_drop (List.mem_of_mem_take hx))).1
    have T1:Same H4 (upd H4 p5 (.lst (((xs.drop 8).take m).map V.int))):=Same.upd g5
    generalize upd H4 p5 (.lst (((xs.drop 8).take m).map V.int)) = H5 at T1 ⊢
    generalize (xs.drop 8).take m = vs at l5 r5 ⊢
    have S5:=S4.trans T1
    obtain ⟨md,ed,hmd⟩ : ∃ md:Int,atI [V.int 3,V.int 3,V.int 3,V.int 1000] (x12 % 4) = some (.int md)/\(md = 3\/md = 1000):=by
     obtain e | e | e | e:x12 % 4 = 0\/x12 % 4 = 1\/x12 % 4 = 2\/x12 % 4 = 3:=by omega
     .exact ⟨3,by rw [e]; exact bY (j:=0) rfl,.inl rfl⟩
     .exact ⟨3,by rw [e]; exact bY (j:=1) rfl,.inl rfl⟩
     .exact ⟨3,by rw [e]; exact bY (j:=2) rfl,.inl rfl⟩
     .exact ⟨1000,by rw [e]; exact bY (j:=3) rfl,.inr rfl⟩
    refine ⟨by rw [ak]; omega,fun D2 hD2=>⟨weJ D2 H5,⟨[],rfl,rfl,by simp,Same.upd hD2,bB⟩,?_,?_⟩⟩
    .rintro k v ys Hc hk ⟨ws,rfl,wl,wb,T5,h5⟩ hy hpc
     rw [aq] at hk
     cases er:vs[k]? with
     | none=>rw [er] at hk; cases hk
     | some i =>
      rw [er] at hk
      cases hk
      have i0:=r5 i (aA er)
      have f0:0 <= i.fmod md/\i.fmod md <= 1000:=by
       rcases hmd with rfl | rfl
       .rw [aV _ (by decide)]; omega
       .rw [aV _ (by decide)]; omega
      refine ⟨by decide,fun p6 g6=>⟨_,(bF (bA (T5 _ _ (T1 _ _ hl4)) g6)).trans (T5 _ _ (T1 _ _ hl4)),_,a12,_,rfl,_,ed,i,rfl,md,rfl,by omega,(bF (bA h5 g6)).trans h5,(bF (bA hpc g6)).trans hpc,ws ++ [i.fmod md],by rw [bf]; rfl,by rw [au,wl]; rfl,fun x hx=>?_,fun b o e=>(bF (bA e hD2)).trans ((bF (bA (T5 _ _ e) g6)).trans (T5 _ _ e)),bB⟩⟩
      rcases List.mem_append.mp hx with hx | hx
      .exact wb x hx
      .rw [List.mem_singleton.mp hx]; exact f0
    .rintro ys Hc ⟨ws,rfl,wl,wb,T5,h5⟩ hy
     rw [ak,l5] at wl
     have lm:m - 1 < ws.length:=by omega
     have el:ws[m - 1]? = some ws[m - 1]:=aj lm
     have bl:=wb _ (aR lm)
     generalize ws[m - 1] = wl0 at el bl
     have ix:ixN (ws.map V.int).length (-1) = some (m - 1):=by rw [ak,wl]; exact RJ m1
     have ea:atI (ws.map V.int) (-1) = some (.int wl0):=by
      unfold atI
      rw [ix]
      show (ws.map V.int)[m - 1]? = _
      rw [aq,el]; rfl
     refine ⟨_,h5,_,ea,wl0,rfl,_,h5,_,ix,?_⟩
     rw [<- List.map_set]
     have l6:(ws.set (m - 1) (wl0 + 1)).length = m:=by rw [List.length_set,wl]
     have b6:∀ x ∈ ws.set (m - 1) (wl0 + 1),0 <= x/\x <= 1001:=fun x hx=>by
      rcases List.mem_or_eq_of_mem_set hx with hx | rfl
      .have:=wb x hx
       omega
      .omega
     have in6:wl0 + 1 ∈ ws.set (m - 1) (wl0 + 1):=List.mem_set lm _
     generalize ws.set (m - 1) (wl0 + 1) = ww at l6 b6 in6 ⊢
     obtain ⟨s1,s2,s3'⟩:=Dt ww b6
     have sp:=s3' _ in6
     have T6:Same H (upd Hc D2 (.lst (ww.map V.int))):=fun b o e=>(bF (bA (S5 _ _ e) hD2)).trans (T5 _ _ (S5 _ _ e))
     have k6:upd Hc D2 (.lst (ww.map V.int)) D2 = some (.lst (ww.map V.int)):=bB
     have r6:upd Hc D2 (.lst (ww.map V.int)) D1 = some (.lst ([ra,rb,rc,rd].map fun r=>V.int (r:Nat))):=(bF (bA (T1 _ _ hr4) hD2)).trans (T5 _ _ (T1 _ _ hr4))
     have hl6:upd Hc D2 (.lst (ww.map V.int)) l = some (.lst (xs.map V.int)):=(bF (bA (T1 _ _ hl4) hD2)).trans (T5 _ _ (T1 _ _ hl4))
     generalize upd Hc D2 (.lst (ww.map V.int)) = H6 at T6 k6 r6 hl6 ⊢
     have lt4:([ra,rb,rc,rd].take m).length = m:=by rw [aY]; simp; omega
     refine kO ?_
     walk_at "rd"
     refine ⟨_,k6,m,by rw [ak,l6],by omega,fun D3 hD3=>⟨evJ D3 ([ra,rb,rc,rd].take m) ww ww.sum H6,⟨Same.upd hD3,bB,by simp; exact ⟨rfl,fun k r x h1 _=>by simp at h1⟩⟩,?_,?_⟩⟩
     .rintro k ys Hc hk ⟨T7,h7,pi⟩ hy
      have er : [ra,rb,rc,rd][k]? = some ([ra,rb,rc,rd][k]'(by simp; omega)):=aj _
      have et:([ra,rb,rc,rd].take m)[k]? = some ([ra,rb,rc,rd][k]'(by simp; omega)):=by rw [List.getElem?_take,if_pos hk]; exact er
      have ew:ww[k]? = some (ww[k]'(by omega)):=aj _
      generalize [ra,rb,rc,rd][k]'(by simp; omega) = r at er et
      generalize ww[k]'(by omega) = wk at ew
      refine ⟨_,T7 _ _ r6,_,bY (j:=k) (by rw [aq,er]; rfl),_,T7 _ _ k6,_,bY (j:=k) (by rw [aq,ew]; rfl),ww,T7 _ _ k6,wk,rfl,by omega,Bd.sm (by omega),fun c1 g1=>⟨dG,fun t1 g2=>?_⟩⟩
      have T8:Same Hc (upd (upd Hc c1 (.tup [.int (Ac.lw wk ww.sum).1,.int (Ac.lw wk ww.sum).2])) t1 (.tup [.int r,.ref c1])):=(Same.upd g1).trans (Same.upd g2)
      have i1:upd (upd Hc c1 (.tup [.int (Ac.lw wk ww.sum).1,.int (Ac.lw wk ww.sum).2])) t1 (.tup [.int r,.ref c1]) c1 = some (.tup [.int (Ac.lw wk ww.sum).1,.int (Ac.lw wk ww.sum).2]):=(bF (bA bB g2)).trans bB
      have i2:upd (upd Hc c1 (.tup [.int (Ac.lw wk ww.sum).1,.int (Ac.lw wk ww.sum).2])) t1 (.tup [.int r,.ref c1]) t1 = some (.tup [.int r,.ref c1]):=bB
      generalize upd (upd Hc c1 (.tup [.int (Ac.lw wk ww.sum).1,.int (Ac.lw wk ww.sum).2])) t1 (.tup [.int r,.ref c1]) = H8 at T8 i1 i2 ⊢
      have nt:∀ t us,H8 t = some (.tup us)->upd H8 D3 (.lst (ys ++ [.ref t1])) t = some (.tup us):=fun t us e=>(bF (eV e (T8 _ _ h7) (by intro z; cases z))).trans e
      refine ⟨T8 _ _ h7,fun b o e=>(bF (bA e hD3)).trans (T8 _ _ (T7 _ _ e)),bB,?_⟩
      rw [cD et,cD ew]
      refine ((pi.same T8).imp nt).snoc ?_ (nt _ _ i2) (nt _ _ i1)
      rw [aY,aY,l6,lt4]
     .rintro ys Hc ⟨T7,h7,pi⟩ hy
      have pi:PI Hc ys ([ra,rb,rc,rd].take m) ww ww.sum:=by
       have e1:([ra,rb,rc,rd].take m).take m = [ra,rb,rc,rd].take m:=aJ (by rw [lt4]; exact aD _)
       have e2:ww.take m = ww:=aJ (by rw [l6]; exact aD _)
       rw [e1,e2] at pi
       exact pi
      refine hK _ _ (fin _ _ _ _ D3 ([ra,rb,rc,rd].take m) ww ww.sum ys Hc (T6.trans T7) (T7 _ _ hl6) (Same.free T6 hD3) h7 pi ?_)
      exact ⟨by decide,by decide,by rw [lt4,l6],by omega,by omega,by omega,fun x hx=>(b6 x hx).1,rfl,by omega,fun z=>by simp at z,fun z=>by simp at z,fun z=>by simp at z,fun r hr=>rn r (List.mem_of_mem_take hr)⟩
structure DD (n:Nat) (H:Hp) (d:Addr):Prop where
 ex:∃ (p lp:Addr) (so x y S:Int) (rs:List Nat) (ws:List Int) (ps:List V),H d = some (.tup [.int so,.ref p,.ref lp])/\H p = some (.tup [.int x,.int y])/\0 < y/\Xq x y/\H lp = some (.lst ps)/\PI H ps rs ws S/\oX n so rs ws S
theorem DD.same {n:Nat} {H H':Hp} {d:Addr} (h:DD n H d) (S:Same H H'):DD n H' d:=⟨let ⟨p,lp,so,x,y,S',rs,ws,ps,a,b,b1,b2,c,d,e⟩:=h.ex; ⟨p,lp,so,x,y,S',rs,ws,ps,S _ _ a,S _ _ b,b1,b2,S _ _ c,d.same S,e⟩⟩
structure RD (n:Nat) (H:Hp) (xs:List V) (dss:List (List Addr)):Prop where
 len:xs.length = dss.length
 at_:∀ (k:Nat) (ds:List Addr),dss[k]? = some ds->∃ l,xs[k]? = some (.ref l)/\H l = some (.lst (ds.map V.ref))/\∀ d ∈ ds,DD n H d
theorem RD.same {n:Nat} {H H':Hp} {xs:List V} {dss:List (List Addr)} (h:RD n H xs dss) (S:Same H H'):RD n H' xs dss:=⟨h.len,fun k ds e=>let ⟨l,a,b,c⟩:=h.at_ k ds e; ⟨l,a,S _ _ b,fun d hd=>(c d hd).same S⟩⟩
theorem DD.off {n:Nat} {H:Hp} {ls:List Addr} {d p lp:Addr} {so x y S:Int} {rs:List Nat} {ws:List Int} {ps:List V} (hls:∀ l ∈ ls,∃ zs,H l = some (.lst zs)) (nl:lp ∉ ls) (h1:H d = some (.tup [.int so,.ref p,.ref lp])) (h2:H p = some (.tup [.int x,.int y])) (y0:0 < y) (g:Xq x y) (h3:H lp = some (.lst ps)) (h4:PI H ps rs ws S) (h5:oX n so rs ws S):DD n (del ls H) d:=by
 have nt:∀ t us,H t = some (.tup us)->del ls H t = some (.tup us):=fun t us e=>eZ (fun z=>by
  obtain ⟨zs,hz⟩:=hls t z
  rw [hz] at e
  cases e) e
 exact ⟨p,lp,so,x,y,S,rs,ws,ps,nt _ _ h1,nt _ _ h2,y0,g,eZ nl h3,h4.imp nt,h5⟩
noncomputable def Aj (K:Frag) (a:Addr) (ns:List Int):Sp:=fun vs H Q _=>∃ (c:Int) (n:Nat) (m:Nat),vs = [.ref a,.int c,.int n,.int m]/\SqL K H a (ns.map V.int)/\ns.length <= 63/\0 <= c/\n <= 12/\m <= 100/\∀ (r:Addr) (xs:List V) (dss:List (List Addr)) H',Same H H'->H r = none->H' r = some (.lst xs)->dss.length = n->RD n H' xs dss->(∀ ds ∈ dss,ds.length <= m)->Q (.ref r) H'
structure RL (n m:Nat) (H0 H:Hp) (ls:List Addr) (dss:List (List Addr)):Prop where
 len:ls.length = dss.length
 nd:ls.Nodup
 new:∀ l ∈ ls,H0 l = none
 at_:∀ (k:Nat) (l:Addr) (ds:List Addr),ls[k]? = some l->dss[k]? = some ds->H l = some (.lst (ds.map V.ref))/\ds.length <= m/\∀ d ∈ ds,DD n (del ls H) d
theorem RL.rd {n m:Nat} {H0 H:Hp} {ls:List Addr} {dss:List (List Addr)} (h:RL n m H0 H ls dss):RD n H (ls.map V.ref) dss:=⟨by rw [ak,h.len],fun k ds e=>by
 have lk:k < ls.length:=by rw [h.len]; exact (ao.mp e).1
 have el:ls[k]? = some ls[k]:=aj lk
 obtain ⟨a,_,c⟩:=h.at_ k _ ds el e
 exact ⟨ls[k],by rw [aq,el]; rfl,a,fun d hd=>(c d hd).same mL⟩⟩
theorem RL.lists {n m:Nat} {H0 H:Hp} {ls:List Addr} {dss:List (List Addr)} (h:RL n m H0 H ls dss):∀ l ∈ ls,∃ zs,H l = some (.lst zs):=fun l hl=>by
 obtain ⟨k,hk⟩:=aU hl
 have lk:k < dss.length:=by rw [<- h.len]; exact (ao.mp hk).1
 exact ⟨_,(h.at_ k l _ hk (aj lk)).1⟩
theorem RL.same {n m:Nat} {H0 H H':Hp} {ls:List Addr} {dss:List (List Addr)} (h:RL n m H0 H ls dss) (S:Same H H'):RL n m H0 H' ls dss:=⟨h.len,h.nd,h.new,fun k l ds e1 e2=>let ⟨a,b,c⟩:=h.at_ k l ds e1 e2; ⟨S _ _ a,b,fun d hd=>(c d hd).same (qp fun b o _ e=>S _ _ e)⟩⟩
theorem RL.put {n m:Nat} {H0 H:Hp} {ls:List Addr} {dss:List (List Addr)} {k:Nat} {l d:Addr} {ds:List Addr} (h:RL n m H0 H ls dss) (el:ls[k]? = some l) (ed:dss[k]? = some ds) (hm:ds.length < m) (hd:DD n (del ls H) d):RL n m H0 (upd H l (.lst ((ds ++ [d]).map V.ref))) ls (dss.set k (ds ++ [d])):=by
 have lm:=aA el
 have ee:del ls (upd H l (.lst ((ds ++ [d]).map V.ref))) = del ls H:=by
  funext b
  unfold del
  split
  .rfl
  .rename_i hb
   exact bF fun z=>hb (z ▸ lm)
 refine ⟨by rw [List.length_set,h.len],h.nd,h.new,fun j l' ds' e1 e2=>?_⟩
 rw [ee]
 by_cases e:k = j
 .subst e
  rw [el] at e1
  cases e1
  rw [List.getElem?_set_self (ao.mp ed).1] at e2
  cases e2
  obtain ⟨a,b,c⟩:=h.at_ k l ds el ed
  refine ⟨bB,by rw [au]; simp; omega,fun d' hd'=>?_⟩
  rcases List.mem_append.mp hd' with hd' | hd'
  .exact c d' hd'
  .rw [List.mem_singleton.mp hd']; exact hd
 .rw [List.getElem?_set_ne e] at e2
  obtain ⟨a,b,c⟩:=h.at_ j l' ds' e1 e2
  refine ⟨(bF fun z=>?_).trans a,b,c⟩
  subst z
  have l1:=ao.mp el
  have l2:=ao.mp e1
  have pw:=List.pairwise_iff_getElem.mp h.nd
  rcases Nat.lt_or_gt_of_ne e with lt | lt
  .exact pw k j l1.1 l2.1 lt (l1.2.trans l2.2.symm)
  .exact pw j k l2.1 l1.1 lt (l2.2.trans l1.2.symm)
noncomputable def dJ0 (n m:Nat) (D1:Addr) (H H1:Hp) (k:Nat) (ys:List V) (Hc:Hp):Prop:=∃ ls:List Addr,ys = ls.map V.ref/\RL n m H Hc ls (List.replicate k [])/\Same H1 Hc/\Hc D1 = some (.lst ys)/\D1 ∉ ls
theorem RL.nil {n m:Nat} {H0 H:Hp} : RL n m H0 H [] (List.replicate 0 []):=⟨rfl,List.nodup_nil,by simp,fun k l ds e=>by simp at e⟩
theorem RL.more {n m k:Nat} {H0 H:Hp} {ls:List Addr} {l:Addr} (h:RL n m H0 H ls (List.replicate k [])) (h0:H0 l = none) (hl:H l = none):RL n m H0 (upd H l (.lst [])) (ls ++ [l]) (List.replicate (k + 1) []):=by
 have hk:ls.length = k:=by rw [h.len,aL]
 have nin:l ∉ ls:=fun z=>by
  obtain ⟨zs,hz⟩:=h.lists l z
  rw [hl] at hz
  cases hz
 refine ⟨by rw [au,hk,aL]; rfl,?_,fun l' hl'=>?_,fun j l' ds e1 e2=>?_⟩
 .rw [List.nodup_append]
  refine ⟨h.nd,by simp,fun a ha b hb z=>?_⟩
  rw [List.mem_singleton.mp hb] at z
  exact nin (z ▸ ha)
 .rcases List.mem_append.mp hl' with hl' | hl'
  .exact h.new l' hl'
  .rw [List.mem_singleton.mp hl']; exact h0
 .have lj:=(ao.mp e2).1
  rw [aL] at lj
  rw [List.getElem?_replicate,if_pos lj] at e2
  cases e2
  by_cases hj:j < ls.length
  .rw [aC hj] at e1
   obtain ⟨a,_⟩:=h.at_ j l' [] e1 (by rw [List.getElem?_replicate,if_pos (by omega)])
   exact ⟨(bF (fun z=>by rw [z,hl] at a; cases a)).trans a,aZ _,by simp⟩
  .rw [aB (by omega)] at e1
   have e0:j - ls.length = 0:=by omega
   rw [e0] at e1
   cases e1
   exact ⟨bB,aZ _,by simp⟩
theorem RL.other {n m k:Nat} {H0 H:Hp} {ls:List Addr} {D1:Addr} {o:HO} (h:RL n m H0 H ls (List.replicate k [])) (nd:D1 ∉ ls):RL n m H0 (upd H D1 o) ls (List.replicate k []):=by
 refine ⟨h.len,h.nd,h.new,fun j l ds e1 e2=>?_⟩
 obtain ⟨a,b,_⟩:=h.at_ j l ds e1 e2
 have lj:=(ao.mp e2).1
 rw [aL] at lj
 rw [List.getElem?_replicate,if_pos lj] at e2
 cases e2
 exact ⟨(bF fun z=>by subst z; exact nd (aA e1)).trans a,b,by simp⟩
noncomputable def dJ (a D1:Addr) (c:Int) (n m:Nat) (ls:List Addr) (u5 u6:Option V) (H:Hp) (k:Nat) (σ:L2.St) (H':Hp):Prop:=∃ (u7 u8 u9:Option V) (dss:List (List Addr)),σ = [some (.ref a),some (.int c),some (.int n),some (.int m),some (.ref D1),u5,u6,u7,u8,u9]/\Same H H'/\H' D1 = some (.lst (ls.map V.ref))/\dss.length = n/\RL n m H H' ls dss
theorem Ve (F:Fun K qL qL yG f fd) (T:Txt K mg D) (a:Addr) (ns:List Int) (lF:OkF P w K mg base 1 sX sU (wu K a ns)) (cJ:OkF P w K mg base 1 fD fu dX) (Lx:OkF P w K mg base 4 vB uJ yF):cj P w K mg base CX0 5 f fd qW (Aj K a ns):=by
 refine F.ok mq (fun vs H Q E h=>?_) (fun cdv A outer s H vs Q E hr h=>?_)
 .obtain ⟨c,n,m,rfl,_⟩:=h
  rfl
 .obtain ⟨c,n,m,rfl,hs,n63,c0,n12,m100,q⟩:=h
  refine ⟨_,(bG (Ml (bH yG) Fd Fd ["_law_k"] (jk (by rfl) T.mW (bw (pv 2) bD).mono) (dU (i:=0)) cU (iH bD) (cF (i:=4) mq.nd rfl (Or.inl rfl)))
   (bG (cW (cN Nj (pv 2) bC (cH _))
    (bG (bQ (i:=5) mq.nd rfl (Or.inl rfl) (bK lF (hr.mono (by decide)) (by rfl) (bw (pv 0) (bw (pv 1) bD))))
    (bG (bQ (i:=6) mq.nd rfl (Or.inl rfl) (bK cJ (hr.mono (by decide)) (by rfl) (bw (pv 5) (bw (bL j8 (bL cQ (bL Lg (pv 5) bC) bC) (bL cT (bL cC bC (pv 2)) bC)) bD))))
    (bI (jU PassesOwn.never rfl (cX ((bL LK (pv 6) (kZ sJ (pv 0) (iB (bL cT (pv 1) bC)) (iB (bL cT (pv 1) bC))))).mono) (cF (i:=7) mq.nd rfl (Or.inl rfl))
     (bG (Gq (bK Lx (hr.mono (by decide)) (by rfl) (bw (pv 7) (bw (pv 2) bD))) (fX (n:=2) rfl (cu (cF (i:=8) mq.nd rfl (Or.inl rfl)) (cu (cF (i:=9) mq.nd rfl (Or.inl rfl)) fK))))
     (bI (cW (cN zO (bR iC (by rfl) T.m5 PySem.boot_len (bw (bM bN (pv 4) (pv 8) (fun _ _=>rfl)) bD)) (pv 3) (cH _))
      (bI (cY (wB (bM bN (pv 4) (pv 8) (fun _ _=>rfl)) (bw (pv 9) bD))))
      cB)))))))
    cB)
   (bI (bU (pv 4))))),?_⟩
  unfold wu dX yF
  refine cA fun R1 hR1=>?_
  walk_at "rd"
  refine kO ?_
  walk_at "rd"
  refine ⟨n,rfl,by omega,fun D1 hD1=>⟨dJ0 n m D1 H H,⟨[],rfl,.nil,Same.upd hD1,bB,by simp⟩,?_,?_⟩⟩
  .rintro k ys Hc hk ⟨ls,rfl,rl,S1,h1,nd⟩ hy
   refine ⟨aZ _,fun l hl=>?_⟩
   have nD:D1 ≠ l:=bA h1 hl
   refine ⟨(bF nD).trans h1,ls ++ [l],by rw [bf]; rfl,(rl.more (Same.free S1 hl) hl).other ?_,fun b o e=>(bF (bA e hD1)).trans ((bF (bA (S1 _ _ e) hl)).trans (S1 _ _ e)),bB,?_⟩
   .simp only [List.mem_append,List.mem_singleton,not_or]
    exact ⟨nd,nD⟩
   .simp only [List.mem_append,List.mem_singleton,not_or]
    exact ⟨nd,nD⟩
  .rintro ys Hc ⟨ls,rfl,rl,S1,h1,nd⟩ hy
   subst hR1
   refine cA fun R2 hR2=>?_
   have fin:∀ (u5 u6 u7 u8 u9:Option V) (dss:List (List Addr)) (H9:Hp),Same H H9->H9 D1 = some (.lst (ls.map V.ref))->dss.length = n->RL n m H H9 ls dss->R2 { nx:=fun _ H'=>Q .non H',rt:=Q } [some (.ref a),some (.int c),some (.int n),some (.int m),some (.ref D1),u5,u6,u7,u8,u9] H9:=by
    intro u5 u6 u7 u8 u9 dss H9 S9 h9 ld r9
    subst hR2
    refine ⟨_,rfl,q D1 _ dss H9 S9 hD1 h9 ld r9.rd fun ds hds=>?_⟩
    obtain ⟨k,hk⟩:=aU hds
    have lk:k < ls.length:=by rw [r9.len]; exact (ao.mp hk).1
    exact (r9.at_ k _ ds (aj lk) hk).2.1
   clear hR2
   walk_at "rd"
   refine Xo (fun hn=>?_) fun _=>fin none none none none none (List.replicate n []) Hc S1 h1 aL rl
   have hn:0 < (n:Int):=of_decide_eq_true hn
   have v0:0 <= cell ns c * 48271 % 104729 % (3 * (n:Int) + 1):=Int.emod_nonneg _ (by omega)
   have v1:cell ns c * 48271 % 104729 % (3 * (n:Int) + 1) < 3 * (n:Int) + 1:=Int.emod_lt_of_pos _ (by omega)
   refine ⟨Same.sql S1 hs,n63,c0,.inr (by constructor <;> decide),Bd.sm (by decide),Bd.sm (by omega),by omega,(cell ns c * 48271 % 104729 % (3 * (n:Int) + 1)).toNat,by rw [aV _ (by omega)]; omega,by omega,fun l xs H2 S2 fl hl2 _ _=>gK ?_⟩
   walk_at "rd"
   refine ⟨_,Same.sql (S1.trans S2) hs,fun p5 g5=>⟨_,(bF (bA hl2 g5)).trans hl2,?_,fun p6 g6=>⟨dJ a D1 c n m ls (some (.int (cell ns c))) (some (.ref l)) H,?_,?_,?_⟩⟩⟩
   .have z9:1000 < sizeLine:=by decide
    have:(qY (ns.map V.int) (some (c + 1)) (some (c + 25))).length <= (ns.map V.int).length:=by
     unfold qY
     rw [aY,List.length_drop]
     omega
    rw [ak] at this ⊢
    omega
   .have T5:Same Hc (upd (upd H2 p5 (.lst (qY (ns.map V.int) (some (c + 1)) (some (c + 25))))) p6 (.lst (xs.map V.int ++ qY (ns.map V.int) (some (c + 1)) (some (c + 25))))):=S2.trans ((Same.upd g5).trans (Same.upd g6))
    exact ⟨none,none,none,List.replicate n [],rfl,S1.trans T5,T5 _ _ h1,aL,rl.same T5⟩
   .rintro k v σ' H' hk ⟨u7,u8,u9,dss,rfl,S9,h9,ld,r9⟩ hp6
    obtain ⟨i,rfl⟩ : ∃ i,v = V.int i:=by
     rcases List.mem_append.mp (aA hk) with z | z
     .obtain ⟨i,_,rfl⟩:=List.mem_map.mp z
      exact ⟨i,rfl⟩
     .obtain ⟨i,_,rfl⟩:=List.mem_map.mp (List.mem_of_mem_drop (List.mem_of_mem_take z))
      exact ⟨i,rfl⟩
    refine ⟨_,rfl,_,rfl,⟨_,rfl⟩,n,rfl,by omega,n12,fun r d p lp room so x y S rs ws ps H3 S3 fr fd hr hroom hd hp y0 g hlp flp hpi hdr=>?_⟩
    have kd:dss[room]? = some (dss[room]'(by omega)):=aj _
    have kl:ls[room]? = some (ls[room]'(by rw [r9.len]; omega)):=aj _
    generalize dss[room]'(by omega) = ds at kd
    generalize ls[room]'(by rw [r9.len]; omega) = lr at kl
    have r3:=r9.same S3
    have al:=r3.at_ room lr ds kl kd
    refine ⟨_,hr,rfl,_,_,rfl,_,_,rfl,rfl,_,rfl,_,rfl,D1,rfl,_,_,rfl,S3 _ _ h9,_,bY (j:=room) (by rw [aq,kl]; rfl),lr,rfl,_,al.1,_,rfl,m,rfl,?_⟩
    rw [ak]
    by_cases hm:ds.length < m
    .rw [if_pos (decide_eq_true (by omega))]
     have lin:=aA kl
     have nD:D1 ≠ lr:=fun z=>nd (by rw [z]; exact lin)
     have n6:lr ≠ p6:=by
      obtain ⟨zs,hz⟩:=rl.lists lr lin
      exact bA (Same.upd g5 _ _ (S2 _ _ hz)) g6
     have nl:lp ∉ ls:=fun z=>by
      obtain ⟨zs,hz⟩:=r9.lists lp z
      rw [hz] at flp
      cases flp
     have dd:=DD.off r3.lists nl hd hp y0 g hlp hpi hdr
     have r4:=r3.put kl kd hm dd
     rw [bf] at r4
     have z9:1000 < sizeLine:=by decide
     refine ⟨_,rfl,_,rfl,D1,rfl,_,_,rfl,S3 _ _ h9,_,bY (j:=room) (by rw [aq,kl]; rfl),lr,rfl,⟨_,al.1⟩,_,rfl,_,al.1,by rw [ak]; omega,(bF n6.symm).trans (S3 _ _ hp6),_,_,_,dss.set room (ds ++ [d]),rfl,fun b o e=>(bF (fun z=>?_)).trans (S3 _ _ (S9 _ _ e)),(bF nD).trans (S3 _ _ h9),by rw [List.length_set]; exact ld,r4⟩
     rw [z,r9.new lr lin] at e
     cases e
    .rw [if_neg (by simp; omega)]
     exact ⟨S3 _ _ hp6,_,_,_,dss,rfl,S9.trans S3,S3 _ _ h9,ld,r3⟩
   .rintro σ' H' ⟨u7,u8,u9,dss,rfl,S9,h9,ld,r9⟩ _
    exact fin _ _ _ _ _ dss H' S9 h9 ld r9
theorem WF.keys {H:Hp} : ∀ {xs:List V} {gs:List (Str × Int × Int)} {ws:List (Str × Addr)},WF K H xs gs ws->ws.map (·.1) = gs.map (·.1)
 | _,_,_,.nil=>rfl
 | _,_,_,.cons _ _ r=>by rw [List.map_cons,List.map_cons,r.keys]
theorem Q7 {ns:List Str} {rs:List Nat} (h:∀ r ∈ rs,r < ns.length):∃ nms,v9 ns rs nms:=by
 refine ⟨rs.map fun r=>(ns[r]?).getD Str.empty,ak ..,fun k r m e1 e2=>?_⟩
 rw [aq,e1,Option.map_some,aj (h r (aA e1))] at e2
 cases e2
 exact aj _
structure uN (K:Frag) (n:Nat) (ns:List Str) (H H':Hp) (d:Addr) (g:Dr):Prop where
 ex:∃ (p lp:Addr) (so x y S:Int) (rs:List Nat) (ws:List Int) (ps xs:List V) (nms:List Str),H d = some (.tup [.int so,.ref p,.ref lp])/\H p = some (.tup [.int x,.int y])/\0 < y/\Xq x y/\H lp = some (.lst ps)/\PI H ps rs ws S/\oX n so rs ws S/\v9 ns rs nms/\g.p = p/\WF K H' xs (Ac.ways (nms.zip ws) S) g.ws
theorem uN.on {n:Nat} {ns:List Str} {H H' H2:Hp} {d:Addr} {g:Dr} (S:Same H' H2) (h:uN K n ns H H' d g):uN K n ns H H2 d g:=let ⟨p,lp,so,x,y,S',rs,ws,ps,xs,nms,a1,a2,a3,a4,a5,a6,a7,a8,a9,b⟩:=h.ex; ⟨p,lp,so,x,y,S',rs,ws,ps,xs,nms,a1,a2,a3,a4,a5,a6,a7,a8,a9,b.same S⟩
theorem uN.up {n:Nat} {ns:List Str} {H H' H2:Hp} {d:Addr} {g:Dr} (S:Same H H2) (h:uN K n ns H H' d g):uN K n ns H2 H' d g:=let ⟨p,lp,so,x,y,S',rs,ws,ps,xs,nms,a1,a2,a3,a4,a5,a6,a7,a8,a9,b⟩:=h.ex; ⟨p,lp,so,x,y,S',rs,ws,ps,xs,nms,S _ _ a1,S _ _ a2,a3,a4,S _ _ a5,a6.same S,a7,a8,a9,b⟩
theorem uN.few {n:Nat} {ns:List Str} {H H':Hp} {d:Addr} {g:Dr} (h:uN K n ns H H' d g):g.ws.length <= 8/\∀ z ∈ g.ws,z.1 ∈ ns:=by
 obtain ⟨p,lp,so,x,y,S',rs,ws,ps,xs,nms,a1,a2,a3,a4,a5,a6,a7,a8,a9,b⟩:=h.ex
 have lo:∀ z ∈ nms.zip ws,0 <= z.2:=fun z hz=>a7.lo _ (List.of_mem_zip (a:=z.1) (b:=z.2) hz).2
 have k:=b.keys
 constructor
 .have e1:=congrArg List.length k
  rw [ak,ak] at e1
  have e2:=Ac.RT lo S'
  have e3:(nms.zip ws).length <= nms.length:=by rw [List.length_zip]; omega
  have:=a8.1
  have:=a7.l8
  omega
 .intro z hz
  have hz:=List.mem_map_of_mem (f:=(·.1)) hz
  rw [k] at hz
  obtain ⟨v,hv,e⟩:=List.mem_map.mp hz
  have hv:=Ac.Vj hv
  obtain ⟨u,hu,e'⟩:=List.mem_map.mp hv
  have hu:=(List.of_mem_zip (a:=u.1) (b:=u.2) hu).1
  rw [<- e,<- e']
  obtain ⟨j,hj⟩:=aU hu
  have lj:j < rs.length:=by rw [<- a8.1]; exact (ao.mp hj).1
  exact aA (a8.2 j _ _ (aj lj) hj)
structure qC (K:Frag) (n:Nat) (ns:List Str) (H H':Hp) (ds:List Addr) (gs:List Dr):Prop where
 len:gs.length = ds.length
 at_:∀ (j:Nat) (d:Addr) (g:Dr),ds[j]? = some d->gs[j]? = some g->uN K n ns H H' d g
theorem qC.on {n:Nat} {ns:List Str} {H H' H2:Hp} {ds:List Addr} {gs:List Dr} (S:Same H' H2) (h:qC K n ns H H' ds gs):qC K n ns H H2 ds gs:=⟨h.len,fun j d g e1 e2=>(h.at_ j d g e1 e2).on S⟩
theorem qC.up {n:Nat} {ns:List Str} {H H' H2:Hp} {ds:List Addr} {gs:List Dr} (S:Same H H2) (h:qC K n ns H H' ds gs):qC K n ns H2 H' ds gs:=⟨h.len,fun j d g e1 e2=>(h.at_ j d g e1 e2).up S⟩
theorem qC.mem {n:Nat} {ns:List Str} {H H':Hp} {ds:List Addr} {gs:List Dr} (h:qC K n ns H H' ds gs) {g:Dr} (hg:g ∈ gs):∃ d,uN K n ns H H' d g:=by
 obtain ⟨j,hj⟩:=aU hg
 have lj:j < ds.length:=by rw [<- h.len]; exact (ao.mp hj).1
 exact ⟨_,h.at_ j _ g (aj lj) hj⟩
theorem qC.snoc {n:Nat} {ns:List Str} {H H':Hp} {ds:List Addr} {gs:List Dr} {d:Addr} {g:Dr} (h:qC K n ns H H' ds gs) (hd:uN K n ns H H' d g):qC K n ns H H' (ds ++ [d]) (gs ++ [g]):=by
 have l:=h.len
 refine ⟨by rw [au,au,l]; rfl,fun j d' g' e1 e2=>?_⟩
 rcases sV e1 with ⟨a,b⟩ | ⟨a,b⟩ <;> rcases sV e2 with ⟨c,e⟩ | ⟨c,e⟩
 .exact h.at_ j d' g' b e
 .omega
 .omega
 .subst b; subst e; exact hd
theorem tu.snoc {H:Hp} {xs:List V} {gs:List Dr} {s:Addr} {g:Dr} (h:tu D H xs gs) (hs:U8 D H s g):tu D H (xs ++ [.ref s]) (gs ++ [g]):=by
 have l:=h.len
 refine ⟨by rw [au,au,l]; rfl,fun k g' e=>?_⟩
 rcases sV e with ⟨a,b⟩ | ⟨a,b⟩
 .obtain ⟨s',c,d⟩:=h.at_ k g' b
  exact ⟨s',by rw [aC (by omega)]; exact c,d⟩
 .subst b
  exact ⟨s,by rw [aB (by omega),l,a,Nat.sub_self]; rfl,hs⟩
theorem j5.snoc {H:Hp} {xs ys:List V} {rms:List (Str × List Dr)} {t l:Addr} {g:Str × List Dr} (h:j5 D H xs rms) (ht:H t = some (.tup [.str g.1,.ref l])) (hl:H l = some (.lst ys)) (hd:tu D H ys g.2):j5 D H (xs ++ [.ref t]) (rms ++ [g]):=by
 have le:=h.len
 refine ⟨by rw [au,au,le]; rfl,fun k g' e=>?_⟩
 rcases sV e with ⟨a,b⟩ | ⟨a,b⟩
 .obtain ⟨t',l',ys',c,d⟩:=h.at_ k g' b
  exact ⟨t',l',ys',by rw [aC (by omega)]; exact c,d⟩
 .subst b
  exact ⟨t,l,ys,by rw [aB (by omega),le,a,Nat.sub_self]; rfl,ht,hl,hd⟩
structure TQ (K:Frag) (n:Nat) (H:Hp) (dss:List (List Addr)) (rms:List (Str × List Dr)):Prop where
 len:rms.length = dss.length
 at_:∀ (j:Nat) (ds:List Addr) (g:Str × List Dr),dss[j]? = some ds->rms[j]? = some g->qC K n (rms.map (·.1)) H H ds g.2
theorem Zt {so:Int} (s0:0 <= so) (s3:so <= 3):dR D (clsOf D so):=by
 unfold dR
 obtain rfl | rfl | rfl | rfl:so = 0\/so = 1\/so = 2\/so = 3:=by omega
 all_goals simp [clsOf]
theorem oA {as:List Addr} {H:Hp} (hls:∀ l ∈ as,∃ zs,H l = some (.lst zs)) {b:Addr} {u:HO} (nu:∀ zs,u ≠ .lst zs) (e:H b = some u):del as H b = some u:=eZ (fun z=>by
 obtain ⟨zs,hz⟩:=hls b z
 rw [hz] at e
 injection e with e
 exact nu zs e.symm) e
theorem WF.off {as:List Addr} {H:Hp} (hls:∀ l ∈ as,∃ zs,H l = some (.lst zs)) {xs:List V} {gs:List (Str × Int × Int)} {ws:List (Str × Addr)} (h:WF K H xs gs ws):WF K (del as H) xs gs ws:=by
 refine h.imp (fun t ys e=>oA hls (by intro z y; cases y) e) fun c xs e=>?_
 rcases e with (e | ⟨o,e⟩) | e
 .exact .inl (.inl (oA hls (by intro z y; cases y) e))
 .exact .inl (.inr ⟨o,oA hls (by intro z y; cases y) e⟩)
 .exact .inr e
noncomputable def Ef (K:Frag) (D:Adr):Sp:=fun vs H Q _=>∃ (c x y:Int) (p r:Addr) (xs:List V) (dss:List (List Addr)) (n m:Nat),vs = [.int c,.ref p,.ref r]/\H p = some (.tup [.int x,.int y])/\0 <= x/\x < y/\y <= 100/\Int.gcd x y = 1/\H r = some (.lst xs)/\RD n H xs dss/\dss.length = n/\n <= 12/\m <= 12/\(∀ ds ∈ dss,ds.length <= m) /\
 ∀ (o:Addr) (H':Hp) (rms:List (Str × List Dr)),Same H H'->H o = none->jX D H' o p rms->Oj rms->TQ K n H' dss rms->Q (.ref o) H'
noncomputable def hlJ (K:Frag) (D:Adr) (σ0:List (Option V)) (D1:Addr) (n:Nat) (ns:List Str) (dss:List (List Addr)) (H H1:Hp) (k:Nat) (σ:L2.St) (H':Hp):Prop:=∃ (u5 u6:Option V) (zs:List V) (rms:List (Str × List Dr)),σ = σ0 ++ [u5,u6]/\Same H1 H'/\H' D1 = some (.lst zs)/\j5 D (del [D1] H') zs rms/\rms.map (·.1) = ns.take k/\(∀ g ∈ rms,(g.2.map (·.nm)).Nodup)/\∀ (j:Nat) (ds:List Addr) (g:Str × List Dr),dss[j]? = some ds->rms[j]? = some g->qC K n ns H (del [D1] H') ds g.2
noncomputable def dlJ (K:Frag) (D:Adr) (D1 D2:Addr) (n:Nat) (ns ts:List Str) (ds:List Addr) (H H1:Hp) (k:Nat) (zs:List V) (H':Hp):Prop:=∃ gs:List Dr,Same H1 H'/\H' D2 = some (.lst zs)/\tu D (del [D1,D2] H') zs gs/\gs.map (·.nm) = ts.take k/\qC K n ns H (del [D1,D2] H') (ds.take k) gs
theorem Vx (F:Fun K vZ vZ Gk f fd) (T:Txt K mg D) (yQ:OkF P w K mg base 2 qd rH vp) (Gy:OkF P w K mg base 8 rQ qg (vf K D)) (Fj:OkI P w K mg base (CXO P w) 4 D.Hall_init jG (lX K D)):cj P w K mg base CX0 9 f fd uz (Ef K D):=by
 refine F.ok vH (fun vs H Q E h=>?_) (fun cdv A outer s H vs Q E hr h=>?_)
 .obtain ⟨c,x,y,p,r,xs,dss,n,m,rfl,_⟩:=h
  rfl
 .obtain ⟨c,x,y,p,r,xs,dss,n,m,rfl,hp,x0,xy,y1,gx,hrm,rd,ln,n12,m12,hm,q⟩:=h
  refine ⟨_,(bG (bQ (i:=3) vH.nd rfl (Or.inr rfl) (bK yQ (hr.mono (by decide)) (by rfl) (bw (pv 0) (bw (bR iC (by rfl) T.m5 PySem.boot_len (bw (pv 2) bD)) bD))))
   (bG (bQ (i:=4) vH.nd rfl (Or.inl rfl) (iH bD))
   (bG (jU PassesOwn.never rfl (jk (by rfl) T.mW (bw (bR iC (by rfl) T.m5 PySem.boot_len (bw (pv 2) bD)) bD).mono) (cF (i:=5) vH.nd rfl (Or.inl rfl))
    (bG (bQ (i:=6) vH.nd rfl (Or.inl rfl) (bK yQ (hr.mono (by decide)) (by rfl) (bw (bL cT (pv 0) (pv 5)) (bw (bR iC (by rfl) T.m5 PySem.boot_len (bw (bM bN (pv 2) (pv 5) (fun _ _=>rfl)) bD)) bD))))
    (bI (cY (wB (pv 4) (bw (c7 (bw (bM bN (pv 3) (pv 5) (fun _ _=>rfl)) (bw (jl (bH Gk) J3 J3 ["_law_title", "_law_door_here"] (Gu (by rfl) T.Mi (bw (pv 6) (bw (bM bN (pv 2) (pv 5) (fun _ _=>rfl)) bD)).mono) (fX (n:=2) rfl (cu (dU (i:=0)) (cu (dU (i:=1)) fK))) cU (bK Gy (hr.mono (by decide)) (by rfl) (bw (pv 0) (bw (pv 1) (bw (pv 5) bD))))) bD))) bD))))))
   (bI (bU (pZ T.Xa Fj (hr.mono (by decide)) (by rfl) T.Zw uD (bw (pv 1) (bw (pv 4) bD)))))))),?_⟩
  unfold vp vf lX
  walk_at "rd"
  have lx:xs.length = n:=by rw [rd.len,ln]
  refine ⟨_,hrm,n,by rw [lx],n12,fun l0 ns H1 S1 f0 hl0 lns wns nns=>⟨aZ _,fun D1 hD1=>wJ ?_⟩⟩
  walk_at "rd"
  have z9:100 < sizeLine:=by decide
  refine ⟨_,(bF (bA (S1 _ _ hrm) hD1)).trans (S1 _ _ hrm),n,by rw [lx],by omega,hlJ K D [some (.int c),some (.ref p),some (.ref r),some (.ref l0),some (.ref D1)] D1 n ns dss H H1,⟨none,none,[],[],rfl,Same.upd hD1,bB,⟨rfl,fun k g e=>by simp at e⟩,rfl,by simp,fun j ds g _ e=>by simp at e⟩,?_,?_⟩
  .rintro k σ' H' hk ⟨u5,u6,zs,rms,rfl,S2,hD,hR,hn,hd,hi⟩
   have ed:dss[k]? = some (dss[k]'(by omega)):=aj _
   have em:=aR (l:=dss) (n:=k) (by omega)
   have en:ns[k]? = some (ns[k]'(by omega)):=aj _
   generalize dss[k]'(by omega) = ds at ed em
   generalize ns[k]'(by omega) = nk at en
   have dm:=hm ds em
   obtain ⟨lk,ek,hlk,dd⟩:=rd.at_ k ds ed
   have SH:=S1.trans S2
   walk_at "rd"
   refine ⟨_,SH _ _ hrm,_,bY ek,lk,rfl,_,SH _ _ hlk,ds.length,by rw [ak],by omega,fun l1 ts H3 S3 f3 hl3 lts wts nts=>⟨⟨_,S3 _ _ hD⟩,_,S3 _ _ (S2 _ _ hl0),_,bY (by rw [aq,en]; rfl),uc ?_⟩⟩
   have SH3:=SH.trans S3
   have S13:=S2.trans S3
   walk_at "rd"
   refine ⟨_,SH3 _ _ hrm,_,bY ek,lk,rfl,_,hl3,_,SH3 _ _ hlk,by rw [ak,ak,lts],by rw [ak]; omega,fun D2 hD2=>⟨dlJ K D D1 D2 n ns ts ds H H3,⟨[],Same.upd hD2,bB,⟨rfl,fun k g e=>by simp at e⟩,rfl,⟨rfl,fun j d g _ e=>by simp at e⟩⟩,?_,?_⟩⟩
   .rintro j xv yv zs2 Hc t hx hy ⟨gs,S5,h5,dr,gn,ri⟩ hz ht ha hb pre hpre
    obtain ⟨u1,u2,rfl⟩:=qx hpre
    rw [aq] at hx hy
    have lj:j < ds.length:=by
     by_cases z:j < ds.length
     .exact z
     .rw [List.getElem?_eq_none (by omega)] at hy
      cases hy
    have e1:ts[j]? = some (ts[j]'(by omega)):=aj _
    have e2:ds[j]? = some ds[j]:=aj _
    rw [e1] at hx
    rw [e2] at hy
    cases hx
    cases hy
    generalize ts[j]'(by omega) = tj at e1 ⊢
    generalize ds[j] = d at e2 ⊢
    obtain ⟨p1,lp,so,x1,y2,S',rs,ws,ps,a1,a2,a3,a4,a5,a6,a7⟩:=(dd d (aA e2)).ex
    obtain ⟨nms,no⟩:=Q7 (ns:=ns) (rs:=rs) fun r hr=>by rw [lns]; exact a7.lt r hr
    have SHc:Same H Hc:=SH3.trans S5
    have SU:=SHc.trans (Same.upd ht (o:=.tup [.str tj,.ref d]))
    have hl0c:=Same.upd ht (o:=.tup [.str tj,.ref d]) _ _ (S5 _ _ (S13 _ _ hl0))
    walk_at "rd"
    refine ⟨[_,_],rfl,rfl,so,lp,p1,SU _ _ a1,wts _ (aA e1),⟨x1,y2,.inl (.inl (SU _ _ a2)),a3,a4.gcd⟩,S',rs,ws,ps,SU _ _ a5,a6.same SU,ns,hl0c,nms,no,a7.drawn no wns,fun H4 s ld ys us S6 fs fld d1=>?_⟩
    have S7:Same Hc H4:=(Same.upd ht).trans S6
    have hD4:H4 D1 = some (.lst zs):=S7 _ _ (S5 _ _ (S3 _ _ hD))
    have h54:=S7 _ _ h5
    have hls:∀ l ∈ [D1,D2],∃ zs,H4 l = some (.lst zs):=fun l hl=>by
     simp only [List.mem_cons,List.not_mem_nil,or_false] at hl
     rcases hl with rfl | rfl
     .exact ⟨_,hD4⟩
     .exact ⟨_,h54⟩
    have nw:∀ b,upd Hc t (.tup [.str tj,.ref d]) b = none->b ∉ [D1,D2]:=fun b hb z=>by
     simp only [List.mem_cons,List.not_mem_nil,or_false] at z
     rcases z with rfl | rfl
     .rw [Same.upd ht _ _ (S5 _ _ (S3 _ _ hD))] at hb
      cases hb
     .rw [Same.upd ht _ _ h5] at hb
      cases hb
    obtain ⟨dx,hs⟩:=d1.at_
    have wo:=d1.wf.off hls
    have st:Same (del [D1,D2] Hc) (del [D1,D2] H4):=qp fun b o _ e=>S7 _ _ e
    have di:uN K n ns H (del [D1,D2] H4) d ⟨tj,p1,us⟩:=⟨p1,lp,so,x1,y2,S',rs,ws,ps,ys,nms,a1,a2,a3,a4,a5,a6,a7,no,rfl,wo⟩
    refine ⟨h54,S7 _ _ ha,S7 _ _ hb,gs ++ [⟨tj,p1,us⟩],fun b u e=>(bF (bA e hD2)).trans (S7 _ _ (S5 _ _ e)),bB,?_,?_,?_⟩
    .rw [rY (by simp)]
     exact (dr.same st).snoc ⟨clsOf D so,dx,ld,ys,Zt a7.s0 a7.s3,eZ (nw _ fs) hs,eZ (nw _ fld) d1.hl,wo.ways,aK di.few.1 (by decide)⟩
    .rw [bf,gn,cD e1]; rfl
    .rw [rY (by simp),cD e2]
     exact (ri.on st).snoc di
   .rintro zs2 Hc ⟨gs,S5,h5,dr,gn,ri⟩ hz
    rw [ak,aJ (aD _)] at gn
    rw [ak,aJ (by omega)] at ri
    have rk:rms.length = k:=by
     have:=congrArg List.length hn
     rw [ak,aY] at this
     omega
    have zl:=hR.len
    have hDc:Hc D1 = some (.lst zs):=S5 _ _ (S3 _ _ hD)
    have n12':D1 ≠ D2:=bA (S3 _ _ hD) hD2
    refine ⟨dG,fun t2 g2=>?_⟩
    have n1:D1 ≠ t2:=bA hDc g2
    have st:Same (del [D1] H') (del [D1] (upd Hc t2 (.tup [.str nk,.ref D2]))):=qp fun b o _ e=>Same.upd g2 _ _ (S5 _ _ (S3 _ _ e))
    have s2:Same (del [D1,D2] Hc) (del [D1] (upd Hc t2 (.tup [.str nk,.ref D2]))):=fun b o e=>by
     obtain ⟨a,e⟩:=mK e
     exact eZ (by simp at a ⊢; exact a.1) (Same.upd g2 _ _ e)
    refine ⟨zs,(bF n1).trans hDc,by omega,some (.int k),some (.ref l1),zs ++ [.ref t2],rms ++ [(nk,gs)],rfl,fun b u e=>(bF (bA e hD1)).trans (Same.upd g2 _ _ (S5 _ _ (S13 _ _ e))),bB,?_,?_,?_,?_⟩
    .rw [rY (by simp)]
     exact (hR.same st).snoc (eZ (by simp; exact n1.symm) bB) (eZ (by simp; exact n12'.symm) ((bF (bA h5 g2)).trans h5)) (dr.same s2)
    .rw [bf,hn,cD en]; rfl
    .intro g hg
     rcases List.mem_append.mp hg with hg | hg
     .exact hd g hg
     .rw [List.mem_singleton.mp hg,gn]; exact nts
    .intro j ds' g h1 h2
     rw [rY (by simp)]
     rcases sV h2 with ⟨_,b⟩ | ⟨a,rfl⟩
     .exact (hi j ds' g h1 b).on st
     .rw [a,rk,ed] at h1
      cases h1
      exact ri.on s2
  .rintro σ' H' ⟨u5,u6,zs,rms,rfl,S2,hD,hR,hn,hd,hi⟩
   walk_at "rd"
   intro o dx g1 g2 g3
   have SM:Same H' (upd (upd H' dx (.own o)) o (.ins D.Hall dx [])):=fun b u e=>by rw [bF (bA e g1),bF (bA e g2)]; exact e
   have SH:=S1.trans S2
   rw [aJ (by omega)] at hn
   have rl:rms.length = n:=by rw [<- lns,<- hn,ak]
   have ri:∀ g ∈ rms,∃ ds ∈ dss,qC K n ns H (del [D1] H') ds g.2:=fun g hg=>by
    obtain ⟨j,hj⟩:=aU hg
    have lj:j < dss.length:=by have:=(ao.mp hj).1; omega
    exact ⟨_,aR lj,hi j _ g (aj lj) hj⟩
   have ok:Oj rms:=by
    refine ⟨by omega,by rw [hn]; exact nns,fun g hg=>wns _ (by rw [<- hn]; exact List.mem_map_of_mem hg),fun g hg=>?_,hd,fun g hg d hd' z hz=>?_⟩
    .obtain ⟨ds,h1,h2⟩:=ri g hg
     have:=hm ds h1
     have:=h2.len
     omega
    .obtain ⟨ds,h1,h2⟩:=ri g hg
     obtain ⟨_,h3⟩:=h2.mem hd'
     rw [hn]
     exact h3.few.2 z hz
   refine ⟨⟨dx,rfl⟩,x,y,⟨.inl (.inl (SM _ _ (SH _ _ hp))),by omega,gx⟩,x0,xy,Bd.sm (by omega),Bd.sm (by omega),zs,SM _ _ hD,rms,(hR.same mL).same SM,ok,fun H5 kp hh=>?_⟩
   have SS:Same H' H5:=fun b u e=>kp b u (bA e g1) (SM b u e)
   refine q o H5 rms (SH.trans SS) (Same.free SH g1) hh ok ⟨by rw [rl,ln],fun j ds g h1 h2=>?_⟩
   rw [hn]
   exact ((hi j ds g h1 h2).on (mL.trans SS)).up (SH.trans SS)
noncomputable def wsum (gs:List (Str × Int)) (h:Str->Rat):Rat:=(gs.map fun g=>(g.2:Rat) * h g.1).sum
theorem j6 {g:Str × Int} {gs:List (Str × Int)} {h:Str->Rat} : wsum (g :: gs) h = (g.2:Rat) * h g.1 + wsum gs h:=rfl
theorem YM {a:Str × Int} {as:List (Str × Int)} {r:Str} {y:Int} (n:a.1 ≠ r):Ac.put (a :: as) r y = a :: Ac.put as r y:=by
 unfold Ac.put
 rw [List.any_cons,decide_eq_false n,Bool.false_or]
 split
 .rw [List.map_cons,if_neg n]
 .rfl
theorem YZ {a:Str × Int} {as:List (Str × Int)} {r:Str} {y:Int} (e:a.1 = r) (n:r ∉ as.map (·.1)):Ac.put (a :: as) r y = (a.1,y) :: as:=by
 unfold Ac.put
 rw [List.any_cons,decide_eq_true e,Bool.true_or,if_pos rfl,List.map_cons,if_pos e]
 congr 1
 have:as.map (fun g=>if g.1 = r then (g.1,y) else g) = as.map id:=List.map_congr_left fun g hg=>if_neg fun (z:g.1 = r)=>n (List.mem_map.mpr ⟨g,hg,z⟩)
 rw [this,List.map_id]
theorem Wq {a:Str × Int} {as:List (Str × Int)} {r:Str} (n:a.1 ≠ r):Ac.look (a :: as) r = Ac.look as r:=by
 unfold Ac.look
 rw [List.find?_cons,decide_eq_false n]
theorem Wi {a:Str × Int} {as:List (Str × Int)} {r:Str} (e:a.1 = r):Ac.look (a :: as) r = a.2:=by
 unfold Ac.look
 rw [List.find?_cons,decide_eq_true e]; rfl
theorem Ja {h:Str->Rat} {r:Str} {y:Int} : ∀ {as:List (Str × Int)},(as.map (·.1)).Nodup->wsum (Ac.put as r y) h = wsum as h + ((y:Rat) - (Ac.look as r:Rat)) * h r
 | [],_=>by
  show (y:Rat) * h r + 0 = 0 + ((y:Rat) - ((0:Int):Rat)) * h r
  rw [Rat.intCast_zero]
  grind
 | a :: as,nd=>by
  rw [List.map_cons,List.nodup_cons] at nd
  by_cases e:a.1 = r
  .rw [YZ e (e ▸ nd.1),Wi e,j6,j6,e]
   grind
  .rw [YM e,Wq e,j6,j6,Ja nd.2]
   grind
theorem CZ {h:Str->Rat} : ∀ {gs acc:List (Str × Int)},(acc.map (·.1)).Nodup->wsum (gs.foldl (fun a g=>Ac.put a g.1 (Ac.look a g.1 + g.2)) acc) h = wsum acc h + wsum gs h
 | [],acc,_=>by
  show wsum acc h = wsum acc h + 0
  rw [Rat.add_zero]
 | g :: gs,acc,nd=>by
  rw [List.foldl_cons,CZ (Ac.Vi nd _ _),Ja nd,j6,Rat.intCast_add]
  grind
theorem Qh {h:Str->Rat} {gs:List (Str × Int)} : wsum (Ac.gM gs) h = wsum gs h:=by
 have:=CZ (h:=h) (gs:=gs) (acc:=[]) List.nodup_nil
 have z:wsum [] h = 0:=rfl
 rw [z,Rat.zero_add] at this
 exact this
theorem Yv {t b:Int} (hb:0 < b):vl (Ac.lw t b) = (t:Rat) / (b:Rat):=YD (y:=(t,b)) (Ac.jd hb) hb (Ac.xV hb)
noncomputable def rC (ns:List Str) (gs:List (Str × Int)) (S:Int):List (Nat × Int × Int):=(Ac.ways gs S).map fun g=>(ns.idxOf g.1,g.2)
theorem JQ {ns:List Str} {S:Int} (hS:0 < S) {G:Nat->Rat} : ∀ {acc:List (Str × Int)},(∀ g ∈ acc,0 <= g.2)->lE (((acc.filter fun g=>decide (0 < g.2)).map fun g=>(g.1,Ac.lw g.2 S)).map fun g=>(ns.idxOf g.1,g.2)) G = wsum acc (fun n=>G (ns.idxOf n)) / (S:Rat)
 | [],_=>by
  show (0:Rat) = 0 / (S:Rat)
  grind
 | a :: acc,h=>by
  have ih:=JQ (ns:=ns) hS (G:=G) (acc:=acc) fun g hg=>h g (aG _ hg)
  have a0:=h a aM
  have:=eN hS
  rw [j6,List.filter_cons]
  by_cases e:0 < a.2
  .rw [if_pos (decide_eq_true e),List.map_cons,List.map_cons]
   show vl (Ac.lw a.2 S) * G (ns.idxOf a.1) + lE _ G = _
   rw [ih,Yv hS]
   grind
  .rw [if_neg (by simp [e]),ih]
   have z:a.2 = 0:=by omega
   rw [z,Rat.intCast_zero]
   grind
theorem TJ {ns:List Str} {gs:List (Str × Int)} {S:Int} (hS:0 < S) (lo:∀ g ∈ gs,0 <= g.2) {G:Nat->Rat} : lE (rC ns gs S) G = wsum gs (fun n=>G (ns.idxOf n)) / (S:Rat):=by
 unfold rC Ac.ways
 rw [JQ hS fun g hg=>((Ac.rK gs lo).2.2 g hg).1,Qh]
noncomputable def xX (rs:List Nat) (ws:List Int) (S:Int):List (Nat × Int × Int):=List.zipWith (fun r x=>(r,Ac.lw x S)) rs ws
theorem Zg {ns:List Str} (nd:ns.Nodup) {r:Nat} {m:Str} (h:ns[r]? = some m):ns.idxOf m = r:=by
 have lm:ns.idxOf m < ns.length:=List.idxOf_lt_length_of_mem (aA h)
 have e:ns[ns.idxOf m]? = some m:=by rw [aj lm,List.getElem_idxOf lm]
 exact oE nd e h
theorem JN {ns:List Str} (nd:ns.Nodup) {S:Int} (hS:0 < S) {G:Nat->Rat} : ∀ {rs:List Nat} {nms:List Str} {ws:List Int},v9 ns rs nms->lE (xX rs ws S) G = wsum (nms.zip ws) (fun n=>G (ns.idxOf n)) / (S:Rat)
 | [],nms,ws,h=>by
  have e:nms = []:=List.eq_nil_of_length_eq_zero h.1
  subst e
  show (0:Rat) = 0 / (S:Rat)
  grind
 | r :: rs,[],_,h=>by cases h.1
 | r :: rs,m :: nms,[],h=>by
  show (0:Rat) = 0 / (S:Rat)
  grind
 | r :: rs,m :: nms,x :: ws,h=>by
  have ih:=JN nd hS (G:=G) (rs:=rs) (nms:=nms) (ws:=ws) ⟨Nat.succ.inj h.1,fun k r' m' e1 e2=>h.2 (k + 1) r' m' e1 e2⟩
  have e0:=Zg nd (h.2 0 r m rfl rfl)
  show vl (Ac.lw x S) * G r + lE (xX rs ws S) G = _
  rw [ih,Yv hS,List.zip_cons_cons,j6,e0]
  have:=eN hS
  grind
structure xT (n:Nat) (H:Hp) (d:Addr) (fc:(Int × Int) × List (Nat × Int × Int)):Prop where
 ex:∃ (p lp:Addr) (so S:Int) (rs:List Nat) (ws:List Int) (ps:List V),H d = some (.tup [.int so,.ref p,.ref lp])/\H p = some (.tup [.int fc.1.1,.int fc.1.2])/\H lp = some (.lst ps)/\PI H ps rs ws S/\oX n so rs ws S/\∀ G,lE fc.2 G = lE (xX rs ws S) G
theorem xT.same {n:Nat} {H H':Hp} {d:Addr} {fc:(Int × Int) × List (Nat × Int × Int)} (h:xT n H d fc) (S:Same H H'):xT n H' d fc:=by
 obtain ⟨p,lp,so,S',rs,ws,ps,a,b,c,e,f,g⟩:=h.ex
 exact ⟨p,lp,so,S',rs,ws,ps,S _ _ a,S _ _ b,S _ _ c,e.same S,f,g⟩
theorem WF.get {H:Hp} : ∀ {xs:List V} {gs:List (Str × Int × Int)} {ws:List (Str × Addr)} {k:Nat} {g:Str × Addr},WF K H xs gs ws->ws[k]? = some g->∃ x,gs[k]? = some (g.1,x)/\SqT K H g.2 [.int x.1,.int x.2]
 | _,_,_,_,_,.nil,e=>by simp at e
 | _,_,_,0,_,.cons (x:=x) (y:=y) h1 h2 r,e=>by
  rw [List.getElem?_cons_zero] at e
  cases e
  exact ⟨(x,y),rfl,h2⟩
 | _,_,_,k + 1,_,.cons h1 h2 r,e=>by
  rw [List.getElem?_cons_succ] at e ⊢
  exact r.get e
theorem WF.len2 {H:Hp} : ∀ {xs:List V} {gs:List (Str × Int × Int)} {ws:List (Str × Addr)},WF K H xs gs ws->ws.length = gs.length
 | _,_,_,.nil=>rfl
 | _,_,_,.cons _ _ r=>congrArg (· + 1) r.len2
theorem uN.fc {n:Nat} {ns:List Str} {H:Hp} {d:Addr} {g:Dr} (h:uN K n ns H H d g) (nd:ns.Nodup) (ln:ns.length = n):∃ fc:(Int × Int) × List (Nat × Int × Int),DrN K H ns g fc.1 fc.2/\tR n fc.1 fc.2/\xT n H d fc:=by
 have few:=h.few
 obtain ⟨p,lp,so,x,y,S,rs,ws,ps,xs,nms,a1,a2,a3,a4,a5,a6,a7,a8,a9,b⟩:=h.ex
 have lo:∀ z ∈ nms.zip ws,0 <= z.2:=fun z hz=>a7.lo _ (List.of_mem_zip (a:=z.1) (b:=z.2) hz).2
 have sa:=a4.sa
 have sb:=a4.sb
 have S0:=a7.pos
 have S1:=a7.le
 have wl:=b.len2
 have key:∀ z ∈ Ac.ways (nms.zip ws) S,z.1 ∈ ns:=fun z hz=>by
  have hm:z.1 ∈ g.ws.map (·.1):=by rw [b.keys]; exact List.mem_map_of_mem hz
  obtain ⟨u,hu,e⟩:=List.mem_map.mp hm
  rw [<- e]
  exact few.2 u hu
 have fr:∀ z ∈ Ac.ways (nms.zip ws) S,Fq z.2/\z.2.2 ∣ S:=fun z hz=>by
  unfold Ac.ways at hz
  obtain ⟨u,hu,rfl⟩:=List.mem_map.mp hz
  obtain ⟨hu1,hu2⟩:=List.mem_filter.mp hu
  have q:=(Ac.rK _ lo).2.2 u hu1
  have sm:((nms.zip ws).map (·.2)).sum = S:=by
   have:(nms.zip ws).map (·.2) = ws:=List.map_snd_zip (by have:=a8.1; have:=a7.len; omega)
   rw [this]; exact a7.sum
  rw [sm] at q
  have b1:=Ac.zW u.2 S
  have b2:=Ac.xJ u.2 S
  exact ⟨⟨Ac.jd S0,Ac.ur S0,by show (Ac.lw u.2 S).1.natAbs <= _; omega,by show (Ac.lw u.2 S).2.natAbs <= _; omega⟩,Int.ediv_dvd_of_dvd (Int.gcd_dvd_right u.2 S)⟩
 refine ⟨((x,y),rC ns (nms.zip ws) S),⟨by rw [a9]; exact a2,by unfold rC; rw [ak,wl],fun k u c e1 e2=>?_⟩,⟨⟨a3,aK sa (by decide),?_⟩,?_,fun c hc=>?_,?_⟩,⟨p,lp,so,S,rs,ws,ps,a1,a2,a5,a6,a7,fun G=>?_⟩⟩
 .obtain ⟨z,ez,hz⟩:=b.get e1
  unfold rC at e2
  rw [aq,ez] at e2
  cases e2
  have lm:ns.idxOf u.1 < ns.length:=List.idxOf_lt_length_of_mem (few.2 u (aA e1))
  exact ⟨by rw [aj lm,List.getElem_idxOf lm],hz⟩
 .unfold Bn
  have:(10:Nat) ^ 40 = 10 ^ 3 * 10 ^ 37:=by decide
  show y.natAbs <= _
  omega
 .unfold rC
  rw [ak,<- wl]
  have:=few.1
  omega
 .unfold rC at hc
  obtain ⟨z,hz,rfl⟩:=List.mem_map.mp hc
  exact ⟨by rw [<- ln]; exact List.idxOf_lt_length_of_mem (key z hz),(fr z hz).1⟩
 .have dv:lvB (chF (rC ns (nms.zip ws) S)) ∣ S.natAbs:=Lv.Jg.mpr fun c hc=>by
   unfold Jj chF rC at hc
   obtain ⟨f,hf,rfl⟩:=List.mem_map.mp hc
   obtain ⟨c2,hc2,rfl⟩:=List.mem_map.mp hf
   obtain ⟨z,hz,rfl⟩:=List.mem_map.mp hc2
   exact Int.natAbs_dvd_natAbs.mpr (fr z hz).2
  have le:=Nat.le_of_dvd (by omega) dv
  unfold Bn
  rw [Int.natAbs_natCast]
  show lvB (chF (rC ns (nms.zip ws) S)) <= _
  have:(10:Nat) ^ 20 <= 10 ^ 60:=by decide
  omega
 .show lE (rC ns (nms.zip ws) S) G = _
  rw [TJ S0 lo,JN nd S0 a8]
theorem xY {α β:Type} : ∀ {l:List α} {P:Nat->α->β->Prop},(∀ k a,l[k]? = some a->∃ b,P k a b)->∃ m:List β,m.length = l.length/\∀ k a b,l[k]? = some a->m[k]? = some b->P k a b
 | [],_,_=>⟨[],rfl,fun k a b e=>by simp at e⟩
 | a :: l,P,h=>by
  obtain ⟨b,hb⟩:=h 0 a rfl
  obtain ⟨m,lm,hm⟩:=xY (l:=l) (P:=fun k=>P (k + 1)) fun k a e=>h (k + 1) a e
  refine ⟨b :: m,congrArg (· + 1) lm,fun k a' b' e1 e2=>?_⟩
  cases k with
  | zero =>
   cases e1
   cases e2
   exact hb
  | succ k=>exact hm k a' b' e1 e2
theorem qC.fcs {n:Nat} {ns:List Str} {H:Hp} {ds:List Addr} {gs:List Dr} (h:qC K n ns H H ds gs) (nd:ns.Nodup) (ln:ns.length = n):∃ fcs:List ((Int × Int) × List (Nat × Int × Int)),OJ K H ns n gs fcs/\fcs.length = ds.length/\∀ (k:Nat) d fc,ds[k]? = some d->fcs[k]? = some fc->xT n H d fc:=by
 obtain ⟨m,lm,hm⟩:=xY (l:=ds) (P:=fun k d (fc:(Int × Int) × List (Nat × Int × Int))=>∀ g,gs[k]? = some g->DrN K H ns g fc.1 fc.2/\tR n fc.1 fc.2/\xT n H d fc) fun k d e=>by
  have lk:k < gs.length:=by rw [h.len]; exact (ao.mp e).1
  obtain ⟨fc,p⟩:=(h.at_ k d _ e (aj lk)).fc nd ln
  exact ⟨fc,fun g eg=>by rw [aj lk] at eg; cases eg; exact p⟩
 refine ⟨m,⟨by rw [h.len,lm],fun k d fc e1 e2=>?_⟩,lm,fun k d fc e1 e2=>?_⟩
 .have lk:k < ds.length:=by rw [<- lm]; exact (ao.mp e2).1
  obtain ⟨a,b,_⟩:=hm k _ fc (aj lk) e2 d e1
  exact ⟨a,b⟩
 .have lk:k < gs.length:=by rw [h.len]; exact (ao.mp e1).1
  exact (hm k d fc e1 e2 _ (aj lk)).2.2
noncomputable def vJ (D1:Addr) (H:Hp) (vs:List V) (k:Nat) (ys:List V) (H':Hp):Prop:=Same H H'/\H' D1 = some (.lst ys)/\ys = vs.take k
theorem vJ.next {D1:Addr} {H H' H2:Hp} {vs ys:List V} {k:Nat} {v:V} (h:vJ D1 H vs k ys H') (hD:H D1 = none) (S:Same H' H2) (e:vs[k]? = some v):vJ D1 H vs (k + 1) (ys ++ [v]) (upd H2 D1 (.lst (ys ++ [v]))):=by
 obtain ⟨S1,h1,rfl⟩:=h
 exact ⟨fun b o z=>(bF (bA z hD)).trans (S _ _ (S1 _ _ z)),bB,(cD e).symm⟩
theorem O9 {K:Frag} {tl te:TE} {σ:L2.St} {H:Hp} {Q:VK} (vs:List V) (h:tl σ H fun x H1=>∃ a xs,x = .ref a/\H1 a = some (.lst xs)/\xs.length = vs.length/\vs.length <= sizeLine/\(∀ (k:Nat) x y Hc (R:VK),xs[k]? = some x->vs[k]? = some y->Same H1 Hc->(∀ H2,Same Hc H2->R y H2)->te (some x :: σ) Hc R) /\
  ∀ D Hc,Same H1 Hc->H1 D = none->Hc D = some (.lst vs)->Q (.ref D) Hc) (mono:∀ {σ H} {R R':VK},(∀ v H,R v H->R' v H)->tl σ H R->tl σ H R'):jz (z8 K (tM tl)) 1 (tMG (cL 0)) (tMT Jr) (tM te) σ H Q:=by
 refine dB (mono (fun x H1 ⟨a,xs,e,ha,l,sz,hb,q⟩=>⟨a,xs,e,ha,by omega,fun D hD=>⟨vJ D H1 vs,⟨Same.upd hD,bB,rfl⟩,fun k x ys Hc hk j hy hc=>?_,fun ys Hc ⟨S1,h1,ey⟩ hy=>?_⟩⟩) h)
 .have lk:k < vs.length:=by rw [<- l]; exact (ao.mp hk).1
  exact hb k x _ Hc _ hk (aj lk) j.1 fun H2 S=>⟨S _ _ j.2.1,S _ _ hc,j.next hD S (aj lk)⟩
 .rw [l,aN] at ey
  subst ey
  exact q D Hc S1 hD h1
theorem Uu {i:Nat} {σ:L2.St} {H:Hp} {R R':VK} (h:∀ v H,R v H->R' v H):Aa i σ H R->Aa i σ H R':=fun ⟨v,a,b⟩=>⟨v,a,h _ _ b⟩
theorem QZ {K:Frag} {i:Nat} {te:TE} {σ:L2.St} {H:Hp} {Q:VK} {a:Addr} {xs:List V} (vs:List V) (hσ:σ[i]? = some (some (.ref a))) (ha:H a = some (.lst xs)) (l:xs.length = vs.length) (sz:vs.length <= sizeLine) (hb:∀ (k:Nat) x y Hc (R:VK),xs[k]? = some x->vs[k]? = some y->Same H Hc->(∀ H2,Same Hc H2->R y H2)->te (some x :: σ) Hc R)
  (q:∀ D Hc,Same H Hc->H D = none->Hc D = some (.lst vs)->Q (.ref D) Hc):jz (z8 K (tM (Aa i))) 1 (tMG (cL 0)) (tMT Jr) (tM te) σ H Q:=O9 vs ⟨_,hσ,a,xs,rfl,ha,l,sz,hb,q⟩ Uu
noncomputable def K5:Sp:=fun vs H Q _=>∃ (p:Addr) (a b:Int),vs = [.ref p]/\H p = some (.tup [.int a,.int b])/\0 < b/\Int.gcd a b = 1/\Q (.bl true) H
theorem DG (F:Fun K jr jr qy f fd) (T:Txt K mg D) (CJ:OkF P w K mg base 1 xH wM Bj):cj P w K mg base CX0 2 f fd jo K5:=by
 refine F.ok uI (fun vs H Q E h=>?_) (fun cdv A outer s H vs Q E hr h=>?_)
 .obtain ⟨p,a,b,rfl,_⟩:=h
  rfl
 .obtain ⟨p,a,b,rfl,hp,b0,g1,q⟩:=h
  refine ⟨_,(bG (cW (PW.pt (pw_or (dM (dz (bR iJ (by rfl) T.b_ boot_isinstance (bw (pv 0) (bw (jM (v:=.ty "tuple") (by rfl) T.N7 boot_tuple rfl) bD))) (fun _=>rfl))) (pw_or1 (cN Ob (bR Qa (by rfl) T.m5 PySem.boot_len (bw (pv 0) bD)) bC (cH _)))))
    (bI (bU lG))
    cB)
   (bG (jU PassesOwn.never rfl (aae ((pv 0)).mono) (cF (i:=1) uI.nd rfl (Or.inl rfl))
    (bI (cW (PW.pt (pw_or (dM (dz (bR iJ (by rfl) T.b_ boot_isinstance (bw (pv 1) (bw (jM (v:=.ty "int") (by rfl) T.RQ boot_int rfl) bD))) (fun _=>rfl))) (pw_or1 (dz (bR iJ (by rfl) T.b_ boot_isinstance (bw (pv 1) (bw (jM (v:=.ty "bool") (by rfl) T.El boot_bool rfl) bD))) (fun _=>rfl)))))
     (bI (bU lG))
     cB)))
   (bI (bU (yS (kE Nj (bM bV (pv 0) bC (fun _ _=>rfl)) bC (cH _)) (Ak (kE mF (bK CJ (hr.mono (by decide)) (by rfl) (bw (bM bV (pv 0) bC (fun _ _=>rfl)) (bw (bM bV (pv 0) bC (fun _ _=>rfl)) bD))) bC (cH _)))))))),?_⟩
  refine cA fun R1 hR1=>?_
  refine jW ⟨_,rfl,_,_,_,rfl,by simp,Xh hp,true,rfl,_,rfl,p,_,rfl,hp,rfl,false,rfl,?_⟩
  show R1 _ _ _
  subst hR1
  refine jW (O5 ⟨_,rfl,p,_,rfl,hp,fun _ σ H'=>(∃ u,σ = [some (.ref p),u])/\H' = H,⟨⟨none,rfl⟩,rfl⟩,?_,?_⟩)
  .rintro k x σ' H' hk ⟨⟨u,rfl⟩,rfl⟩ hx
   obtain ⟨i,rfl⟩ : ∃ i,x = .int i:=by
    match k with
    | 0=>cases hk; exact ⟨_,rfl⟩
    | 1=>cases hk; exact ⟨_,rfl⟩
    | k + 2=>simp at hk
   exact ⟨_,rfl,_,_,_,rfl,by simp,rfl,true,rfl,_,rfl,_,_,_,rfl,by simp,rfl,false,rfl,hx,⟨_,rfl⟩,rfl⟩
  .rintro σ' H' ⟨⟨u,rfl⟩,rfl⟩ hx
   dsimp only
   refine jT ⟨_,rfl,p,_,1,_,rfl,rfl,hp,cG,b,0,rfl,rfl,true,congrArg V.bl (decide_eq_true b0),?_⟩
   rw [if_pos rfl]
   refine ⟨_,rfl,p,_,0,_,rfl,rfl,hp,cV,_,rfl,p,_,1,_,rfl,rfl,hp,cG,a,b,rfl,rfl,?_⟩
   rw [g1]
   exact q
noncomputable def LR:Sp:=fun vs H Q _=>∃ (l:Addr) (zs:List V) (n:Nat),vs = [.ref l,.int n]/\H l = some (.lst zs)/\zs.length = n/\n <= 100/\(∀ z ∈ zs,∃ t a b,z = .ref t/\H t = some (.tup [.int a,.int b])/\0 < b/\Int.gcd a b = 1)/\∀ H',Same H H'->Q (.bl true) H'
theorem Bv (F:Fun K iQ iQ lN f fd) (T:Txt K mg D) (q_:OkF P w K mg base 2 jr jo K5):cj P w K mg base CX0 3 f fd iK LR:=by
 refine F.ok Bu (fun vs H Q E h=>?_) (fun cdv A outer s H vs Q E hr h=>?_)
 .obtain ⟨l,zs,n,rfl,_⟩:=h
  rfl
 .obtain ⟨l,zs,n,rfl,hl,zl,n100,al,q⟩:=h
  have z9:100 < sizeLine:=by decide
  refine ⟨_,(bG (cW (PW.pt (pw_or (dM (dz (bR iJ (by rfl) T.b_ boot_isinstance (bw (pv 0) (bw (jM (v:=.ty "list") (by rfl) T.zj boot_list rfl) bD))) (fun _=>rfl))) (pw_or1 (cN Ob (bR iC (by rfl) T.m5 PySem.boot_len (bw (pv 0) bD)) (pv 1) (cH _)))))
    (bI (bU lG))
    cB)
   (bI (bU (bR (wO rfl) (by rfl) T.U_ boot_all (bw (jl (bH lN) oW oW ["_law_one"] (cX ((pv 0)).mono) (dU (i:=0)) cU (bK q_ (hr.mono (by decide)) (by rfl) (bw (pv 0) bD))) bD))))),?_⟩
  refine cA fun R1 hR1=>?_
  refine jW ⟨_,rfl,_,_,_,rfl,by simp,VB hl,true,rfl,_,rfl,l,_,rfl,hl,_,rfl,rfl,false,congrArg (fun b=>V.bl (!b)) (decide_eq_true (by rw [zl])),?_⟩
  show R1 _ _ _
  subst hR1
  refine jT (Kd (QZ (List.replicate n (.bl true)) rfl hl (by rw [aL,zl]) (by rw [aL]; omega) ?_ fun l2 H2 S2 f2 h2=>?_))
  .intro k x y Hc R hk hy Sc r
   obtain ⟨t,a,b,rfl,ht,b0,g1⟩:=al x (aA hk)
   rw [List.getElem?_replicate] at hy
   have ey:y = .bl true:=by
    split at hy
    .exact (Option.some.inj hy).symm
    .cases hy
   subst ey
   exact ⟨_,rfl,t,a,b,rfl,Sc _ _ ht,b0,g1,r Hc fun _ _ z=>z⟩
  .refine ⟨l2,List.replicate n true,rfl,by rw [h2,List.map_replicate],?_⟩
   have e:(List.replicate n true).all id = true:=List.all_eq_true.mpr fun x hx=>(List.mem_replicate.mp hx).2
   rw [e]
   exact q H2 S2
noncomputable def Eb (D:Adr):Sp:=fun vs H Q _=>∃ (p q:Addr) (x y u v:Int),vs = [.ref p,.ref q]/\H p = some (.tup [.int x,.int y])/\H q = some (.tup [.int u,.int v])/\Bd x/\Bd y/\Bd u/\Bd v/\x * v = u * y/\Q (.bl true) H
theorem Xm (F:Fun K wj wj s_same f fd) (T:Txt K mg D):cj P w K mg base CX0 1 f fd vG (Eb D):=by
 refine F.ok Wc (fun vs H Q E h=>?_) (fun cdv A outer s H vs Q E hr h=>?_)
 .obtain ⟨p,q,x,y,u,v,rfl,_⟩:=h
  rfl
 .obtain ⟨p,q,x,y,u,v,rfl,hp,hq,bx,b_y,bu,bv,e,k⟩:=h
  refine ⟨_,(bI (bU (kE mF (bL cC (bM bV (pv 0) bC (fun _ _=>rfl)) (bM bV (pv 1) bC (fun _ _=>rfl))) (bL cC (bM bV (pv 1) bC (fun _ _=>rfl)) (bM bV (pv 0) bC (fun _ _=>rfl))) (cH _)))),?_⟩
  refine jT ⟨_,rfl,p,_,0,_,rfl,rfl,hp,cV,_,rfl,q,_,1,_,rfl,rfl,hq,cG,x,v,rfl,rfl,⟨bx,bv⟩,_,rfl,q,_,0,_,rfl,rfl,hq,cV,_,rfl,p,_,1,_,rfl,rfl,hp,cG,u,y,rfl,rfl,⟨bu,b_y⟩,rfl,?_⟩
  rw [decide_eq_true (congrArg V.int e)]
  exact k
theorem Vg {cs:List (Nat × Int × Int)} {c:Nat × Int × Int} {G:Nat->Rat} : lE (cs ++ [c]) G = lE cs G + vl c.2 * G c.1:=by
 induction cs with
 | nil =>
  show vl c.2 * G c.1 + 0 = 0 + vl c.2 * G c.1
  rw [Rat.add_zero,Rat.zero_add]
 | cons a cs ih =>
  show vl a.2 * G a.1 + lE (cs ++ [c]) G = vl a.2 * G a.1 + lE cs G + vl c.2 * G c.1
  rw [ih,Rat.add_assoc]
theorem Nr:∀ {l:List Int},(∀ x ∈ l,0 <= x)->0 <= l.sum/\∀ x ∈ l,x <= l.sum
 | [],_=>⟨Int.le_refl _,by simp⟩
 | a :: l,h=>by
  obtain ⟨h1,h2⟩:=Nr (l:=l) fun x hx=>h x (aG _ hx)
  have h0:=h a aM
  rw [List.sum_cons]
  refine ⟨by omega,fun x hx=>?_⟩
  rcases List.mem_cons.mp hx with rfl | hx
  .omega
  .have:=h2 x hx
   omega
theorem abS {n:Nat} {so:Int} {rs:List Nat} {ws:List Int} {S x:Int} (h:oX n so rs ws S) (hx:x ∈ ws):Bn 20 (Ac.lw x S).1/\Bn 20 (Ac.lw x S).2:=by
 have h1:=(Nr h.lo).2 x hx
 rw [h.sum] at h1
 have h2:=h.lo x hx
 have h3:=h.le
 have h4:=h.pos
 have b1:=Ac.zW x S
 have b2:=Ac.xJ x S
 constructor <;> unfold Bn <;> omega
noncomputable def DN:Sp:=fun vs H Q _=>∃ (p d l:Addr) (s:Int × Int) (n:Nat) (fc:(Int × Int) × List (Nat × Int × Int)) (xs:List V) (fs:List (Int × Int)),vs = [.ref p,.ref d,.ref l]/\H p = some (.tup [.int s.1,.int s.2])/\0 < s.2/\Bn 40 s.1/\Bn 40 s.2/\xT n H d fc/\tR n fc.1 fc.2/\H l = some (.lst xs)/\FL H xs fs/\(∀ f ∈ fs,Fq f)/\fs.length = n /\
 ∀ r z y H',Same H H'->H' r = some (.tup [.int z,.int y])->0 < y->Bd z->Bd y->vl (z,y) = Jh s fc.1 fc.2 fs->Q (.ref r) H'
theorem Wm (F:Fun K uZ uZ Kv f fd) (T:Txt K mg D):cj P w K mg base CX0 1 f fd u_ DN:=by
 refine F.ok kh (fun vs H Q E h=>?_) (fun cdv A outer s H vs Q E hr h=>?_)
 .obtain ⟨p,d,l,s,n,fc,xs,fs,rfl,_⟩:=h
  rfl
 .obtain ⟨p,d,l,sh,n,fc,xs,fs,rfl,hp,s0,b1,b2,ld,df,hl,fl,fq,fn,q⟩:=h
  obtain ⟨pp,lp,so,S,rs,ws,ps,hd,hpp,hlp,pi,dr,be⟩:=ld.ex
  refine ⟨_,(bG (bQ (i:=3) kh.nd rfl (Or.inl rfl) bC)
   (bG (bQ (i:=4) kh.nd rfl (Or.inl rfl) bC)
   (bG (jU PassesOwn.never rfl (cX ((bM bV (pv 1) bC (fun _ _=>rfl))).mono) (fX (n:=2) rfl (cu (cF (i:=5) kh.nd rfl (Or.inl rfl)) (cu (cF (i:=6) kh.nd rfl (Or.inl rfl)) fK)))
    (bG (bQ (i:=7) kh.nd rfl (Or.inl rfl) (bL cC (bM bV (pv 6) bC (fun _ _=>rfl)) (bM bV (bM bN (pv 2) (pv 5) (fun _ _=>rfl)) bC (fun _ _=>rfl))))
    (bG (bQ (i:=3) kh.nd rfl (Or.inl rfl) (bL cT (bL cC (pv 3) (pv 7)) (bL cC (bL cC (bM bV (pv 6) bC (fun _ _=>rfl)) (bM bV (bM bN (pv 2) (pv 5) (fun _ _=>rfl)) bC (fun _ _=>rfl))) (pv 4))))
    (bI (bQ (i:=4) kh.nd rfl (Or.inl rfl) (bL cC (pv 4) (pv 7)))))))
   (bG (bQ (i:=3) kh.nd rfl (Or.inl rfl) (bL cC (pv 3) (bM bV (pv 0) bC (fun _ _=>rfl))))
   (bG (bQ (i:=4) kh.nd rfl (Or.inl rfl) (bL cC (pv 4) (bM bV (pv 0) bC (fun _ _=>rfl))))
   (bI (bU (yN (bw (bL cT (bL cC (bM bV (bM bV (pv 1) bC (fun _ _=>rfl)) bC (fun _ _=>rfl)) (pv 4)) (bL cC (pv 3) (bM bV (bM bV (pv 1) bC (fun _ _=>rfl)) bC (fun _ _=>rfl)))) (bw (bL cC (pv 4) (bM bV (bM bV (pv 1) bC (fun _ _=>rfl)) bC (fun _ _=>rfl))) bD)))))))))),?_⟩
  refine cM ?_
  refine cM ?_
  have pl:(xX rs ws S).length = rs.length:=by unfold xX; rw [List.length_zipWith,dr.len,Nat.min_self]
  refine cA fun R1 hR1=>?_
  refine jW (gK ⟨_,rfl,d,_,2,_,rfl,rfl,hd,bY (j:=2) rfl,lp,ps,rfl,hlp,fun k σ H'=>∃ (t b:Int) (u5 u6 u7:Option V),σ = [some (.ref p),some (.ref d),some (.ref l),some (.int t),some (.int b),u5,u6,u7]/\H' = H/\0 < b/\Bn (61 * k) t/\Bn (61 * k) b/\vl (t,b) = lE ((xX rs ws S).take k) (wq fs),⟨0,1,none,none,none,rfl,rfl,by decide,aZ _,aD _,?_⟩,?_,?_⟩)
  .show ((0:Int):Rat) / ((1:Int):Rat) = 0
   rw [Rat.intCast_zero]
   grind
  .rintro k x σ' H' hk ⟨t,b,u5,u6,u7,rfl,rfl,b0,bt,bb,v⟩ hx
   have lk:k < rs.length:=by rw [<- pi.len]; exact (ao.mp hk).1
   have k8:=dr.l8
   have er:rs[k]? = some rs[k]:=aj lk
   have ew:ws[k]? = some (ws[k]'(by rw [<- dr.len]; exact lk)):=aj _
   obtain ⟨tt,c,e1,e2,e3⟩:=pi.at_ k _ _ er ew
   rw [hk] at e1
   cases e1
   have lr:=dr.lt _ (aR lk)
   obtain ⟨c1,c2⟩:=abS dr (aA ew)
   have c0:=Ac.jd (t:=ws[k]'(by rw [<- dr.len]; exact lk)) dr.pos
   have ep:(xX rs ws S)[k]? = some (rs[k],Ac.lw (ws[k]'(by rw [<- dr.len]; exact lk)) S):=by unfold xX; rw [List.getElem?_zipWith,er,ew]
   generalize ws[k]'(by rw [<- dr.len]; exact lk) = wk at *
   generalize rs[k] = r at *
   have xl:r < xs.length:=by rw [fl.length,fn]; exact lr
   have ex:xs[r]? = some xs[r]:=aj xl
   obtain ⟨wp,g,eg,ef,hw⟩:=fl.get ex
   rw [eg] at ex
   have gq:=fq g (aA ef)
   have g1:Bn 40 g.1:=gq.sa
   have g2:Bn 40 g.2:=gq.sb
   have g0:=gq.pos
   have eq:wq fs r = vl g:=by unfold wq; rw [List.getD_eq_getElem?_getD,ef]; rfl
   generalize Ac.lw wk S = C at *
   have bp:Bn 60 (C.2 * g.2):=Bn.mul c2 g2
   have bd:∀ {a:Nat} {z:Int},Bn a z->a <= 1000->Bd z:=fun h l=>h.bd (by omega)
   refine ⟨tt,_,rfl,e2,rfl,_,_,rfl,_,_,rfl,rfl,?_⟩
   dsimp only [cL,List.set_cons_succ,List.set_cons_zero]
   refine cM ⟨_,rfl,c,_,1,_,rfl,rfl,e3,cG,_,rfl,_,rfl,l,xs,_,_,rfl,rfl,hl,bY ex,wp,_,1,_,rfl,rfl,hw,cG,_,_,rfl,rfl,⟨bd c2 (by decide),bd g2 (by decide)⟩,?_⟩
   dsimp only [cL,List.set_cons_succ,List.set_cons_zero]
   refine cM ⟨_,rfl,_,rfl,_,_,rfl,rfl,⟨bd bt (by omega),bd bp (by decide)⟩,_,rfl,c,_,0,_,rfl,rfl,e3,cV,_,rfl,_,rfl,l,xs,_,_,rfl,rfl,hl,bY ex,wp,_,0,_,rfl,rfl,hw,cV,_,_,rfl,rfl,⟨bd c1 (by decide),bd g1 (by decide)⟩,_,rfl,_,_,rfl,rfl,⟨bd (Bn.mul c1 g1) (by decide),bd bb (by omega)⟩,_,_,rfl,rfl,?_⟩
   dsimp only [cL,List.set_cons_succ,List.set_cons_zero]
   refine ⟨_,rfl,_,rfl,_,_,rfl,rfl,⟨bd bb (by omega),bd bp (by decide)⟩,hlp,_,_,_,_,_,rfl,rfl,Int.mul_pos b0 (Int.mul_pos c0 g0),?_,?_,?_⟩
   .have:=Bn.add (a:=61 * k + 60) (Bn.mul bt bp) ((Bn.mul (Bn.mul c1 g1) bb).up (by omega))
    exact this.up (by omega)
   .exact (Bn.mul bb bp).up (by omega)
   .rw [cD ep,Vg,<- v]
    have e1:=Ks (x:=t) (y:=b) (u:=C.1 * g.1) (v:=C.2 * g.2) b0 (Int.mul_pos c0 g0)
    have e2:=Hs (x:=C.1) (y:=C.2) (u:=g.1) (v:=g.2) c0 g0
    rw [e2] at e1
    show vl (t * (C.2 * g.2) + C.1 * g.1 * b,b * (C.2 * g.2)) = vl (t,b) + vl C * wq fs r
    rw [eq]
    exact e1
  .rintro σ' H' ⟨t,b,u5,u6,u7,rfl,rfl,b0,bt,bb,v⟩ hx
   rw [pi.len,<- pl,aN,<- be] at v
   have k8:=dr.l8
   rw [pi.len] at bt bb
   have bt:Bn 488 t:=bt.up (by omega)
   have bb:Bn 488 b:=bb.up (by omega)
   obtain ⟨f0,f1,f2⟩:=df.pay
   subst hR1
   dsimp only
   refine cM ⟨_,rfl,_,rfl,p,_,0,_,rfl,rfl,hp,cV,_,_,rfl,rfl,⟨bt.bd (by decide),b1.bd (by decide)⟩,?_⟩
   dsimp only [cL,List.set_cons_succ,List.set_cons_zero]
   refine cM ⟨_,rfl,_,rfl,p,_,1,_,rfl,rfl,hp,cG,_,_,rfl,rfl,⟨bb.bd (by decide),b2.bd (by decide)⟩,?_⟩
   dsimp only [cL,List.set_cons_succ,List.set_cons_zero]
   have bt2:=Bn.mul bt b1
   have bb2:=Bn.mul bb b2
   refine jT ⟨_,rfl,d,_,1,_,rfl,rfl,hd,cG,pp,_,0,_,rfl,rfl,hpp,cV,_,rfl,_,_,rfl,rfl,⟨f1.bd (by decide),bb2.bd (by decide)⟩,_,rfl,_,rfl,d,_,1,_,rfl,rfl,hd,cG,pp,_,1,_,rfl,rfl,hpp,cG,_,_,rfl,rfl,⟨bt2.bd (by decide),f2.bd (by decide)⟩,_,_,rfl,rfl,_,rfl,_,rfl,d,_,1,_,rfl,rfl,hd,cG,pp,_,1,_,rfl,rfl,hpp,cG,_,_,rfl,rfl,⟨bb2.bd (by decide),f2.bd (by decide)⟩,dG,fun r H2 S2 _ h2=>q r _ _ H2 S2 h2 (Int.mul_pos (Int.mul_pos b0 s0) f0) ?_ ?_ ?_⟩
   .exact (Bn.add (a:=568) (Bn.mul f1 bb2) (Bn.mul bt2 f2)).bd (by decide)
   .exact (Bn.mul bb2 f2).bd (by decide)
   .have e1:=Ks (x:=fc.1.1) (y:=fc.1.2) (u:=t * sh.1) (v:=b * sh.2) f0 (Int.mul_pos b0 s0)
    have e2:=Hs (x:=t) (y:=b) (u:=sh.1) (v:=sh.2) b0 s0
    rw [e2,v] at e1
    unfold Jh
    rw [show vl sh * lE fc.2 (wq fs) = lE fc.2 (wq fs) * vl sh from Rat.mul_comm _ _,Int.mul_comm (b * sh.2) fc.1.2]
    exact e1
structure WL (n:Nat) (H:Hp) (l:Addr) (fs:List (Int × Int)):Prop where
 ex:∃ xs,H l = some (.lst xs)/\FL H xs fs
 fq:∀ f ∈ fs,Fq f
 len:fs.length = n
theorem WL.same {n:Nat} {H H':Hp} {l:Addr} {fs:List (Int × Int)} (h:WL n H l fs) (S:Same H H'):WL n H' l fs:=by
 obtain ⟨xs,a,b⟩:=h.ex
 exact ⟨⟨xs,S _ _ a,b.same S⟩,h.fq,h.len⟩
noncomputable def wU:Sp:=fun vs H Q _=>∃ (c:Int) (n:Nat),vs = [.int c,.int n]/\n <= 12/\∀ r fs H',Same H H'->H r = none->WL n H' r fs->Q (.ref r) H'
theorem PX (F:Fun K ou ou vg f fd) (T:Txt K mg D) (cJ:OkF P w K mg base 1 fD fu dX) (Di:OkF P w K mg base 3 wC wQ zB):cj P w K mg base CX0 4 f fd nY wU:=by
 refine F.ok Df (fun vs H Q E h=>?_) (fun cdv A outer s H vs Q E hr h=>?_)
 .obtain ⟨c,n,rfl,_⟩:=h
  rfl
 .obtain ⟨c,n,rfl,n12,q⟩:=h
  have z9:100 < sizeLine:=by decide
  refine ⟨_,(bG (bQ (i:=2) Df.nd rfl (Or.inr rfl) (bK cJ (hr.mono (by decide)) (by rfl) (bw (pv 0) (bw (bL cC bC (pv 1)) bD))))
   (bI (bU (jl (bH vg) Af Af ["_law_k"] (jk (by rfl) T.mW (bw (pv 1) bD).mono) (dU (i:=0)) cU (bK Di (hr.mono (by decide)) (by rfl) (bw (bL cT (pv 1) (pv 0)) (bw (bM bN (pv 3) (bL cC bC (pv 0)) (fun _ _=>rfl)) (bw (bM bN (pv 3) (bL cT (bL cC bC (pv 0)) bC) (fun _ _=>rfl)) bD)))))))),?_⟩
  refine cA fun R1 hR1=>?_
  refine cM ⟨_,rfl,_,rfl,_,_,rfl,rfl,⟨Bd.sm (by decide),Bd.sm (by omega)⟩,c,2 * n,congrArg (fun z=>[V.int c,V.int z]) (by omega),by omega,fun l xs H1 S1 f1 h1 xl _=>?_⟩
  dsimp only [cL,L2.start]
  subst hR1
  refine jT (kO ⟨_,rfl,n,rfl,by omega,fun D1 g1=>⟨fun k ys Hc=>Same H1 Hc/\Hc D1 = some (.lst ys)/\∃ fs,FL (del [D1] Hc) ys fs/\(∀ f ∈ fs,Fq f)/\fs.length = k,⟨Same.upd g1,bB,[],.nil,by simp,rfl⟩,?_,?_⟩⟩)
  .rintro k ys Hc hk ⟨S2,h2,fs,fl,fq,ln⟩ hy
   have ea:xs[2 * k]? = some (xs[2 * k]'(by omega)):=aj _
   have eb:xs[2 * k + 1]? = some (xs[2 * k + 1]'(by omega)):=aj _
   have hl:=S2 _ _ h1
   refine ⟨_,rfl,_,rfl,_,_,rfl,rfl,_,rfl,_,rfl,_,_,rfl,rfl,⟨Bd.sm (by decide),Bd.sm (by omega)⟩,l,_,_,_,rfl,rfl,hl,bY (j:=2 * k) (by rw [aq,ea]; rfl),?_⟩
   refine ⟨_,rfl,_,rfl,_,_,rfl,rfl,⟨Bd.sm (by decide),Bd.sm (by omega)⟩,_,_,rfl,rfl,l,_,_,_,rfl,rfl,hl,bY (j:=2 * k + 1) (by rw [aq,eb]; rfl),_,_,_,rfl,fun p x y hp y0 g1' sx sy=>?_⟩
   have np:p ∉ [D1]:=by
    simp only [List.mem_singleton]
    exact (bA h2 hp).symm
   refine ⟨(bF (bA h2 hp)).trans h2,fun b o e=>(bF (bA e g1)).trans (Same.upd hp _ _ (S2 _ _ e)),bB,fs ++ [(x,y)],?_,fun f hf=>?_,by rw [au,ln]; rfl⟩
   .rw [rY (List.mem_singleton.mpr rfl)]
    exact (fl.same (qp fun b o _ e=>Same.upd hp _ _ e)).append (.cons (eZ np bB) .nil)
   .rcases List.mem_append.mp hf with hf | hf
    .exact fq f hf
    .rw [List.mem_singleton.mp hf]
     have:(10:Nat) ^ 40 = 10 ^ 30 * 10 ^ 10:=by decide
     exact ⟨y0,g1',by show x.natAbs <= _; omega,by show y.natAbs <= _; omega⟩
  .rintro ys Hc ⟨S2,h2,fs,fl,fq,ln⟩ hy
   exact q D1 fs Hc (S1.trans S2) (Same.free S1 g1) ⟨⟨ys,h2,fl.same mL⟩,fq,ln⟩
structure Dm (n:Nat) (H:Hp) (ds:List Addr) (fcs:List ((Int × Int) × List (Nat × Int × Int))):Prop where
 len:fcs.length = ds.length
 at_:∀ (k:Nat) d fc,ds[k]? = some d->fcs[k]? = some fc->xT n H d fc/\tR n fc.1 fc.2
theorem Dm.same {n:Nat} {H H':Hp} {ds:List Addr} {fcs:List ((Int × Int) × List (Nat × Int × Int))} (h:Dm n H ds fcs) (S:Same H H'):Dm n H' ds fcs:=⟨h.len,fun k d fc e1 e2=>⟨(h.at_ k d fc e1 e2).1.same S,(h.at_ k d fc e1 e2).2⟩⟩
noncomputable def Ao:Sp:=fun vs H Q _=>∃ (l p dl wl:Addr) (zs:List V) (s:Int × Int) (n:Nat) (ds:List Addr) (fcs:List ((Int × Int) × List (Nat × Int × Int))) (fs:List (Int × Int)),vs = [.ref l,.ref p,.ref dl,.ref wl]/\H l = some (.lst zs)/\m_ H zs s fs fcs/\H p = some (.tup [.int s.1,.int s.2])/\0 < s.2/\Bn 40 s.1/\Bn 40 s.2/\H dl = some (.lst (ds.map V.ref))/\ds.length <= 64/\Dm n H ds fcs/\WL n H wl fs/\∀ H',Same H H'->Q (.bl true) H'
theorem Q_ (F:Fun K pW pW yH f fd) (T:Txt K mg D) (oR:OkF P w K mg base 3 iQ iK LR) (Kw:OkF P w K mg base 1 wj vG (Eb D)) (K_:OkF P w K mg base 1 uZ u_ DN):cj P w K mg base CX0 4 f fd qI Ao:=by
 refine F.ok R7 (fun vs H Q E h=>?_) (fun cdv A outer s H vs Q E hr h=>?_)
 .obtain ⟨l,p,dl,wl,zs,s,n,ds,fcs,fs,rfl,_⟩:=h
  rfl
 .obtain ⟨l,p,dl,wl,zs,sh,n,ds,fcs,fs,rfl,hl,lo,hp,s0,b1,b2,hd,d100,rl,wL,q⟩:=h
  have z9:100 < sizeLine:=by decide
  have ll:=lo.len
  have rn:=rl.len
  refine ⟨_,(bG (cW (dM (dz (bK oR (hr.mono (by decide)) (by rfl) (bw (pv 0) (bw (bR iC (by rfl) T.m5 PySem.boot_len (bw (pv 2) bD)) bD))) (fun _=>rfl)))
    (bI (bU lG))
    cB)
   (bI (bU (bR (wO rfl) (by rfl) T.U_ boot_all (bw (jl (bH yH) Fz Fz ["_law_one", "_law_door_here"] (Gu (by rfl) T.Mi (bw (pv 0) (bw (pv 2) bD)).mono) (fX (n:=2) rfl (cu (dU (i:=0)) (cu (dU (i:=1)) fK))) cU (bK Kw (hr.mono (by decide)) (by rfl) (bw (pv 0) (bw (bK K_ (hr.mono (by decide)) (by rfl) (bw (pv 3) (bw (pv 1) (bw (pv 5) bD)))) bD)))) bD))))),?_⟩
  refine cA fun R1 hR1=>?_
  refine jW ⟨_,rfl,_,rfl,dl,_,rfl,hd,l,zs,_,rfl,hl,by rw [ak]; omega,by rw [ak]; omega,fun z hz=>?_,fun H1 S1=>⟨true,rfl,?_⟩⟩
  .obtain ⟨k,hk⟩:=aU hz
   have lk:k < fcs.length:=by rw [<- ll]; exact (ao.mp hk).1
   obtain ⟨t,g,e1,e2,e3⟩:=lo.at_ k _ (aj lk)
   rw [hk] at e1
   cases e1
   exact ⟨t,g.1,g.2,rfl,e2,e3.pos,e3.gcd⟩
  show R1 _ _ _
  subst hR1
  refine jT (Kd (uc ⟨_,rfl,_,rfl,l,dl,zs,_,rfl,S1 _ _ hl,S1 _ _ hd,by rw [ak]; omega,by omega,fun D3 g3=>⟨fun k ys Hc=>Same H1 Hc/\Hc D3 = some (.lst ys)/\ys = List.replicate k (.bl true),⟨Same.upd g3,bB,rfl⟩,?_,?_⟩⟩))
  .rintro k x y ys Hc t2 hx hy ⟨S3,h3,rfl⟩ hz ht2 ha hb pre hpre
   obtain ⟨w1,w2,rfl⟩:=qx hpre
   have lk:k < fcs.length:=by rw [<- ll]; exact (ao.mp hx).1
   have ef:fcs[k]? = some fcs[k]:=aj lk
   have ed:ds[k]? = some (ds[k]'(by omega)):=aj _
   obtain ⟨t,g,e1,e2,e3⟩:=lo.at_ k _ ef
   rw [hx] at e1
   cases e1
   rw [aq,ed] at hy
   cases hy
   obtain ⟨lD,dF⟩:=rl.at_ k _ _ ed ef
   generalize ds[k]'(by omega) = d at *
   generalize fcs[k] = fc at *
   have S4:Same Hc (upd Hc t2 (.tup [.ref t,.ref d])):=Same.upd ht2
   have k4:upd Hc t2 (.tup [.ref t,.ref d]) t2 = _:=bB
   generalize upd Hc t2 (.tup [.ref t,.ref d]) = H4 at S4 k4 ⊢
   have SS:=S1.trans (S3.trans S4)
   obtain ⟨xs,hw,fl⟩:=wL.ex
   refine ⟨t2,_,rfl,k4,rfl,_,_,rfl,_,_,rfl,rfl,[_,_],rfl,rfl,_,rfl,_,rfl,_,rfl,_,rfl,p,d,wl,sh,n,fc,xs,fs,rfl,SS _ _ hp,s0,b1,b2,lD.same SS,dF,SS _ _ hw,fl.same SS,wL.fq,wL.len,fun r z y H5 S5 h5 y0 bz b_y v=>⟨t,r,g.1,g.2,z,y,rfl,S5 _ _ (SS _ _ e2),h5,e3.bx.bd (by decide),e3.b_y.bd (by decide),bz,b_y,U5 e3.pos y0 (e3.vl.trans v.symm),?_⟩⟩
   have S45:=S4.trans S5
   exact ⟨S45 _ _ h3,S45 _ _ ha,S45 _ _ hb,fun b o e=>(bF (bA e g3)).trans (S45 _ _ (S3 _ _ e)),bB,List.replicate_succ'.symm⟩
  .rintro ys Hc ⟨S3,h3,ez⟩ hz
   subst ez
   refine ⟨D3,List.replicate zs.length true,rfl,by rw [h3,List.map_replicate],?_⟩
   have e:(List.replicate zs.length true).all id = true:=List.all_eq_true.mpr fun x hx=>(List.mem_replicate.mp hx).2
   rw [e]
   exact q Hc (S1.trans S3)
noncomputable def Kr (D:Adr):Sp:=fun vs H Q _=>∃ (o p l:Addr) (v:V) (rms:List (Str × List Dr)),vs = [.ref o,v,.ref l]/\jX D H o p rms/\Odd H v/\¬ pK rms.length v/\Hq v v = true/\∀ H',Same H H'->Q (.bl true) H'
theorem Lz (F:Fun K mz mz wI f fd) (T:Txt K mg D) (vU:OkX P w K mg base 5 nZ nW (oh K D)):cj P w K mg base CX0 6 f fd mD (Kr D):=by
 refine F.ok pN (fun vs H Q E h=>?_) (fun cdv A outer s H vs Q E hr h=>?_)
 .obtain ⟨o,p,l,v,rms,rfl,_⟩:=h
  rfl
 .obtain ⟨o,p,l,v,rms,rfl,hh,ov,nv,sv,q⟩:=h
  refine ⟨_,(bG (U3 (i:=3) pN.nd rfl rfl (by rfl) T.xO T.JC T.JR rfl rfl rfl (fun _ _ _ HF=>(bI (cY (fL vU (hr.mono (by decide)) (by rfl) HF (bw (pv 0) (bw (pv 1) (bw (pv 2) bD)))))))
    (fun _ _=>(bG (bQ (i:=4) pN.nd rfl (Or.inl rfl) (mX (bw (bR (eO (K':=K) rfl) (by rfl) T.b_ boot_isinstance (bw (pv 3) (bw (pI (by rfl) T.zA) bD))) (bw (bR (eO (K':=K) rfl) (by rfl) T.b_ boot_isinstance (bw (pv 3) (bw (pI (by rfl) T.Bl) bD))) (bw (bR (eO (K':=K) rfl) (by rfl) T.b_ boot_isinstance (bw (pv 3) (bw (pI (by rfl) T.ux) bD))) (bw (bR (eO (K':=K) rfl) (by rfl) T.b_ boot_isinstance (bw (pv 3) (bw (pI (by rfl) T.PL) bD))) bD))))))
    (bG (bQ (i:=4) pN.nd rfl (Or.inl rfl) (bL XH (pv 4) (mX (bw (bR (eO (K':=K) rfl) (by rfl) T.b_ boot_isinstance (bw (pv 3) (bw (pI (by rfl) T.RM) bD))) (bw (bR (eO (K':=K) rfl) (by rfl) T.b_ boot_isinstance (bw (pv 3) (bw (pI (by rfl) T.Xr) bD))) (bw (bR (eO (K':=K) rfl) (by rfl) T.b_ boot_isinstance (bw (pv 3) (bw (pI (by rfl) T.Um) bD))) (bw (bR (eO (K':=K) rfl) (by rfl) T.b_ boot_isinstance (bw (pv 3) (bw (pI (by rfl) T.RK) bD))) bD)))))))
    (bG (cW (PW.pt (pw_or (cN (show OpR _ _ (rIn K false) from Qd) lG (pv 4) rfl) (pw_or (dM (dz (bR (eO (K':=K) rfl) (by rfl) T.b_ boot_isinstance (bw (pv 3) (bw (pI (by rfl) T.Il) bD))) (fun _=>rfl))) (pw_or1 (dM (dz (bR (eO (K':=K) rfl) (by rfl) T.b_ boot_isinstance (bw (pv 3) (bw (jM (v:=.ty "ValueError") (by rfl) T.FQ yt rfl) bD))) (fun _=>rfl)))))))
     (bI (bU lG))
     cB)
    (bI (bU (yS (kE mF (Iz (K':=K) rfl (pv 3) rfl) (pv 1) (cH _)) (Ak (kE mF (bR iJ (by rfl) T.b_ boot_isinstance (bw (Iz (K':=K) rfl (pv 3) rfl) (bw (jM (v:=.ty "bool") (by rfl) T.El boot_bool rfl) bD))) (bR iJ (by rfl) T.b_ boot_isinstance (bw (pv 1) (bw (jM (v:=.ty "bool") (by rfl) T.El boot_bool rfl) bD))) (cH _)))))))))))
   (bI (bU lG))),?_⟩
  refine cA fun R1 hR1=>?_
  refine jW ⟨fun C d σ H'=>C = .ref D.NoRoom/\σ = [some (.ref o),some v,some (.ref l),none,none]/\∃ d',d = some d'/\Same H H'/\H' d' = some (.xd [("room",v)]),?_,?_⟩
  .exact ⟨_,rfl,_,rfl,_,rfl,o,p,l,v,rms,rfl,hh,ov,.inr ⟨nv,fun d hd=>⟨rfl,rfl,d,rfl,Same.upd hd,bB⟩⟩⟩
  .rintro _ _ σ' H' ⟨rfl,rfl,d,rfl,S,hx⟩
   refine ⟨D.NoRoom,rfl,T.sm_NoRoom,fun a ha=>?_⟩
   have S1:Same H' (upd H' a (XO a D.NoRoom (some d))):=Same.upd ha
   have hX:upd H' a (XO a D.NoRoom (some d)) a = some (XO a D.NoRoom (some d)):=bB
   generalize upd H' a (XO a D.NoRoom (some d)) = H1 at S1 hX ⊢
   have l4:4 <= sizeLine:=by decide
   refine cM ⟨_,rfl,a,D.NoRoom,some d,_,_,false,rfl,hX,.inr ⟨_,rfl,rfl⟩,T.xk_NoRoom,T.ki_NoRoom_NoNumber,_,rfl,a,D.NoRoom,some d,_,_,false,rfl,hX,.inr ⟨_,rfl,rfl⟩,T.xk_NoRoom,T.ki_NoRoom_NoName,_,rfl,a,D.NoRoom,some d,_,_,false,rfl,hX,.inr ⟨_,rfl,rfl⟩,T.xk_NoRoom,T.ki_NoRoom_NoChance,_,rfl,a,D.NoRoom,some d,_,_,false,rfl,hX,.inr ⟨_,rfl,rfl⟩,T.xk_NoRoom,T.ki_NoRoom_NoShare,l4,fun p1 H2 S2 f2 h2=>?_⟩
   have hX:=S2 _ _ hX
   refine cM ⟨_,rfl,_,rfl,a,D.NoRoom,some d,_,_,false,rfl,hX,.inr ⟨_,rfl,rfl⟩,T.xk_NoRoom,T.ki_NoRoom_NoText,_,rfl,a,D.NoRoom,some d,_,_,false,rfl,hX,.inr ⟨_,rfl,rfl⟩,T.xk_NoRoom,T.ki_NoRoom_NoRow,_,rfl,a,D.NoRoom,some d,_,_,false,rfl,hX,.inr ⟨_,rfl,rfl⟩,T.xk_NoRoom,T.ki_NoRoom_NoPlan,_,rfl,a,D.NoRoom,some d,_,_,false,rfl,hX,.inr ⟨_,rfl,rfl⟩,T.xk_NoRoom,T.ki_NoRoom_NoDoor,l4,fun p2 H3 S3 f3 h3=>⟨p1,p2,_,_,rfl,rfl,S3 _ _ h2,h3,(show 8 <= sizeLine by decide),fun p3 H4 S4 f4 h4=>?_⟩⟩
   have hX:=S4 _ _ (S3 _ _ hX)
   have hx:=S4 _ _ (S3 _ _ (S2 _ _ (S1 _ _ hx)))
   have SS:=S.trans (S1.trans (S2.trans (S3.trans S4)))
   refine jW ⟨_,rfl,p3,_,rfl,.inl (.of h4),rfl,rfl,false,rfl,_,rfl,a,D.NoRoom,some d,_,_,true,rfl,hX,.inr ⟨_,rfl,rfl⟩,T.xk_NoRoom,T.ki_NoRoom_NoRoom,true,rfl,_,rfl,a,D.NoRoom,some d,_,_,true,rfl,hX,.inl ⟨_,rfl,rfl⟩,T.xk_NoRoom,T.ki_NoRoom_ValueError,true,rfl,?_⟩
   obtain ⟨ty,et⟩:=ov
   have et:=Tg SS et
   refine ⟨_,rfl,a,D.NoRoom,d,_,v,rfl,hX,hx,T.xk_NoRoom,T.hd_NoRoom,T.mQ,rfl,_,rfl,sv,true,congrArg V.bl (decide_eq_true rfl),?_⟩
   rw [if_pos rfl]
   refine ⟨_,rfl,a,D.NoRoom,d,_,v,rfl,hX,hx,T.xk_NoRoom,T.hd_NoRoom,T.mQ,rfl,_,_,ty,rfl,by simp,et,_,rfl,_,_,ty,rfl,by simp,et,rfl,?_⟩
   rw [decide_eq_true rfl]
   exact q _ SS
noncomputable def rwD (fs:List (Int × Int)):PyData:=.list (fs.map frD)
theorem xU {α:Type} {g:α->PyData} (h:∀ x,PyData.canLay0 (g x) = true):∀ xs:List α,PyData.canLayAll0 (xs.map g) = true
 | []=>rfl
 | x :: xs=>by rw [List.map_cons]; unfold PyData.canLayAll0; rw [xU h xs,h x]; rfl
theorem zU {α:Type} {g:α->PyData} {n:Nat} (h:∀ x,PyData.depth (g x) <= n):∀ xs:List α,PyData.depthAll (xs.map g) <= n
 | []=>aZ _
 | x :: xs=>by
  rw [List.map_cons]; unfold PyData.depthAll
  have:=zU h xs
  have:=h x
  omega
theorem Vl {α:Type} {g:α->PyData} (h:∀ x,PyData.canLay0 (g x) = true) (d:∀ x,PyData.depth (g x) <= 2) (xs:List α):SeqAt.shaped (.list (xs.map g)) = true/\PyData.eqv (.list (xs.map g)) (.list (xs.map g)) = true:=by
 have h1:PyData.canLay0 (.list (xs.map g)) = true:=by unfold PyData.canLay0; exact xU h xs
 have h2:PyData.depth (.list (xs.map g)) <= 64:=by unfold PyData.depth; have:=zU d xs; omega
 refine ⟨?_,PySem.SeqAt.eqv_refl _ h1⟩
 unfold SeqAt.shaped
 rw [h1,decide_eq_true h2]; rfl
theorem Ah (fss:List (List (Int × Int))):SeqAt.shaped (.list (fss.map rwD)) = true/\PyData.eqv (.list (fss.map rwD)) (.list (fss.map rwD)) = true :=
 Vl (fun fs=>by unfold rwD PyData.canLay0; exact Cy fs) (fun fs=>by unfold rwD PyData.depth; have:=Ip fs; omega) fss
theorem OJ.same {H H':Hp} {ns:List Str} {n:Nat} {gs:List Dr} {fcs:List ((Int × Int) × List (Nat × Int × Int))} (h:OJ K H ns n gs fcs) (S:Same H H'):OJ K H' ns n gs fcs:=⟨h.len,fun k d fc e1 e2=>⟨(h.at_ k d fc e1 e2).1.same S,(h.at_ k d fc e1 e2).2⟩⟩
structure LB (K:Frag) (D:Adr) (n:Nat) (H:Hp) (o p r:Addr) (xs:List V) (rms:List (Str × List Dr)) (s:Int × Int):Prop where
 hall:jX D H o p rms
 nd:(rms.map (·.1)).Nodup
 len:rms.length = n
 share:H p = some (.tup [.int s.1,.int s.2])
 s0:0 < s.2
 b1:Bn 40 s.1
 b2:Bn 40 s.2
 rooms:H r = some (.lst xs)
 at_:∀ k,k < n->∃ (g:Str × List Dr) (l:Addr) (ds:List Addr) (fcs:List ((Int × Int) × List (Nat × Int × Int))),rms[k]? = some g/\g.2.length <= 100/\(∀ d ∈ g.2,d.ws.length <= 100)/\xs[k]? = some (.ref l)/\H l = some (.lst (ds.map V.ref))/\ds.length <= 64/\OJ K H (rms.map (·.1)) n g.2 fcs/\Dm n H ds fcs
theorem LB.same {n:Nat} {H H':Hp} {o p r:Addr} {xs:List V} {rms:List (Str × List Dr)} {s:Int × Int} (h:LB K D n H o p r xs rms s) (S:Same H H'):LB K D n H' o p r xs rms s:=by
 refine ⟨h.hall.same S,h.nd,h.len,S _ _ h.share,h.s0,h.b1,h.b2,S _ _ h.rooms,fun k hk=>?_⟩
 obtain ⟨g,l,ds,fcs,a1,a2,a3,a4,a5,a6,a7,a8⟩:=h.at_ k hk
 exact ⟨g,l,ds,fcs,a1,a2,a3,a4,S _ _ a5,a6,a7.same S,a8.same S⟩
theorem LB.ask {n:Nat} {H:Hp} {o p r:Addr} {xs:List V} {rms:List (Str × List Dr)} {s:Int × Int} (h:LB K D n H o p r xs rms s) (n12:n <= 12) {k:Nat} (hk:k < n):∃ (l:Addr) (ds:List Addr) (fcs:List ((Int × Int) × List (Nat × Int × Int))),xs[k]? = some (.ref l)/\H l = some (.lst (ds.map V.ref))/\ds.length <= 64/\Dm n H ds fcs/\∀ {H':Hp} {lw:Addr} {fs:List (Int × Int)} {Q:VK} {E:XK},Same H H'->WL n H' lw fs->(∀ r zs H2,Same H' H2->H' r = none->H2 r = some (.lst zs)->m_ H2 zs s fs fcs->Q (.ref r) H2)->oh K D [.ref o,.int (k:Nat),.ref lw] H' Q E:=by
 obtain ⟨g,l,ds,fcs,a1,a2,a3,a4,a5,a6,a7,a8⟩:=h.at_ k hk
 refine ⟨l,ds,fcs,a4,a5,a6,a8,fun {H' lw fs Q E} S wl q=>?_⟩
 obtain ⟨ys,w1,w2⟩:=wl.ex
 have dn:=a7.same S
 rw [<- wl.len] at dn
 exact ⟨o,p,lw,_,rms,rfl,h.hall.same S,⟨_,rfl⟩,.inl ⟨k,g,s,ys,fs,fcs,rfl,a1,a2,a3,h.nd,S _ _ h.share,h.s0,h.b1,h.b2,w1,w2,wl.fq,by rw [wl.len]; exact n12,dn,fun r H2 zs S2 f2 h2 lo=>q r zs H2 S2 f2 h2 lo⟩⟩
theorem m_.imp {H H':Hp} {zs:List V} {s:Int × Int} {fs:List (Int × Int)} {fcs:List ((Int × Int) × List (Nat × Int × Int))} (h:m_ H zs s fs fcs) (S:∀ t us,H t = some (.tup us)->H' t = some (.tup us)):m_ H' zs s fs fcs:=by
 refine ⟨h.len,fun k fc e=>?_⟩
 obtain ⟨t,q,a,b,c⟩:=h.at_ k fc e
 exact ⟨t,q,a,S _ _ b,c⟩
theorem LB.of {n:Nat} {H:Hp} {o p r:Addr} {x y:Int} {xs:List V} {dss:List (List Addr)} {rms:List (Str × List Dr)} (hh:jX D H o p rms) (ok:Oj rms) (hi:TQ K n H dss rms) (hp:H p = some (.tup [.int x,.int y])) (x0:0 <= x) (xy:x < y) (y1:y <= 100) (hr:H r = some (.lst xs)) (rd:RD n H xs dss) (ld:dss.length = n) (dm:∀ ds ∈ dss,ds.length <= 6):LB K D n H o p r xs rms (x,y):=by
 have rl:rms.length = n:=by rw [hi.len,ld]
 have b:∀ z:Int,0 <= z->z <= 100->Bn 40 z:=fun z h1 h2=>by unfold Bn; omega
 refine ⟨hh,ok.nd,rl,hp,by show 0 < y; omega,b _ x0 (by show x <= 100; omega),b _ (by show 0 <= y; omega) y1,hr,fun k hk=>?_⟩
 have eg:rms[k]? = some (rms[k]'(by omega)):=aj _
 have ed:dss[k]? = some (dss[k]'(by omega)):=aj _
 have ri:=hi.at_ k _ _ ed eg
 obtain ⟨l,a1,a2,_⟩:=rd.at_ k _ ed
 obtain ⟨fcs,d1,d2,d3⟩:=ri.fcs ok.nd (by rw [ak,rl])
 have dl:=dm _ (aA ed)
 refine ⟨_,l,_,fcs,eg,ok.few _ (aA eg),fun d hd=>?_,a1,a2,by omega,d1,⟨d2,fun j d fc e1 e2=>⟨d3 j d fc e1 e2,?_⟩⟩⟩
 .obtain ⟨_,z⟩:=ri.mem hd
  exact aK z.few.1 (by decide)
 .have lj:j < (rms[k]'(by omega)).2.length:=by rw [d1.len]; exact (ao.mp e2).1
  exact (d1.at_ j _ fc (aj lj) e2).2
theorem WL.shows {n:Nat} {H:Hp} {l:Addr} {fs:List (Int × Int)} (h:WL n H l fs):Shows H (.ref l) (rwD fs):=by
 obtain ⟨xs,a,b⟩:=h.ex
 exact .lst a b.shows
theorem Zc (F:Fun K GQ GQ Nk f fd) (T:Txt K mg D) (W8:∀ a ns,OkF P w K mg base 1 sX sU (wu K a ns)) (KC:OkF P w K mg base 2 vC vW GX) (Ro:∀ a ns,OkF P w K mg base 5 qL qW (Aj K a ns)) (DR:OkF P w K mg base 3 rG qH zm) (J1:OkF P w K mg base 9 vZ uz (Ef K D)) (vI:OkF P w K mg base 4 ou nY wU) (vN:OkF P w K mg base 4 pW qI Ao) (cJ:OkF P w K mg base 1 fD fu dX) (wN:OkF P w K mg base 6 mz mD (Kr D)) (yE:OkF P w K mg base 5 nZ nW (fun vs H Q _=>oh K D vs H Q fun _ _ _=>False)):cj P w K mg base CX0 10 f fd KD (Nx K):=by
 refine F.okB iZ (fun vs H Q E h=>?_) (fun cdv A outer s H vs Q E hr h=>?_)
 .obtain ⟨a,ns,rfl,_⟩:=h
  rfl
 .obtain ⟨a,ns,rfl,hs,hl,_,hQ⟩:=h
  have lF:=W8 a ns
  have Hz:=Ro a ns
  refine ⟨_,(cg (PSB.mk (bQ (i:=1) iZ.nd rfl (Or.inl rfl) (bK KC (hr.mono (by decide)) (by rfl) (bw (bK lF (hr.mono (by decide)) (by rfl) (bw (pv 0) (bw bC bD))) bD))))
   (cg (PSB.mk (bQ (i:=2) iZ.nd rfl (Or.inl rfl) (bK DR (hr.mono (by decide)) (by rfl) (bw (bK lF (hr.mono (by decide)) (by rfl) (bw (pv 0) (bw bC bD))) bD))))
   (cg (PSB.mk (bQ (i:=3) iZ.nd rfl (Or.inl rfl) (bK Hz (hr.mono (by decide)) (by rfl) (bw (pv 0) (bw bC (bw (pv 1) (bw bC bD)))))))
   (cg (PSB.mk (bQ (i:=4) iZ.nd rfl (Or.inl rfl) (bK J1 (hr.mono (by decide)) (by rfl) (bw (bK lF (hr.mono (by decide)) (by rfl) (bw (pv 0) (bw bC bD))) (bw (pv 2) (bw (pv 3) bD))))))
   (cg (PSB.mk (bQ (i:=5) iZ.nd rfl (Or.inl rfl) (bK vI (hr.mono (by decide)) (by rfl) (bw (bK lF (hr.mono (by decide)) (by rfl) (bw (pv 0) (bw bC bD))) (bw (pv 1) bD)))))
   (cg (PSB.mk (bQ (i:=6) iZ.nd rfl (Or.inl rfl) (bK vI (hr.mono (by decide)) (by rfl) (bw (bK lF (hr.mono (by decide)) (by rfl) (bw (pv 0) (bw bC bD))) (bw (pv 1) bD)))))
   (cg (PSB.mk (bQ (i:=7) iZ.nd rfl (Or.inl rfl) (mX (bw (n8 Aw (by rfl) T.zj boot_list (bw (pv 5) bD)) (bw (n8 Aw (by rfl) T.zj boot_list (bw (pv 6) bD)) bD)))))
   (cg (PSB.mk (jU PassesOwn.never rfl (jk (by rfl) T.mW (bw (pv 1) bD).mono) (cF (i:=8) iZ.nd rfl (Or.inl rfl))
    (bI (cW (dM (dz (bK vN (hr.mono (by decide)) (by rfl) (bw (bK yE (hr.mono (by decide)) (by rfl) (bw (pv 4) (bw (pv 8) (bw (bM bN (pv 7) bC (fun _ _=>rfl)) bD)))) (bw (pv 2) (bw (bM bN (pv 3) (pv 8) (fun _ _=>rfl)) (bw (pv 5) bD))))) (fun _=>rfl)))
     (bI (bU lG))
     cB))))
   (cg (PSB.mk (bQ (i:=9) iZ.nd rfl (Or.inl rfl) (bL j8 (bM bN (bK cJ (hr.mono (by decide)) (by rfl) (bw (bK lF (hr.mono (by decide)) (by rfl) (bw (pv 0) (bw bC bD))) (bw bC bD))) bC (fun _ _=>rfl)) (pv 1))))
   (cg (PSB.mk (bQ (i:=10) iZ.nd rfl (Or.inl rfl) (mX (bw (bK yE (hr.mono (by decide)) (by rfl) (bw (pv 4) (bw (pv 9) (bw (bM bN (pv 7) bC (fun _ _=>rfl)) bD)))) (bw (bK yE (hr.mono (by decide)) (by rfl) (bw (pv 4) (bw (pv 9) (bw (bM bN (pv 7) bC (fun _ _=>rfl)) bD)))) bD)))))
   (cg (PSB.mk (bQ (i:=11) iZ.nd rfl (Or.inl rfl) (bM bN (mX (bw (N8 Ga bC) (bw (pv 1) (bw Z5 (bw lG (bw lG (bw mC (bw (bL cT (pv 1) (bL Hu bC bC)) bD)))))))) (bL cQ (bM bN (bK cJ (hr.mono (by decide)) (by rfl) (bw (bK lF (hr.mono (by decide)) (by rfl) (bw (pv 0) (bw bC bD))) (bw bC bD))) bC (fun _ _=>rfl)) bC) (fun _ _=>rfl))))
   (cg (PSB.mk (cW (dM (dz (bK wN (hr.mono (by decide)) (by rfl) (bw (pv 4) (bw (pv 11) (bw (bM bN (pv 7) bC (fun _ _=>rfl)) bD)))) (fun _=>rfl)))
    (bI (bU lG))
    cB))
   (cg (PSB.mk (jU PassesOwn.never rfl (Gu (by rfl) T.Mi (bw (pv 10) (bw (mX (bw (pv 5) (bw (pv 6) bD))) bD)).mono) (fX (n:=2) rfl (cu (cF (i:=13) iZ.nd rfl (Or.inl rfl)) (cu (cF (i:=14) iZ.nd rfl (Or.inl rfl)) fK)))
    (bG (cW (dM (dz (bK vN (hr.mono (by decide)) (by rfl) (bw (pv 13) (bw (pv 2) (bw (bM bN (pv 3) (pv 9) (fun _ _=>rfl)) (bw (pv 14) bD))))) (fun _=>rfl)))
     (bI (bU lG))
     cB)
    (bG (cY (wB (pv 13) (bw (yN (bw bC (bw bC bD))) bD)))
    (bI (cY (Za (pv 13))))))))
   (cg (PSB.mk (bQ (i:=12) iZ.nd rfl (Or.inl rfl) (bK yE (hr.mono (by decide)) (by rfl) (bw (pv 4) (bw (pv 9) (bw (bM bN (pv 7) bC (fun _ _=>rfl)) bD))))))
   (uU (PSB.mk (bU (yS (kE (Y7 hr.units) (pv 7) (mX (bw (pv 5) (bw (pv 6) bD))) (cH _)) (Ak (bK vN (hr.mono (by decide)) (by rfl) (bw (pv 12) (bw (pv 2) (bw (bM bN (pv 3) (pv 9) (fun _ _=>rfl)) (bw (pv 5) bD)))))))))))))))))))))))),?_⟩
  have z9:100 < sizeLine:=by decide
  refine cA fun R1 hR1=>?_
  refine cM ⟨_,rfl,0,rfl,hs,hl,by decide,_,rfl,fun n H1 n1 n12 S1=>?_⟩
  subst hR1
  dsimp only [cL,L2.start]
  refine cA fun R1 hR1=>?_
  refine cM ⟨_,rfl,2,rfl,Same.sql S1 hs,hl,by decide,_,rfl,fun ps x y H2 S2 h2 x0 xy y1 gx=>?_⟩
  have SH2:=S1.trans S2
  subst hR1
  dsimp only [cL]
  refine cA fun R1 hR1=>?_
  refine cM ⟨_,rfl,_,rfl,5,n,6,rfl,Same.sql SH2 hs,hl,by decide,n12,by decide,fun r xs dss H3 S3 fr hr3 ld rd dm=>?_⟩
  have SH3:=SH2.trans S3
  subst hR1
  dsimp only [cL]
  refine cA fun R1 hR1=>?_
  refine cM ⟨_,rfl,1,rfl,Same.sql SH3 hs,hl,by decide,_,rfl,_,rfl,_,x,y,ps,r,xs,dss,n,6,rfl,S3 _ _ h2,x0,xy,y1,gx,hr3,rd,ld,n12,by decide,dm,fun o H4 rms S4 fo hh ok hi=>?_⟩
  have lb:=LB.of hh ok hi (S4 _ _ (S3 _ _ h2)) x0 xy y1 (S4 _ _ hr3) (rd.same S4) ld dm
  have SH4:=SH3.trans S4
  clear S1 S2 S3 S4 SH2 SH3 h2 hr3 rd ld dm hi ok hh x0 xy y1 gx
  subst hR1
  dsimp only [cL]
  refine cA fun R1 hR1=>?_
  refine cM ⟨_,rfl,3,rfl,Same.sql SH4 hs,hl,by decide,_,rfl,_,n,rfl,n12,fun l1 fs1 H5 S5 f5 w1=>?_⟩
  have SH5:=SH4.trans S5
  subst hR1
  dsimp only [cL]
  refine cA fun R1 hR1=>?_
  refine cM ⟨_,rfl,4,rfl,Same.sql SH5 hs,hl,by decide,_,rfl,_,n,rfl,n12,fun l2 fs2 H6 S6 f6 w2=>?_⟩
  have SH6:=SH5.trans S6
  have w1:=w1.same S6
  have lb:=(lb.same S5).same S6
  obtain ⟨ys1,y1,y2⟩:=w1.ex
  obtain ⟨ys2,y3,y4⟩:=w2.ex
  subst hR1
  dsimp only [cL]
  refine cA fun R1 hR1=>?_
  refine cM ⟨_,rfl,l1,ys1,rfl,y1,fun h1 H7 S7 f7 e7=>⟨_,rfl,l2,ys2,rfl,S7 _ _ y3,fun h2 H8 S8 f8 e8=>⟨dG,fun hd H9 S9 f9 e9=>?_⟩⟩⟩
  have S69:=S7.trans (S8.trans S9)
  have v1:WL n H9 h1 fs1:=⟨⟨ys1,S9 _ _ (S8 _ _ e7),y2.same S69⟩,w1.fq,w1.len⟩
  have v2:WL n H9 h2 fs2:=⟨⟨ys2,S9 _ _ e8,y4.same S69⟩,w2.fq,w2.len⟩
  have w1:=w1.same S69
  have w2:=w2.same S69
  have lb:=lb.same S69
  have SH9:=SH6.trans S69
  clear S5 S6 S7 S8 S9 S69 SH4 SH5 SH6 y1 y2 y3 y4 e7 e8 f5 f6 f7 f8
  subst hR1
  dsimp only [cL]
  refine cA fun R1 hR1=>?_
  refine jW (wJ ⟨_,rfl,n,rfl,by omega,fun _ σ H'=>(∃ u8,σ = [some (.ref a),some (.int n),some (.ref ps),some (.ref r),some (.ref o),some (.ref l1),some (.ref l2),some (.ref hd),u8,none,none,none,none,none,none])/\Same H9 H',⟨⟨none,rfl⟩,fun _ _ z=>z⟩,?_,?_⟩)
  .rintro k σ' H' hk ⟨⟨u8,rfl⟩,S⟩
   obtain ⟨l,ds,fcs,c1,c2,c3,c4,call⟩:=lb.ask n12 hk
   refine ⟨_,rfl,_,rfl,_,rfl,hd,_,0,_,rfl,rfl,S _ _ e9,cV,?_⟩
   dsimp only [wX]
   refine call S (v1.same S) fun r1 zs H2 S2 f2 h2 lo=>⟨_,rfl,_,rfl,_,rfl,r,xs,_,_,rfl,rfl,S2 _ _ (S _ _ lb.rooms),bY c1,_,rfl,r1,ps,l,l1,zs,_,n,ds,fcs,fs1,rfl,h2,lo,S2 _ _ (S _ _ lb.share),lb.s0,lb.b1,lb.b2,S2 _ _ (S _ _ c2),c3,(c4.same S).same S2,(w1.same S).same S2,fun H3 S3=>⟨true,rfl,?_⟩⟩
   exact ⟨⟨_,rfl⟩,S.trans (S2.trans S3)⟩
  .rintro σ' H' ⟨⟨u8,rfl⟩,S⟩
   have lb:=lb.same S
   have w1:=w1.same S
   have w2:=w2.same S
   have v1:=v1.same S
   have v2:=v2.same S
   have e9:=S _ _ e9
   have SH:=SH9.trans S
   clear S SH9 f9
   subst hR1
   dsimp only [cL]
   refine cA fun R1 hR1=>?_
   refine cM ⟨_,rfl,1,rfl,Same.sql SH hs,hl,by decide,_,12,rfl,by decide,fun ls qs Ha Sa fa ha la qa=>?_⟩
   have eq:qs[11]? = some (qs[11]'(by omega)):=aj _
   generalize qs[11]'(by omega) = q11 at eq
   obtain ⟨kk,ek,kn⟩ : ∃ k:Nat,q11.fmod n = (k:Nat)/\k < n:=by
    have m0:0 <= q11 % (n:Int):=Int.emod_nonneg _ (by omega)
    have m1:q11 % (n:Int) < n:=Int.emod_lt_of_pos _ (by omega)
    exact ⟨(q11 % (n:Int)).toNat,by rw [aV _ (by omega)]; omega,by omega⟩
   refine ⟨ls,_,11,_,rfl,rfl,ha,bY (j:=11) (by rw [aq,eq]; rfl),_,rfl,q11,n,rfl,rfl,by omega,?_⟩
   dsimp only
   rw [ek]
   have lb:=lb.same Sa
   have w1:=w1.same Sa
   have w2:=w2.same Sa
   have v1:=v1.same Sa
   have v2:=v2.same Sa
   have e9:=Sa _ _ e9
   have SH:=SH.trans Sa
   clear Sa ha fa
   obtain ⟨l,ds,fcs,c1,c2,c3,c4,call⟩:=lb.ask n12 kn
   subst hR1
   dsimp only [cL,List.set_cons_succ,List.set_cons_zero]
   refine cA fun R1 hR1=>?_
   refine cM ⟨_,rfl,_,rfl,_,rfl,hd,_,0,_,rfl,rfl,e9,cV,?_⟩
   dsimp only [wX]
   refine call (fun _ _ z=>z) v1 fun r1 zs1 Hb Sb fb hb lo1=>?_
   refine ⟨_,rfl,_,rfl,_,rfl,hd,_,1,_,rfl,rfl,Sb _ _ e9,cG,?_⟩
   dsimp only [wX]
   refine call Sb (v2.same Sb) fun r2 zs2 Hc Sc fc hc lo2=>⟨dG,fun he Hd Sd fd hd'=>?_⟩
   have n12':r1 ≠ r2:=bA hb fc
   have nh2:r2 ≠ he:=bA hc fd
   have nh1:r1 ≠ he:=bA (Sc _ _ hb) fd
   have fc':=Same.free Sb fc
   have hb:=Sd _ _ (Sc _ _ hb)
   have hc:=Sd _ _ hc
   have lo1:=lo1.imp fun t us e=>Sd _ _ (Sc _ _ e)
   have lo2:=lo2.imp fun t us e=>Sd _ _ e
   have Sx:=Sb.trans (Sc.trans Sd)
   clear Sb Sc Sd fc
   subst hR1
   dsimp only [cL,List.set_cons_succ,List.set_cons_zero]
   refine cA fun R1 hR1=>?_
   refine cM ⟨1,rfl,_,rfl,_,rfl,_,_,rfl,rfl,Wh (by decide) (by decide),_,_,rfl,rfl,(show 7 <= sizeLine by decide),fun po He Se fe he'=>⟨_,rfl,3,rfl,Same.sql (SH.trans (Sx.trans Se)) hs,hl,by decide,_,1,rfl,by decide,fun ls2 qs2 Hf Sf ff hf lf qf=>?_⟩⟩
   obtain ⟨qz,eqz⟩ : ∃ qz,qs2[0]? = some qz:=⟨_,aj (by omega)⟩
   obtain ⟨vs,evs,vl7,pv⟩ : ∃ vs:List V,He po = some (.lst vs)/\vs.length = 7/\∀ v ∈ vs,(∀ H',Odd H' v)/\¬ pK n v/\Hq v v = true:=by
    refine ⟨_,he',rfl,fun v hv=>?_⟩
    simp only [List.mem_cons,List.not_mem_nil,or_false] at hv
    rcases hv with rfl | rfl | rfl | rfl | rfl | rfl | rfl
    .exact ⟨fun _=>⟨_,rfl⟩,fun z=>absurd z.1 (by decide),rfl⟩
    .exact ⟨fun _=>⟨_,rfl⟩,fun z=>Int.lt_irrefl _ z.2,rfl⟩
    .exact ⟨fun _=>⟨_,rfl⟩,fun z=>z,rfl⟩
    .exact ⟨fun _=>⟨_,rfl⟩,fun z=>z,rfl⟩
    .exact ⟨fun _=>⟨_,rfl⟩,fun z=>z,rfl⟩
    .exact ⟨fun _=>⟨_,rfl⟩,fun z=>z,rfl⟩
    .refine ⟨fun _=>⟨_,rfl⟩,fun z=>?_,rfl⟩
     have:=z.2
     have:(0:Int) < 10 ^ (30:Int).toNat:=Int.pow_pos (by decide)
     omega
   obtain ⟨v,ev,ov,nv,sv⟩ : ∃ v,atI vs (qz % 7) = some v/\(∀ H',Odd H' v)/\¬ pK n v/\Hq v v = true:=by
    obtain ⟨m,em,lm⟩ : ∃ m:Nat,qz % 7 = (m:Nat)/\m < vs.length:=⟨(qz % 7).toNat,by omega,by omega⟩
    rw [em]
    exact ⟨vs[m],bY (aj lm),pv _ (aR lm)⟩
   refine ⟨ls2,_,0,_,rfl,rfl,hf,bY (j:=0) (by rw [aq,eqz]; rfl),qz,7,rfl,rfl,(show (0:Int) < 7 by decide),po,vs,_,v,rfl,rfl,Sf _ _ evs,ev,?_⟩
   have Sy:=Sx.trans (Se.trans Sf)
   have hb:=Sf _ _ (Se _ _ hb)
   have hc:=Sf _ _ (Se _ _ hc)
   have hd':=Sf _ _ (Se _ _ hd')
   have lo1:=lo1.imp fun t us e=>Sf _ _ (Se _ _ e)
   have lo2:=lo2.imp fun t us e=>Sf _ _ (Se _ _ e)
   clear Sx Se Sf hf evs he' pv ev fe ff
   subst hR1
   dsimp only [cL,List.set_cons_succ,List.set_cons_zero]
   refine cA fun R1 hR1=>?_
   refine jW ⟨_,rfl,_,rfl,_,rfl,hd,_,0,_,rfl,rfl,Sy _ _ e9,cV,o,ps,h1,v,rms,rfl,lb.hall.same Sy,ov _,by rw [lb.len]; exact nv,sv,fun Hg Sg=>⟨true,rfl,?_⟩⟩
   show R1 _ _ _
   have Sy:=Sy.trans Sg
   have hb:=Sg _ _ hb
   have hc:=Sg _ _ hc
   have hd':=Sg _ _ hd'
   have hls:∀ l ∈ [r1,r2],∃ zs,Hg l = some (.lst zs):=fun l hl=>by
    simp only [List.mem_cons,List.not_mem_nil,or_false] at hl
    rcases hl with rfl | rfl
    .exact ⟨_,hb⟩
    .exact ⟨_,hc⟩
   have lo1:=lo1.imp fun t us e=>oA hls (by intro z y; cases y) (Sg _ _ e)
   have lo2:=lo2.imp fun t us e=>oA hls (by intro z y; cases y) (Sg _ _ e)
   have SB:Same Ha (del [r1,r2] Hg):=fun b u e=>eZ (fun z=>by
    simp only [List.mem_cons,List.not_mem_nil,or_false] at z
    rcases z with rfl | rfl
    .rw [fb] at e; cases e
    .rw [fc'] at e; cases e) (Sy _ _ e)
   have lb:=lb.same SB
   have w1:=w1.same SB
   have w2:=w2.same SB
   have v1:=v1.same SB
   have v2:=v2.same SB
   have e9:=SB _ _ e9
   have c2:=SB _ _ c2
   have c4:=c4.same SB
   have BG:Same (del [r1,r2] Hg) Hg:=mL
   have B1:del [r1,r2] Hg r1 = none:=by unfold del; rw [if_pos (by simp)]
   have B2:del [r1,r2] Hg r2 = none:=by unfold del; rw [if_pos (by simp)]
   generalize del [r1,r2] Hg = B at *
   have z1:zs1.length <= 64:=by rw [lo1.len,c4.len]; exact c3
   have z2:zs2.length <= 64:=by rw [lo2.len,c4.len]; exact c3
   subst hR1
   refine cA fun R1 hR1=>?_
   refine jW (Ot ⟨_,rfl,_,rfl,_,rfl,dG,fun lw Hh Sh fh hh'=>⟨he,lw,_,_,rfl,Sh _ _ hd',hh',rfl,fun j σ H'=>(∃ u13 u14,σ = [some (.ref a),some (.int n),some (.ref ps),some (.ref r),some (.ref o),some (.ref l1),some (.ref l2),some (.ref hd),u8,some (.int kk),some (.ref he),some v,none,u13,u14])/\Same B H'/\(j = 0->H' r1 = some (.lst zs1))/\(j <= 1->H' r2 = some (.lst zs2)),⟨⟨none,none,rfl⟩,BG.trans Sh,fun _=>Sh _ _ hb,fun _=>Sh _ _ hc⟩,?_,?_⟩⟩)
   .rintro j xv yv σ' H' t hx hy ⟨⟨u13,u14,rfl⟩,SJ,j1,j2⟩ ha hb' ht
    obtain ⟨rr,zs,ll,fs,rfl,rfl,hrr,lo,wl,zl,mem,nx⟩ : ∃ rr zs ll fs,xv = .ref rr/\yv = .ref ll/\H' rr = some (.lst zs)/\m_ B zs (x,y) fs fcs/\WL n B ll fs/\zs.length <= 64/\(rr = r1\/rr = r2)/\(j + 1 <= 1->rr ≠ r2/\H' r2 = some (.lst zs2)):=by
     match j with
     | 0 =>
      cases hx
      cases hy
      exact ⟨r1,zs1,l1,fs1,rfl,rfl,j1 rfl,lo1,w1,z1,.inl rfl,fun _=>⟨n12',j2 (by decide)⟩⟩
     | 1 =>
      cases hx
      cases hy
      exact ⟨r2,zs2,l2,fs2,rfl,rfl,j2 (by decide),lo2,w2,z2,.inr rfl,fun z=>by omega⟩
     | j + 2=>simp at hx
    have St:Same H' (upd H' t (.tup [.ref rr,.ref ll])):=Same.upd ht
    have k4:upd H' t (.tup [.ref rr,.ref ll]) t = _:=bB
    generalize upd H' t (.tup [.ref rr,.ref ll]) = Ht at St k4 ⊢
    have ST:=SJ.trans St
    refine ⟨t,_,rfl,k4,rfl,_,_,rfl,_,_,rfl,rfl,?_⟩
    dsimp only [cL,List.set_cons_succ,List.set_cons_zero]
    refine cA fun R2 hR2=>?_
    refine jW ⟨_,rfl,_,rfl,_,rfl,_,rfl,r,xs,_,_,rfl,rfl,ST _ _ lb.rooms,bY c1,_,rfl,rr,ps,l,ll,zs,_,n,ds,fcs,fs,rfl,St _ _ hrr,lo.imp fun t us e=>ST _ _ e,ST _ _ lb.share,lb.s0,lb.b1,lb.b2,ST _ _ c2,c3,c4.same ST,wl.same ST,fun Hi Si=>⟨true,rfl,?_⟩⟩
    show R2 _ _ _
    have S2:=St.trans Si
    subst hR2
    refine jW ⟨_,rfl,rr,zs,rfl,S2 _ _ hrr,dG,fun t3 Hj Sj fj hj=>⟨_,zs,rfl,Sj _ _ (S2 _ _ hrr),by omega,?_⟩⟩
    have S3:=S2.trans Sj
    refine ⟨_,rfl,rr,_,rfl,bB,?_⟩
    rw [m6]
    obtain ⟨ne,nw,nB⟩ : he ≠ rr/\lw ≠ rr/\B rr = none:=by
     rcases mem with rfl | rfl
     .exact ⟨nh1.symm,(bA hb fh).symm,B1⟩
     .exact ⟨nh2.symm,(bA hc fh).symm,B2⟩
    refine ⟨(bF ne).trans (S3 _ _ ha),(bF nw).trans (S3 _ _ hb'),⟨_,_,rfl⟩,fun b u e=>(bF (bA e nB)).trans (S3 _ _ (SJ _ _ e)),fun z=>absurd z (by omega),fun z=>?_⟩
    obtain ⟨m2,k2⟩:=nx z
    exact (bF m2.symm).trans (S3 _ _ k2)
   .rintro σ' H' ⟨⟨u13,u14,rfl⟩,SJ,_,_⟩ _ _
    have lb:=lb.same SJ
    have w1:=w1.same SJ
    have w2:=w2.same SJ
    have v1:=v1.same SJ
    have v2:=v2.same SJ
    have e9:=SJ _ _ e9
    have c2:=SJ _ _ c2
    have c4:=c4.same SJ
    subst hR1
    dsimp only
    refine cA fun R1 hR1=>?_
    refine cM ⟨_,rfl,_,rfl,_,rfl,hd,_,0,_,rfl,rfl,e9,cV,?_⟩
    dsimp only [wX]
    refine call (SB.trans SJ) v1 fun r3 zs3 Hk Sk fk hk lo3=>?_
    subst hR1
    dsimp only [cL,List.set_cons_succ,List.set_cons_zero]
    refine jT ⟨_,rfl,_,rfl,_,rfl,dG,fun lq Hl Sl fl hl'=>⟨.list ([fs1,fs2].map rwD),.list ([fs1,fs2].map rwD),?_,?_,(Ah [fs1,fs2]).1,(Ah [fs1,fs2]).1,true,congrArg V.bl (Ah [fs1,fs2]).2,?_⟩⟩
    .exact .lst (Sl _ _ (Sk _ _ e9)) (.cons ((v1.same Sk).same Sl).shows (.cons ((v2.same Sk).same Sl).shows .nil))
    .exact .lst hl' (.cons ((w1.same Sk).same Sl).shows (.cons ((w2.same Sk).same Sl).shows .nil))
    .rw [if_pos rfl]
     have SS:=Sk.trans Sl
     exact ⟨_,rfl,_,rfl,_,rfl,_,rfl,r,xs,_,_,rfl,rfl,SS _ _ lb.rooms,bY c1,_,rfl,r3,ps,l,l1,zs3,_,n,ds,fcs,fs1,rfl,Sl _ _ hk,lo3.imp fun t us e=>Sl _ _ e,SS _ _ lb.share,lb.s0,lb.b1,lb.b2,SS _ _ c2,c3,c4.same SS,w1.same SS,fun H' _=>hQ _⟩
end
theorem law_fn {l:PySem.W.OpenLaw} {w:World} {K:Frag} {mg:Str->Option Value} (T0:∃ D,Txt K mg D) (base:Heap) (f:Addr) (fd:FuncData) (F:Fun K GQ GQ Nk f fd) :
  cj l.prog w K mg base CX0 10 f fd KD (Nx K):=by
 obtain ⟨D,T⟩:=T0
 have lF:∀ a ns,OkF l.prog w K mg base 1 sX sU (wu K a ns):=fun a ns=>T.Y8.ok fun _ _ F=>Yd F a ns
 have dZ:OkF l.prog w K mg base 1 gW fZ kW:=T.Kl.ok fun _ _ F=>HJ F T
 have CJ:OkF l.prog w K mg base 1 xH wM Bj:=T.aa9.ok fun _ _ F=>Zr F T
 have fU:OkF l.prog w K mg base 1 i_ jf fY:=T.Qm.ok fun _ _ F=>Lj F T
 have gb:OkF l.prog w K mg base 2 jV jZ jY:=T.Rw.ok fun _ _ F=>Qs F CJ
 have d8:OkF l.prog w K mg base 2 iR iV gH:=T.VF.ok fun _ _ F=>Ui F T dZ fU
 have nj:OkF l.prog w K mg base 1 oK oM (oG (K:=K)):=T.XF.ok fun _ _ F=>Rt F
 have Gb:OkF l.prog w K mg base 3 sI sS (o9 (K:=K) fun a b=>a + b):=T.Zj.ok fun _ _ F=>VN F d8
 have W5:OkF l.prog w K mg base 3 rP rF (o9 (K:=K) fun a b=>a - b):=T.WK.ok fun _ _ F=>Ra F d8
 have h_:OkF l.prog w K mg base 1 jc jg qe:=T.Pk.ok fun _ _ F=>Km F T
 have fJ:OkF l.prog w K mg base 2 gk gG (fH (K:=K)):=T.Lq.ok fun _ _ F=>HY F T dZ fU
 have fV:OkX l.prog w K mg base 3 fQ fP (fM (K:=K)):=T.Dy.okX fun _ _ F=>Bt F T h_ fJ
 have uR:OkX l.prog w K mg base 2 dh dj iw:=T.uM.okX fun _ _ F=>tZ F T h_
 have Dp:OkX l.prog w K mg base 3 d9 d_ (lY (K:=K)):=T.zx.okX fun _ _ F=>yc F T fJ nj
 have g_:OkI l.prog w K mg base (CXO l.prog w) 4 D.Door_init gZ (iD (K:=K) D):=T.Ec.ok fun _ F=>Es F T fV
 have pO:OkI l.prog w K mg base (CXO l.prog w) 5 D.Sure_init jy (lM (K:=K) D):=T.DX.ok fun _ F=>FW F T g_ uR
 have rR:OkI l.prog w K mg base CX0 1 D.Door_ways jq (lH D):=T.Gr.ok fun _ F=>Gz F T
 have Jp:OkF l.prog w K mg base 2 k_ kY (oF K):=T.Og.ok fun _ _ F=>Cz F fU
 have oO:OkF l.prog w K mg base 2 k_ kY vh:=T.Og.ok fun _ _ F=>(Cz F fU).imp fun _ _ _ _ h=>Ul h
 have Wa:OkF l.prog w K mg base 3 rT qK vV:=T.f_total.ok fun _ _ F=>RV F T oO d8
 have Uc:OkX l.prog w K mg base 4 gj gB jL:=T.Bo.okX fun _ _ F=>Bk F T uR Dp Wa.wild
 have Qp:OkX l.prog w K mg base 4 gP gJ (rZ K):=T.BR.okX fun _ _ F=>zQ F T Gb.wild
 have dD:OkI l.prog w K mg base (CXO l.prog w) 5 D.Mixed_init eU (dW K D):=T.Bx.ok fun _ F=>Bq F T g_ Uc Qp
 have pB:OkI l.prog w K mg base (CXO l.prog w) 6 D.Toss_init jR (lO K D):=T.Fo.ok fun _ F=>Ep F T fV Dp W5.wild dD
 have o_:OkI l.prog w K mg base (CXO l.prog w) 6 D.Even_init jA (lQ K D):=T.Fg.ok fun _ F=>Gx F T dD
 have nR:OkF l.prog w K mg base 3 gw gR (jx (K:=K)):=T.Cd.ok fun _ _ F=>zc F T fJ nj
 have o8:OkF l.prog w K mg base 2 iI iM kJ:=T.Hw.ok fun _ _ F=>Ci F T h_
 have lB:OkF l.prog w K mg base 2 eY fG (iz D):=T.xZ.ok fun _ _ F=>xu F T rR
 have rB:OkF l.prog w K mg base 3 jw jB (lR D):=T.Jf.ok fun _ _ F=>Eu F T lB
 have Jm:OkI l.prog w K mg base CX0 4 D.Hall_init jG (lX K D):=T.FT.ok fun _ F=>FN F T nR o8 rB
 have pU:OkI l.prog w K mg base CX0 1 D.Hall_size ju (lV D):=T.FJ.ok fun _ F=>Ge F T
 have cJ:OkF l.prog w K mg base 1 fD fu dX:=T.Uv.ok fun _ _ F=>Pj F T
 have KC:OkF l.prog w K mg base 2 vC vW GX:=T.aan.ok fun _ _ F=>WY F T cJ
 have yQ:OkF l.prog w K mg base 2 qd rH vp:=T.XQ.ok fun _ _ F=>Ud F T cJ
 have Gy:OkF l.prog w K mg base 8 rQ qg (vf K D):=T.Ws.ok fun _ _ F=>R8 F T pO dD pB o_
 have J1:OkF l.prog w K mg base 9 vZ uz (Ef K D):=T.Zi.ok fun _ _ F=>Vx F T yQ Gy Jm.wild
 have Di:OkF l.prog w K mg base 3 wC wQ zB:=T.adB.ok fun _ _ F=>ZQ F T gb
 have DR:OkF l.prog w K mg base 3 rG qH zm:=T.Wn.ok fun _ _ F=>Uh F T cJ gb
 have Lx:OkF l.prog w K mg base 4 vB uJ yF:=T.ZL.ok fun _ _ F=>V5 F T cJ gb Di
 have Hz:∀ a ns,OkF l.prog w K mg base 5 qL qW (Aj K a ns):=fun a ns=>T.VG.ok fun _ _ F=>Ve F T a ns (lF a ns) cJ Lx
 have nA:OkI l.prog w K mg base CX0 1 D.NoRoom_init gC (rE D.NoRoom):=T.Ab.ok fun _ F=>Bb F T
 have yO:OkF l.prog w K mg base 3 qM qO zM:=T.Yn.ok fun _ _ F=>Tj F d8
 have Ld:OkF l.prog w K mg base 3 vP vA Et:=T.aam.ok fun _ _ F=>W_ F d8
 have nH:OkF l.prog w K mg base 3 gQ gF (wY K):=T.BJ.ok fun _ _ F=>yV F T Jp d8
 have nG:OkF l.prog w K mg base 4 gO gA (xq K D):=T.Bp.ok fun _ _ F=>zF F T nH yO Gb
 have je:OkI l.prog w K mg base (CXO l.prog w) 3 D.Hall_check_room dY (xr D):=T.tW.ok fun _ F=>Al F T dZ pU nA
 have mH:OkI l.prog w K mg base (CXO l.prog w) 4 D.Hall_offers gU (uw D):=T.Av.ok fun _ F=>yd F T je
 have vU:OkX l.prog w K mg base 5 nZ nW (oh K D):=T.X_.okX fun _ _ F=>Pu F T mH Jp nG Ld
 have q_:OkF l.prog w K mg base 2 jr jo K5:=T.Ir.ok fun _ _ F=>DG F T CJ
 have oR:OkF l.prog w K mg base 3 iQ iK LR:=T.Em.ok fun _ _ F=>Bv F T q_
 have Kw:OkF l.prog w K mg base 1 wj vG (Eb D):=T.YL.ok fun _ _ F=>Xm F T
 have K_:OkF l.prog w K mg base 1 uZ u_ DN:=T.f_look.ok fun _ _ F=>Wm F T
 have vI:OkF l.prog w K mg base 4 ou nY wU:=T.Rp.ok fun _ _ F=>PX F T cJ Di
 have vN:OkF l.prog w K mg base 4 pW qI Ao:=T.WQ.ok fun _ _ F=>Q_ F T oR Kw K_
 have wN:OkF l.prog w K mg base 6 mz mD (Kr D):=T.Ou.ok fun _ _ F=>Lz F T vU
 exact Zc F T lF KC Hz DR J1 vI vN cJ wN vU.calm
end K21
open PySem PySem.W PyProof.Rows
set_option maxRecDepth 100000 in
set_option maxHeartbeats 0 in
theorem PySem.Challenge.cw_chancehall_k21_looks_holds : PySem.Challenge.rw_chancehall_k21_looks.Holds := by
 w_on
 refine holds_law H21.wsd fun said=>?_
 refine holds_open (q:=H21.qv) (loose:=[]) (XP:=XL H21.qv []) (YP:=InK H21.KH) H21.left (InK.of H21.asK) InK.keeps H21.hX XL.keeps (by rfl) (by rfl) (by rfl) H21.hR (by rfl) said (by decide +kernel) ⟨rfl,rfl,rfl,rfl,rfl,by decide +kernel⟩ ?hw ?hc
 (case hw=>w_witness2)
 k_fill
 refine L2.aaL (l:=PySem.Challenge.rw_chancehall_k21_looks) (k:=10) (x := "_law_script") rfl rfl ⟨rfl,by decide,by decide⟩ (fun w h Y=>(show (H21.KH w.params).In h from Y)) ?F
 case F =>
  intro w mg fa h KX G hmg
  refine ⟨K21.Nk,?_,fun base f fd F=>K21.law_fn ?T base f fd F⟩
  .exact L2.q_f 1 fun _ _ _ _ _ _ _=>rfl
  case T =>
   refine ⟨⟨31,44,56,68,80,92,111,130,149,168,331,352,371,390,407,492,185,186,314,321,328,349,368,387,404,449,456,463,470,477,484,489,127⟩,⟨L2.q_c,L2.q_c,L2.q_c,L2.q_c,L2.q_c,L2.q_c,L2.q_c,L2.q_c,L2.q_c,L2.q_c,L2.q_c,L2.q_c,L2.q_c,L2.q_c,L2.q_c,L2.q_c,L2.q_c,L2.q_c,L2.q_x,L2.q_x,L2.q_x,L2.q_x,by k_is,by k_is,by k_is,L2.q_g,L2.q_t,L2.q_t,L2.q_M,L2.q_4,L2.q_I,L2.q_m,L2.q_m,L2.q_n,L2.q_n,L2.q_n,L2.q_n,L2.q_n,L2.q_n,L2.q_M,L2.q_4,L2.q_I,L2.q_m,L2.q_m,L2.q_n,L2.q_n,L2.q_n,L2.q_n,L2.q_n,L2.q_n,L2.q_M,L2.q_4,L2.q_I,L2.q_m,L2.q_m,L2.q_n,L2.q_n,L2.q_n,L2.q_n,L2.q_n,L2.q_n,L2.q_M,L2.q_4,L2.q_I,L2.q_m,L2.q_m,L2.q_n,L2.q_n,L2.q_n,L2.q_n,L2.q_n,L2.q_n,L2.q_M,L2.q_4,L2.q_I,L2.q_m,L2.q_m,L2.q_n,L2.q_n,L2.q_n,L2.q_n,L2.q_n,L2.q_n,L2.q_M,L2.q_4,L2.q_I,L2.q_m,L2.q_m,L2.q_m,L2.q_m,L2.q_m,L2.q_m,L2.q_n,L2.q_n,L2.q_n,L2.q_n,L2.q_n,L2.q_n,L2.q_E,L2.q_S,L2.q_5,by k_is,by k_is,L2.q_n,by kit_is,by kit_is,by kit_is,by kit_is,by kit_is,by kit_is,by kit_is,by kit_is,by kit_is,by kit_is,L2.q_b,L2.q_B,L2.q_h 3 fun _ _ _ _ _ _ _ _ _=>rfl,L2.q_B,L2.q_h 1 fun _ _ _ _ _ _ _=>rfl,L2.q_B,L2.q_h 2 fun _ _ _ _ _ _ _ _=>rfl,L2.q_B,L2.q_h 4 fun _ _ _ _ _ _ _ _ _ _=>rfl,L2.q_B,L2.q_h 4 fun _ _ _ _ _ _ _ _ _ _=>rfl,L2.q_B,L2.q_h 6 fun _ _ _ _ _ _ _ _ _ _ _ _=>rfl,L2.q_B,L2.q_h 4 fun _ _ _ _ _ _ _ _ _ _=>rfl,L2.q_B,L2.q_h 3 fun _ _ _ _ _ _ _ _ _=>rfl,L2.q_B,L2.q_h 1 fun _ _ _ _ _ _ _=>rfl,L2.q_B,L2.q_h 1 fun _ _ _ _ _ _ _=>rfl,L2.q_B,L2.q_h 2 fun _ _ _ _ _ _ _ _=>rfl,L2.q_B,L2.q_h 2 fun _ _ _ _ _ _ _ _=>rfl,L2.q_B,L2.q_h 3 fun _ _ _ _ _ _ _ _ _=>rfl,L2.q_B,L2.q_h 2 fun _ _ _ _ _ _ _ _=>rfl,L2.q_h 2 fun _ _ _ _ _ _ _ _=>rfl,L2.q_z,L2.q_z,L2.q_z,L2.q_z,L2.q_z,L2.q_z,L2.q_z,L2.q_z,L2.q_z,L2.q_z,L2.q_z,L2.q_z,L2.q_z,L2.q_z,L2.q_f 1 fun _ _ _ _ _ _ _=>rfl,L2.q_f 1 fun _ _ _ _ _ _ _=>rfl,L2.q_f 2 fun _ _ _ _ _ _ _ _=>rfl,L2.q_f 2 fun _ _ _ _ _ _ _ _=>rfl,L2.q_f 1 fun _ _ _ _ _ _ _=>rfl,L2.q_f 2 fun _ _ _ _ _ _ _ _=>rfl,L2.q_f 2 fun _ _ _ _ _ _ _ _=>rfl,L2.q_f 2 fun _ _ _ _ _ _ _ _=>rfl,L2.q_f 2 fun _ _ _ _ _ _ _ _=>rfl,L2.q_f 2 fun _ _ _ _ _ _ _ _=>rfl,L2.q_f 1 fun _ _ _ _ _ _ _=>rfl,L2.q_f 1 fun _ _ _ _ _ _ _=>rfl,L2.q_f 2 fun _ _ _ _ _ _ _ _=>rfl,L2.q_f 3 fun _ _ _ _ _ _ _ _ _=>rfl,L2.q_f 3 fun _ _ _ _ _ _ _ _ _=>rfl,L2.q_f 1 fun _ _ _ _ _ _ _=>rfl,L2.q_f 2 fun _ _ _ _ _ _ _ _=>rfl,L2.q_f 1 fun _ _ _ _ _ _ _=>rfl,L2.q_f 1 fun _ _ _ _ _ _ _=>rfl,L2.q_f 1 fun _ _ _ _ _ _ _=>rfl,L2.q_f 1 fun _ _ _ _ _ _ _=>rfl,L2.q_f 1 fun _ _ _ _ _ _ _=>rfl,L2.q_f 1 fun _ _ _ _ _ _ _=>rfl,L2.q_f 2 fun _ _ _ _ _ _ _ _=>rfl,L2.q_f 2 fun _ _ _ _ _ _ _ _=>rfl,L2.q_f 2 fun _ _ _ _ _ _ _ _=>rfl,L2.q_f 2 fun _ _ _ _ _ _ _ _=>rfl,L2.q_f 2 fun _ _ _ _ _ _ _ _=>rfl,L2.q_f 2 fun _ _ _ _ _ _ _ _=>rfl,L2.q_f 1 fun _ _ _ _ _ _ _=>rfl,L2.q_f 2 fun _ _ _ _ _ _ _ _=>rfl,L2.q_f 2 fun _ _ _ _ _ _ _ _=>rfl,L2.q_f 2 fun _ _ _ _ _ _ _ _=>rfl,L2.q_f 1 fun _ _ _ _ _ _ _=>rfl,L2.q_f 3 fun _ _ _ _ _ _ _ _ _=>rfl,L2.q_f 2 fun _ _ _ _ _ _ _ _=>rfl,L2.q_f 4 fun _ _ _ _ _ _ _ _ _ _=>rfl,L2.q_f 3 fun _ _ _ _ _ _ _ _ _=>rfl,L2.q_f 3 fun _ _ _ _ _ _ _ _ _=>rfl,L2.q_f 3 fun _ _ _ _ _ _ _ _ _=>rfl,L2.q_f 1 fun _ _ _ _ _ _ _=>rfl,L2.q_f 2 fun _ _ _ _ _ _ _ _=>rfl,L2.q_f 4 fun _ _ _ _ _ _ _ _ _ _=>rfl,L2.q_f 3 fun _ _ _ _ _ _ _ _ _=>rfl⟩⟩
#print axioms PySem.Challenge.cw_chancehall_k21_looks_holds
